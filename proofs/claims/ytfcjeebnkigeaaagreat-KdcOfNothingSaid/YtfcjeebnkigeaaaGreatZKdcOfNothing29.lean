import Derived.StillTailTactics
import Derived.Deep.LoopGhost
import Derived.SizedLaws
import Derived.Test.YtfcjeebnkigeaaaGreatRows
import Derived.Lib.SmallJoins
import Derived.Deep.Strs
import Derived.ChangeSame
import Derived.Deep.RegionHeld3
import Derived.BigQuiet
import Derived.Deep.QuietTactic
import Derived.DeepKeys
import Derived.Laws.StructEq
import Derived.Laws.OwnMore
import Derived.Lib.MinMax
import Derived.Test.YtfcjeebnkigeaaaGreatZKdcOfNothing1
import Derived.Test.YtfcjeebnkigeaaaGreatZKdcOfNothing2
import Derived.Test.YtfcjeebnkigeaaaGreatZKdcOfNothing3
import Derived.Test.YtfcjeebnkigeaaaGreatZKdcOfNothing4
import Derived.Test.YtfcjeebnkigeaaaGreatZKdcOfNothing5
import Derived.Test.YtfcjeebnkigeaaaGreatZKdcOfNothing6
import Derived.Test.YtfcjeebnkigeaaaGreatZKdcOfNothing7
import Derived.Test.YtfcjeebnkigeaaaGreatZKdcOfNothing8
import Derived.Test.YtfcjeebnkigeaaaGreatZKdcOfNothing9
import Derived.Test.YtfcjeebnkigeaaaGreatZKdcOfNothing10
import Derived.Test.YtfcjeebnkigeaaaGreatZKdcOfNothing11
import Derived.Test.YtfcjeebnkigeaaaGreatZKdcOfNothing12
import Derived.Test.YtfcjeebnkigeaaaGreatZKdcOfNothing13
import Derived.Test.YtfcjeebnkigeaaaGreatZKdcOfNothing14
import Derived.Test.YtfcjeebnkigeaaaGreatZKdcOfNothing15
import Derived.Test.YtfcjeebnkigeaaaGreatZKdcOfNothing16
import Derived.Test.YtfcjeebnkigeaaaGreatZKdcOfNothing17
import Derived.Test.YtfcjeebnkigeaaaGreatZKdcOfNothing18
import Derived.Test.YtfcjeebnkigeaaaGreatZKdcOfNothing19
import Derived.Test.YtfcjeebnkigeaaaGreatZKdcOfNothing20
import Derived.Test.YtfcjeebnkigeaaaGreatZKdcOfNothing21
import Derived.Test.YtfcjeebnkigeaaaGreatZKdcOfNothing22
import Derived.Test.YtfcjeebnkigeaaaGreatZKdcOfNothing23
import Derived.Test.YtfcjeebnkigeaaaGreatZKdcOfNothing24
import Derived.Test.YtfcjeebnkigeaaaGreatZKdcOfNothing25
import Derived.Test.YtfcjeebnkigeaaaGreatZKdcOfNothing26
import Derived.Test.YtfcjeebnkigeaaaGreatZKdcOfNothing27
import Derived.Test.YtfcjeebnkigeaaaGreatZKdcOfNothing28
section
set_option linter.unusedVariables false
set_option linter.unusedSimpArgs false
namespace Go.Proofs.YtfcjeebnkigeaaaGreat.Kd
open Go.RowKit Go.Proofs.YtfcjeebnkigeaaaGreat.Mem Go.Proofs.YtfcjeebnkigeaaaGreat.Se
open Go.Proofs.YtfcjeebnkigeaaaGreat.Rg (It Ent Ring RO DRing DO Ap its)
open Go.Proofs.YtfcjeebnkigeaaaGreat.Ms (Re As Tg pSm reC)
abbrev scC (k x:Nat):Array Value:=#[.pointer (some ⟨k,0,none⟩),.pointer (some ⟨x,0,none⟩)]
theorem sAnn:pSm pAnn:=⟨by decide,by decide⟩
theorem sMail:pSm pMail:=⟨by decide,by decide⟩
theorem sKrA:pSm (kr rA rA):=⟨by decide,by decide⟩
theorem known1:(asL rA itA 0 ⟨pAnn,kr rA rA,50,3⟩ 5 k1L).1=0∧(asL rA itA 0 ⟨pAnn,kr rA rA,50,3⟩ 5 k1L).2.t.k=1:=by decide +kernel
theorem known2:asL rA itA 2 ⟨pMail,pAnn,50,0⟩ 5 k1L=(6,Ms.re0):=by
 have h:(Ms.tmB 5&&Ms.asB ⟨pMail,pAnn,50,0⟩)=true:=by decide +kernel
 have h1:pMail.1=rA∧hasL itA pMail=true:=by decide +kernel
 have h2:¬(pAnn=kr rA rA∧hasL itA pAnn=true):=by decide +kernel
 unfold asL
 rw[if_pos h,if_pos h1,if_neg h2]
theorem re_k {S:Nat→Prop} {w:World} {PT:Nat} {cs:Array Value} {x:Re} (hb:Blk w PT 38 cs) (h:ReN S w cs x):w.cell? ⟨PT,4,none⟩=some (.int .i64 x.t.k):=by
 obtain⟨b,a,rfl,_,_⟩:=h
 rw[hb.cell];rfl
set_option maxRecDepth 100000 in
set_option maxHeartbeats 3200000 in
theorem known_ok (w:World):Calls Tryz.prog 26 #[] w fun e w'=>e = .returned (.bool true)∧Below w.heap.size w w':=by
 have C1:=Lib.hid (begin_any false w)
 have T1:=Lib.hid (fun(w1:World)=>l_client w1)
 have T2:=Lib.hid (fun(w1:World)=>l_tgt rA rA (by decide) w1)
 have T3:=Lib.hid (fun(w1:World)=>l_service w1)
 obtain⟨cs1,ecs1⟩:∃z,z=asA ⟨pAnn,kr rA rA,50,3⟩:=⟨_,rfl⟩
 obtain⟨cs2,ecs2⟩:∃z,z=asA ⟨pMail,pAnn,50,0⟩:=⟨_,rfl⟩
 obtain⟨csK,ecsK⟩:∃z,z=keyA k1L:=⟨_,rfl⟩
 have HB1:=Lib.hid (built_as pAnn (kr rA rA) 50 3)
 have HB2:=Lib.hid (built_as0 pMail pAnn 50)
 have HBK:=Lib.hid built_k1
 rw[←ecs1] at HB1
 rw[←ecs2] at HB2
 rw[←ecsK] at HBK
 obtain⟨r1,er1⟩:∃z,z=asL rA itA 0 ⟨pAnn,kr rA rA,50,3⟩ 5 k1L:=⟨_,rfl⟩
 have HR1:=Lib.hid (show r1.1=0∧r1.2.t.k=1 from er1▸known1)
 have E1:=Lib.hid ecs1;have E2:=Lib.hid ecs2;have EK:=Lib.hid ecsK;have ER:=Lib.hid er1
 clear ecs1 ecs2 ecsK er1
 go_enter Tryz.func26,Tryz.ntmps26
 go_upto_region 4 with(first
  |(go_at_call 16;refine Calls.mono C1.out ?_;rintro e w1 ⟨g,p,es,d,rfl,hs⟩;clear C1;have HS:=Lib.hid hs;clear hs)
  |fail)
 have HKS:=Lib.hid HS.out.ks
 have HG:=Lib.hid (show Blk w1 g 44 (scC p.k d.x) from HS.out.blk)
 have HOG:=Lib.hid HS.out.gk
 have HIT:=Lib.hid (show its es=itA from HS.out.e)
 have HPR:=Lib.hid (show p.R=rA from HS.out.R)
 have HBB:=Lib.hid HS.out.b
 clear HS
 have CA1:=Lib.hid (fun(w2:World) (h:KS w2 w.heap.size p es none 0 0 0)=>as_to9 E1.out EK.out HPR.out HIT.out ER.out.symm h (by omega) (by omega) (by omega) (by decide) (by decide) k1_len sAnn sKrA)
 have CA2:=Lib.hid (fun(w2:World) (es1:List Ent) (hi:its es1=itA) (h:KS w2 w.heap.size p es1 none 2 1 4)=>as_to9 E2.out EK.out HPR.out hi known2 h (by omega) (by omega) (by omega) (by decide) (by decide) k1_len sMail sAnn)
 have HS0:=Lib.hid HKS.out
 have HG0:=Lib.hid (show g<w1.heap.size from HG.out.lt)
 go_cut [2,3] from 9 to 20 (fun rv ev wx=>∃(PT:Nat) (cs:Array Value) (es2:List Ent),rv = .pointer (some ⟨PT,0,none⟩)∧ev = .int .i64 r1.1∧Got w1 wx w.heap.size p es es2 (0+2*cnt r1.1) (0+cnt r1.1) (0+4) PT cs r1.2)
 case first=>
  have hdr:Below w1.heap.size w1 w1.drew:=below_drewN (Below.refl _ _) 1
  have HK:=Lib.hid (Kn.start HKS.out hdr)
  replace HG:=Lib.hid (HG.out.below hdr)
  clear hdr
  have HSS:=Lib.hid (show(Blk w1.drew g 44 (scC p.k d.x)) from HG.out)
  refine Reg.any_begin (fun w'=>Blk w' g 44 (scC p.k d.x)) 15 rfl (by kernel_rfl) HSS.out ?_
  refine Reg.any_take 0 (v:=?vp1) rfl (by kernel_rfl) (by kernel_rfl) (by kernel_rfl) (fun _ _ _ h=>h) HSS.out (by rfl) (fun w' hS=>?hp1) ?rp1
  case hp1=>go_simp<;>rfl
  simp only[Act.put,List.setIfInBounds_toArray,List.set_cons_zero,List.set_cons_succ]
  refine Reg.any_take 1 (v:=?vp2) rfl (by kernel_rfl) (by kernel_rfl) (by kernel_rfl) (fun _ _ _ h=>h) HSS.out (by rfl) (fun w' hS=>?hp2) ?rp2
  case hp2=>go_simp<;>rfl
  simp only[Act.put,List.setIfInBounds_toArray,List.set_cons_zero,List.set_cons_succ]
  refine Reg.any_take 2 (v:=?vp3) rfl (by kernel_rfl) (by kernel_rfl) (by kernel_rfl) (fun _ _ _ h=>h) HSS.out (by rfl) (fun w' hS=>?hp3) ?rp3
  case hp3=>go_simp<;>rfl
  simp only[Act.put,List.setIfInBounds_toArray,List.set_cons_zero,List.set_cons_succ]
  refine Reg.any_take 3 (v:=?vp4) rfl (by kernel_rfl) (by kernel_rfl) (by kernel_rfl) (fun _ _ _ h=>h) HSS.out (by rfl) (fun w' hS=>?hp4) ?rp4
  case hp4=>have k0:=Blk.cell hS 0;go_simp<;>rfl
  simp only[Act.put,List.setIfInBounds_toArray,List.set_cons_zero,List.set_cons_succ]
  refine Reg.any_take 7 (v:=.agg csK) rfl (by kernel_rfl) (by kernel_rfl) (by kernel_rfl) (fun _ _ _ h=>h) HSS.out (by rfl) (fun w' hS=>?hp5) ?rp5
  case hp5=>exact Rg.exec_build (by simp only[List.map_toArray,List.map_cons,List.map_nil];rfl) HBK.out
  simp only[Act.put,List.setIfInBounds_toArray,List.set_cons_zero,List.set_cons_succ]
  refine Reg.both_all [4,12] (by kernel_rfl) (by simp) ?_
  intro j0 hj0
  have hj0:j0=4∨j0=12:=by simpa using hj0
  rcases hj0 with rfl | rfl
  ·right
   refine⟨_,_,_,_,_,_,27,#[],rfl,by rfl,by go_simp<;>rfl,?_⟩
   refine Calls.mono (T1.out _) ?_
   rintro e wlp6 ⟨rfl,hb⟩
   replace HG:=Lib.hid (HG.out.below hb)
   replace HK:=Lib.hid (HK.out.below hb)
   replace HSS:=Lib.hid (show(Blk wlp6 g 44 (scC p.k d.x)) from HG.out)
   clear hb
   refine⟨_,rfl,HSS.out,?_⟩
   simp only[Act.put,List.setIfInBounds_toArray,List.set_cons_zero,List.set_cons_succ]
   refine Reg.both_all [5,12] (by kernel_rfl) (by simp) ?_
   intro j0 hj0
   have hj0:j0=5∨j0=12:=by simpa using hj0
   rcases hj0 with rfl | rfl
   ·right
    refine⟨_,_,_,_,_,_,28,#[.string ⟨rA.toArray⟩,.string ⟨rA.toArray⟩],rfl,by rfl,by go_simp<;>rfl,?_⟩
    refine Calls.mono (T2.out _) ?_
    rintro e wlp7 ⟨rfl,hb⟩
    replace HG:=Lib.hid (HG.out.below hb)
    replace HK:=Lib.hid (HK.out.below hb)
    replace HSS:=Lib.hid (show(Blk wlp7 g 44 (scC p.k d.x)) from HG.out)
    clear hb
    refine⟨_,rfl,HSS.out,?_⟩
    simp only[Act.put,List.setIfInBounds_toArray,List.set_cons_zero,List.set_cons_succ]
    refine Reg.any_take 6 (v:=.agg cs1) rfl (by kernel_rfl) (by kernel_rfl) (by kernel_rfl) (fun _ _ _ h=>h) HSS.out (by rfl) (fun w' hS=>?hp8) ?rp8
    case hp8=>exact Rg.exec_build (by simp only[List.map_toArray,List.map_cons,List.map_nil];rfl) HB1.out
    simp only[Act.put,List.setIfInBounds_toArray,List.set_cons_zero,List.set_cons_succ]
    refine Reg.both_all [8,12] (by kernel_rfl) (by simp) ?_
    intro j0 hj0
    have hj0:j0=8∨j0=12:=by simpa using hj0
    rcases hj0 with rfl | rfl
    ·right
     refine⟨_,_,_,_,_,_,17,#[.pointer (some ⟨p.k,0,none⟩),.agg cs1,.int .i64 5,.agg csK],rfl,by rfl,by go_simp<;>rfl,?_⟩
     refine Calls.mono (CA1.out _ HK.out.st) ?_
     rintro e wap9 ⟨cs,es2,rfl,hre,hk⟩
     have HCS:=Lib.hid (re_cells hre)
     have hnb:=hk.blk HG.out HOG.out.no
     replace HOG:=Lib.hid (hk.off HOG.out HG.out.lt)
     replace HG:=Lib.hid hnb
     clear hnb
     have HRE:=Lib.hid hre
     have HRS:=Lib.hid HK.out.size
     replace HK:=Lib.hid (HK.out.trans hk)
     clear hk hre
     replace HSS:=Lib.hid (show(Blk wap9 g 44 (scC p.k d.x)) from HG.out)
     refine⟨_,rfl,HSS.out,?_⟩
     simp only[Act.put,List.setIfInBounds_toArray,List.set_cons_zero,List.set_cons_succ]
     refine Reg.any_take 9 (v:=?vp10) rfl (by kernel_rfl) (by kernel_rfl) (by kernel_rfl) (fun _ _ _ h=>h) HSS.out (by rfl) (fun w' hS=>?hp10) ?rp10
     case hp10=>go_simp<;>rfl
     simp only[Act.put,List.setIfInBounds_toArray,List.set_cons_zero,List.set_cons_succ]
     refine Reg.any_take 10 (v:=?vp11) rfl (by kernel_rfl) (by kernel_rfl) (by kernel_rfl) (fun _ _ _ h=>h) HSS.out (by rfl) (fun w' hS=>?hp11) ?rp11
     case hp11=>go_simp<;>rfl
     simp only[Act.put,List.setIfInBounds_toArray,List.set_cons_zero,List.set_cons_succ]
     refine Reg.any_take 11 (v:=?vp12) rfl (by kernel_rfl) (by kernel_rfl) (by kernel_rfl) (fun _ _ _ h=>h) HSS.out (by rfl) (fun w' hS=>?hp12) ?rp12
     case hp12=>go_simp<;>rfl
     simp only[Act.put,List.setIfInBounds_toArray,List.set_cons_zero,List.set_cons_succ]
     refine Reg.both_all [12] (by kernel_rfl) (by simp) ?_
     intro j0 hj0
     obtain rfl:j0=12:=by simpa using hj0
     clear hj0
     left
     have hb:Below wap9.heap.size wap9 (wap9.alloc (.cells reZ 38)):=(Below.refl _ _).alloc (Nat.le_refl _) _
     have hnb:=Blk.new wap9 38 reZ
     have HNEHG:=Lib.hid (show g≠wap9.heap.size from Nat.ne_of_lt HG.out.lt)
     have HPT:=Lib.hid (show w1.heap.size≤wap9.heap.size from HK.out.size)
     have HOT:=Lib.hid (HK.out.st.offs (Nat.le_refl wap9.heap.size))
     refine⟨_,_,_,_,_,_,.pointer (some ⟨wap9.heap.size,0,none⟩),wap9.alloc (.cells reZ 38),rfl,by rfl,(by go_simp<;>rfl),(HG.out.below hb),?_⟩
     simp only[Act.put,List.setIfInBounds_toArray,List.set_cons_zero,List.set_cons_succ]
     obtain⟨wtp13,ewtp13⟩:∃z,z=wap9.alloc (.cells reZ 38):=⟨_,rfl⟩
     rw[←ewtp13] at hb hnb⊢
     clear ewtp13
     replace HRE:=Lib.hid (re_new HRE.out HRS.out (Nat.le_refl _) hb)
     clear HRS
     have HT:=Lib.hid hnb
     clear hnb
     replace HG:=Lib.hid (HG.out.below hb)
     replace HK:=Lib.hid (HK.out.below hb)
     replace HSS:=Lib.hid (show(Blk wtp13 g 44 (scC p.k d.x)) from HG.out)
     clear hb
     obtain⟨PT,ePT⟩:∃z,z=wap9.heap.size:=⟨_,rfl⟩
     rw[←ePT] at HT HPT HOT HNEHG HRE⊢
     clear ePT
     refine Reg.any_store_whole 13 rfl (by kernel_rfl) (by rfl) PT 38 _ cs HT.out (by rfl) (by rfl) (by rw[HCS.out.1];rfl) (by rw[HCS.out.1];exact re_info) HCS.out.2 ?_
     intro Vp14 hV hg
     have HGT:=Lib.hid (got_mk HK.out HRE.out HOT.out HPT.out hV hg)
     replace HG:=Lib.hid (HG.out.grown hg (fun e=>by injection e with e;exact HNEHG.out e.symm))
     clear hV hg HT HK HRE HOT HPT HCS
     replace HSS:=Lib.hid (show(Blk Vp14 g 44 (scC p.k d.x)) from HG.out)
     refine⟨HSS.out,?_⟩
     simp only[Act.put,List.setIfInBounds_toArray,List.set_cons_zero,List.set_cons_succ]
     refine Reg.any_take 14 (v:=?vp15) rfl (by kernel_rfl) (by kernel_rfl) (by kernel_rfl) (fun _ _ _ h=>h) HSS.out (by rfl) (fun w' hS=>?hp15) ?rp15
     case hp15=>go_simp<;>rfl
     simp only[Act.put,List.setIfInBounds_toArray,List.set_cons_zero,List.set_cons_succ]
     refine wpAnyH_done (by kernel_rfl) ?_ _
     go_wp2_with fail
     go_meet
     exact⟨PT,_,_,rfl,rfl,HGT.out⟩
    ·left
     have hb:Below wlp7.heap.size wlp7 (wlp7.alloc (.cells reZ 38)):=(Below.refl _ _).alloc (Nat.le_refl _) _
     have hnb:=Blk.new wlp7 38 reZ
     have HNEHG:=Lib.hid (show g≠wlp7.heap.size from Nat.ne_of_lt HG.out.lt)
     have HPT:=Lib.hid (show w1.heap.size≤wlp7.heap.size from HK.out.size)
     have HOT:=Lib.hid (HK.out.st.offs (Nat.le_refl wlp7.heap.size))
     refine⟨_,_,_,_,_,_,.pointer (some ⟨wlp7.heap.size,0,none⟩),wlp7.alloc (.cells reZ 38),rfl,by rfl,(by go_simp<;>rfl),(HG.out.below hb),?_⟩
     simp only[Act.put,List.setIfInBounds_toArray,List.set_cons_zero,List.set_cons_succ]
     obtain⟨wtp16,ewtp16⟩:∃z,z=wlp7.alloc (.cells reZ 38):=⟨_,rfl⟩
     rw[←ewtp16] at hb hnb⊢
     clear ewtp16
     have HT:=Lib.hid hnb
     clear hnb
     replace HG:=Lib.hid (HG.out.below hb)
     replace HK:=Lib.hid (HK.out.below hb)
     replace HSS:=Lib.hid (show(Blk wtp16 g 44 (scC p.k d.x)) from HG.out)
     clear hb
     obtain⟨PT,ePT⟩:∃z,z=wlp7.heap.size:=⟨_,rfl⟩
     rw[←ePT] at HT HPT HOT HNEHG⊢
     clear ePT
     refine Reg.both_all [8] (by kernel_rfl) (by simp) ?_
     intro j0 hj0
     obtain rfl:j0=8:=by simpa using hj0
     clear hj0
     right
     refine⟨_,_,_,_,_,_,17,#[.pointer (some ⟨p.k,0,none⟩),.agg cs1,.int .i64 5,.agg csK],rfl,by rfl,by go_simp<;>rfl,?_⟩
     refine Calls.mono (CA1.out _ HK.out.st) ?_
     rintro e wap17 ⟨cs,es2,rfl,hre,hk⟩
     have HCS:=Lib.hid (re_cells hre)
     have hnb:=hk.blk HG.out HOG.out.no
     replace HOG:=Lib.hid (hk.off HOG.out HG.out.lt)
     replace HG:=Lib.hid hnb
     clear hnb
     have HRE:=Lib.hid (re_old hre HK.out.size HT.out.lt)
     have hnb:=hk.blk HT.out HOT.out.no
     replace HOT:=Lib.hid (hk.off HOT.out HT.out.lt)
     replace HT:=Lib.hid hnb
     clear hnb
     replace HK:=Lib.hid (HK.out.trans hk)
     clear hk hre
     replace HSS:=Lib.hid (show(Blk wap17 g 44 (scC p.k d.x)) from HG.out)
     refine⟨_,rfl,HSS.out,?_⟩
     simp only[Act.put,List.setIfInBounds_toArray,List.set_cons_zero,List.set_cons_succ]
     refine Reg.any_take 9 (v:=?vp18) rfl (by kernel_rfl) (by kernel_rfl) (by kernel_rfl) (fun _ _ _ h=>h) HSS.out (by rfl) (fun w' hS=>?hp18) ?rp18
     case hp18=>go_simp<;>rfl
     simp only[Act.put,List.setIfInBounds_toArray,List.set_cons_zero,List.set_cons_succ]
     refine Reg.any_take 10 (v:=?vp19) rfl (by kernel_rfl) (by kernel_rfl) (by kernel_rfl) (fun _ _ _ h=>h) HSS.out (by rfl) (fun w' hS=>?hp19) ?rp19
     case hp19=>go_simp<;>rfl
     simp only[Act.put,List.setIfInBounds_toArray,List.set_cons_zero,List.set_cons_succ]
     refine Reg.any_take 11 (v:=?vp20) rfl (by kernel_rfl) (by kernel_rfl) (by kernel_rfl) (fun _ _ _ h=>h) HSS.out (by rfl) (fun w' hS=>?hp20) ?rp20
     case hp20=>go_simp<;>rfl
     simp only[Act.put,List.setIfInBounds_toArray,List.set_cons_zero,List.set_cons_succ]
     refine Reg.any_store_whole 13 rfl (by kernel_rfl) (by rfl) PT 38 _ cs HT.out (by rfl) (by rfl) (by rw[HCS.out.1];rfl) (by rw[HCS.out.1];exact re_info) HCS.out.2 ?_
     intro Vp21 hV hg
     have HGT:=Lib.hid (got_mk HK.out HRE.out HOT.out HPT.out hV hg)
     replace HG:=Lib.hid (HG.out.grown hg (fun e=>by injection e with e;exact HNEHG.out e.symm))
     clear hV hg HT HK HRE HOT HPT HCS
     replace HSS:=Lib.hid (show(Blk Vp21 g 44 (scC p.k d.x)) from HG.out)
     refine⟨HSS.out,?_⟩
     simp only[Act.put,List.setIfInBounds_toArray,List.set_cons_zero,List.set_cons_succ]
     refine Reg.any_take 14 (v:=?vp22) rfl (by kernel_rfl) (by kernel_rfl) (by kernel_rfl) (fun _ _ _ h=>h) HSS.out (by rfl) (fun w' hS=>?hp22) ?rp22
     case hp22=>go_simp<;>rfl
     simp only[Act.put,List.setIfInBounds_toArray,List.set_cons_zero,List.set_cons_succ]
     refine wpAnyH_done (by kernel_rfl) ?_ _
     go_wp2_with fail
     go_meet
     exact⟨PT,_,_,rfl,rfl,HGT.out⟩
   ·left
    have hb:Below wlp6.heap.size wlp6 (wlp6.alloc (.cells reZ 38)):=(Below.refl _ _).alloc (Nat.le_refl _) _
    have hnb:=Blk.new wlp6 38 reZ
    have HNEHG:=Lib.hid (show g≠wlp6.heap.size from Nat.ne_of_lt HG.out.lt)
    have HPT:=Lib.hid (show w1.heap.size≤wlp6.heap.size from HK.out.size)
    have HOT:=Lib.hid (HK.out.st.offs (Nat.le_refl wlp6.heap.size))
    refine⟨_,_,_,_,_,_,.pointer (some ⟨wlp6.heap.size,0,none⟩),wlp6.alloc (.cells reZ 38),rfl,by rfl,(by go_simp<;>rfl),(HG.out.below hb),?_⟩
    simp only[Act.put,List.setIfInBounds_toArray,List.set_cons_zero,List.set_cons_succ]
    obtain⟨wtp23,ewtp23⟩:∃z,z=wlp6.alloc (.cells reZ 38):=⟨_,rfl⟩
    rw[←ewtp23] at hb hnb⊢
    clear ewtp23
    have HT:=Lib.hid hnb
    clear hnb
    replace HG:=Lib.hid (HG.out.below hb)
    replace HK:=Lib.hid (HK.out.below hb)
    replace HSS:=Lib.hid (show(Blk wtp23 g 44 (scC p.k d.x)) from HG.out)
    clear hb
    obtain⟨PT,ePT⟩:∃z,z=wlp6.heap.size:=⟨_,rfl⟩
    rw[←ePT] at HT HPT HOT HNEHG⊢
    clear ePT
    refine Reg.both_all [5] (by kernel_rfl) (by simp) ?_
    intro j0 hj0
    obtain rfl:j0=5:=by simpa using hj0
    clear hj0
    right
    refine⟨_,_,_,_,_,_,28,#[.string ⟨rA.toArray⟩,.string ⟨rA.toArray⟩],rfl,by rfl,by go_simp<;>rfl,?_⟩
    refine Calls.mono (T2.out _) ?_
    rintro e wlp24 ⟨rfl,hb⟩
    replace HG:=Lib.hid (HG.out.below hb)
    replace HK:=Lib.hid (HK.out.below hb)
    replace HT:=Lib.hid (HT.out.below hb)
    replace HSS:=Lib.hid (show(Blk wlp24 g 44 (scC p.k d.x)) from HG.out)
    clear hb
    refine⟨_,rfl,HSS.out,?_⟩
    simp only[Act.put,List.setIfInBounds_toArray,List.set_cons_zero,List.set_cons_succ]
    refine Reg.any_take 6 (v:=.agg cs1) rfl (by kernel_rfl) (by kernel_rfl) (by kernel_rfl) (fun _ _ _ h=>h) HSS.out (by rfl) (fun w' hS=>?hp25) ?rp25
    case hp25=>exact Rg.exec_build (by simp only[List.map_toArray,List.map_cons,List.map_nil];rfl) HB1.out
    simp only[Act.put,List.setIfInBounds_toArray,List.set_cons_zero,List.set_cons_succ]
    refine Reg.both_all [8] (by kernel_rfl) (by simp) ?_
    intro j0 hj0
    obtain rfl:j0=8:=by simpa using hj0
    clear hj0
    right
    refine⟨_,_,_,_,_,_,17,#[.pointer (some ⟨p.k,0,none⟩),.agg cs1,.int .i64 5,.agg csK],rfl,by rfl,by go_simp<;>rfl,?_⟩
    refine Calls.mono (CA1.out _ HK.out.st) ?_
    rintro e wap26 ⟨cs,es2,rfl,hre,hk⟩
    have HCS:=Lib.hid (re_cells hre)
    have hnb:=hk.blk HG.out HOG.out.no
    replace HOG:=Lib.hid (hk.off HOG.out HG.out.lt)
    replace HG:=Lib.hid hnb
    clear hnb
    have HRE:=Lib.hid (re_old hre HK.out.size HT.out.lt)
    have hnb:=hk.blk HT.out HOT.out.no
    replace HOT:=Lib.hid (hk.off HOT.out HT.out.lt)
    replace HT:=Lib.hid hnb
    clear hnb
    replace HK:=Lib.hid (HK.out.trans hk)
    clear hk hre
    replace HSS:=Lib.hid (show(Blk wap26 g 44 (scC p.k d.x)) from HG.out)
    refine⟨_,rfl,HSS.out,?_⟩
    simp only[Act.put,List.setIfInBounds_toArray,List.set_cons_zero,List.set_cons_succ]
    refine Reg.any_take 9 (v:=?vp27) rfl (by kernel_rfl) (by kernel_rfl) (by kernel_rfl) (fun _ _ _ h=>h) HSS.out (by rfl) (fun w' hS=>?hp27) ?rp27
    case hp27=>go_simp<;>rfl
    simp only[Act.put,List.setIfInBounds_toArray,List.set_cons_zero,List.set_cons_succ]
    refine Reg.any_take 10 (v:=?vp28) rfl (by kernel_rfl) (by kernel_rfl) (by kernel_rfl) (fun _ _ _ h=>h) HSS.out (by rfl) (fun w' hS=>?hp28) ?rp28
    case hp28=>go_simp<;>rfl
    simp only[Act.put,List.setIfInBounds_toArray,List.set_cons_zero,List.set_cons_succ]
    refine Reg.any_take 11 (v:=?vp29) rfl (by kernel_rfl) (by kernel_rfl) (by kernel_rfl) (fun _ _ _ h=>h) HSS.out (by rfl) (fun w' hS=>?hp29) ?rp29
    case hp29=>go_simp<;>rfl
    simp only[Act.put,List.setIfInBounds_toArray,List.set_cons_zero,List.set_cons_succ]
    refine Reg.any_store_whole 13 rfl (by kernel_rfl) (by rfl) PT 38 _ cs HT.out (by rfl) (by rfl) (by rw[HCS.out.1];rfl) (by rw[HCS.out.1];exact re_info) HCS.out.2 ?_
    intro Vp30 hV hg
    have HGT:=Lib.hid (got_mk HK.out HRE.out HOT.out HPT.out hV hg)
    replace HG:=Lib.hid (HG.out.grown hg (fun e=>by injection e with e;exact HNEHG.out e.symm))
    clear hV hg HT HK HRE HOT HPT HCS
    replace HSS:=Lib.hid (show(Blk Vp30 g 44 (scC p.k d.x)) from HG.out)
    refine⟨HSS.out,?_⟩
    simp only[Act.put,List.setIfInBounds_toArray,List.set_cons_zero,List.set_cons_succ]
    refine Reg.any_take 14 (v:=?vp31) rfl (by kernel_rfl) (by kernel_rfl) (by kernel_rfl) (fun _ _ _ h=>h) HSS.out (by rfl) (fun w' hS=>?hp31) ?rp31
    case hp31=>go_simp<;>rfl
    simp only[Act.put,List.setIfInBounds_toArray,List.set_cons_zero,List.set_cons_succ]
    refine wpAnyH_done (by kernel_rfl) ?_ _
    go_wp2_with fail
    go_meet
    exact⟨PT,_,_,rfl,rfl,HGT.out⟩
  ·left
   have hb:Below w1.drew.heap.size w1.drew (w1.drew.alloc (.cells reZ 38)):=(Below.refl _ _).alloc (Nat.le_refl _) _
   have hnb:=Blk.new w1.drew 38 reZ
   have HNEHG:=Lib.hid (show g≠w1.drew.heap.size from Nat.ne_of_lt HG.out.lt)
   have HPT:=Lib.hid (show w1.heap.size≤w1.drew.heap.size from HK.out.size)
   have HOT:=Lib.hid (HK.out.st.offs (Nat.le_refl w1.drew.heap.size))
   refine⟨_,_,_,_,_,_,.pointer (some ⟨w1.drew.heap.size,0,none⟩),w1.drew.alloc (.cells reZ 38),rfl,by rfl,(by go_simp<;>rfl),(HG.out.below hb),?_⟩
   simp only[Act.put,List.setIfInBounds_toArray,List.set_cons_zero,List.set_cons_succ]
   obtain⟨wtp32,ewtp32⟩:∃z,z=w1.drew.alloc (.cells reZ 38):=⟨_,rfl⟩
   rw[←ewtp32] at hb hnb⊢
   clear ewtp32
   have HT:=Lib.hid hnb
   clear hnb
   replace HG:=Lib.hid (HG.out.below hb)
   replace HK:=Lib.hid (HK.out.below hb)
   replace HSS:=Lib.hid (show(Blk wtp32 g 44 (scC p.k d.x)) from HG.out)
   clear hb
   obtain⟨PT,ePT⟩:∃z,z=w1.drew.heap.size:=⟨_,rfl⟩
   rw[←ePT] at HT HPT HOT HNEHG⊢
   clear ePT
   refine Reg.both_all [4] (by kernel_rfl) (by simp) ?_
   intro j0 hj0
   obtain rfl:j0=4:=by simpa using hj0
   clear hj0
   right
   refine⟨_,_,_,_,_,_,27,#[],rfl,by rfl,by go_simp<;>rfl,?_⟩
   refine Calls.mono (T1.out _) ?_
   rintro e wlp33 ⟨rfl,hb⟩
   replace HG:=Lib.hid (HG.out.below hb)
   replace HK:=Lib.hid (HK.out.below hb)
   replace HT:=Lib.hid (HT.out.below hb)
   replace HSS:=Lib.hid (show(Blk wlp33 g 44 (scC p.k d.x)) from HG.out)
   clear hb
   refine⟨_,rfl,HSS.out,?_⟩
   simp only[Act.put,List.setIfInBounds_toArray,List.set_cons_zero,List.set_cons_succ]
   refine Reg.both_all [5] (by kernel_rfl) (by simp) ?_
   intro j0 hj0
   obtain rfl:j0=5:=by simpa using hj0
   clear hj0
   right
   refine⟨_,_,_,_,_,_,28,#[.string ⟨rA.toArray⟩,.string ⟨rA.toArray⟩],rfl,by rfl,by go_simp<;>rfl,?_⟩
   refine Calls.mono (T2.out _) ?_
   rintro e wlp34 ⟨rfl,hb⟩
   replace HG:=Lib.hid (HG.out.below hb)
   replace HK:=Lib.hid (HK.out.below hb)
   replace HT:=Lib.hid (HT.out.below hb)
   replace HSS:=Lib.hid (show(Blk wlp34 g 44 (scC p.k d.x)) from HG.out)
   clear hb
   refine⟨_,rfl,HSS.out,?_⟩
   simp only[Act.put,List.setIfInBounds_toArray,List.set_cons_zero,List.set_cons_succ]
   refine Reg.any_take 6 (v:=.agg cs1) rfl (by kernel_rfl) (by kernel_rfl) (by kernel_rfl) (fun _ _ _ h=>h) HSS.out (by rfl) (fun w' hS=>?hp35) ?rp35
   case hp35=>exact Rg.exec_build (by simp only[List.map_toArray,List.map_cons,List.map_nil];rfl) HB1.out
   simp only[Act.put,List.setIfInBounds_toArray,List.set_cons_zero,List.set_cons_succ]
   refine Reg.both_all [8] (by kernel_rfl) (by simp) ?_
   intro j0 hj0
   obtain rfl:j0=8:=by simpa using hj0
   clear hj0
   right
   refine⟨_,_,_,_,_,_,17,#[.pointer (some ⟨p.k,0,none⟩),.agg cs1,.int .i64 5,.agg csK],rfl,by rfl,by go_simp<;>rfl,?_⟩
   refine Calls.mono (CA1.out _ HK.out.st) ?_
   rintro e wap36 ⟨cs,es2,rfl,hre,hk⟩
   have HCS:=Lib.hid (re_cells hre)
   have hnb:=hk.blk HG.out HOG.out.no
   replace HOG:=Lib.hid (hk.off HOG.out HG.out.lt)
   replace HG:=Lib.hid hnb
   clear hnb
   have HRE:=Lib.hid (re_old hre HK.out.size HT.out.lt)
   have hnb:=hk.blk HT.out HOT.out.no
   replace HOT:=Lib.hid (hk.off HOT.out HT.out.lt)
   replace HT:=Lib.hid hnb
   clear hnb
   replace HK:=Lib.hid (HK.out.trans hk)
   clear hk hre
   replace HSS:=Lib.hid (show(Blk wap36 g 44 (scC p.k d.x)) from HG.out)
   refine⟨_,rfl,HSS.out,?_⟩
   simp only[Act.put,List.setIfInBounds_toArray,List.set_cons_zero,List.set_cons_succ]
   refine Reg.any_take 9 (v:=?vp37) rfl (by kernel_rfl) (by kernel_rfl) (by kernel_rfl) (fun _ _ _ h=>h) HSS.out (by rfl) (fun w' hS=>?hp37) ?rp37
   case hp37=>go_simp<;>rfl
   simp only[Act.put,List.setIfInBounds_toArray,List.set_cons_zero,List.set_cons_succ]
   refine Reg.any_take 10 (v:=?vp38) rfl (by kernel_rfl) (by kernel_rfl) (by kernel_rfl) (fun _ _ _ h=>h) HSS.out (by rfl) (fun w' hS=>?hp38) ?rp38
   case hp38=>go_simp<;>rfl
   simp only[Act.put,List.setIfInBounds_toArray,List.set_cons_zero,List.set_cons_succ]
   refine Reg.any_take 11 (v:=?vp39) rfl (by kernel_rfl) (by kernel_rfl) (by kernel_rfl) (fun _ _ _ h=>h) HSS.out (by rfl) (fun w' hS=>?hp39) ?rp39
   case hp39=>go_simp<;>rfl
   simp only[Act.put,List.setIfInBounds_toArray,List.set_cons_zero,List.set_cons_succ]
   refine Reg.any_store_whole 13 rfl (by kernel_rfl) (by rfl) PT 38 _ cs HT.out (by rfl) (by rfl) (by rw[HCS.out.1];rfl) (by rw[HCS.out.1];exact re_info) HCS.out.2 ?_
   intro Vp40 hV hg
   have HGT:=Lib.hid (got_mk HK.out HRE.out HOT.out HPT.out hV hg)
   replace HG:=Lib.hid (HG.out.grown hg (fun e=>by injection e with e;exact HNEHG.out e.symm))
   clear hV hg HT HK HRE HOT HPT HCS
   replace HSS:=Lib.hid (show(Blk Vp40 g 44 (scC p.k d.x)) from HG.out)
   refine⟨HSS.out,?_⟩
   simp only[Act.put,List.setIfInBounds_toArray,List.set_cons_zero,List.set_cons_succ]
   refine Reg.any_take 14 (v:=?vp41) rfl (by kernel_rfl) (by kernel_rfl) (by kernel_rfl) (fun _ _ _ h=>h) HSS.out (by rfl) (fun w' hS=>?hp41) ?rp41
   case hp41=>go_simp<;>rfl
   simp only[Act.put,List.setIfInBounds_toArray,List.set_cons_zero,List.set_cons_succ]
   refine wpAnyH_done (by kernel_rfl) ?_ _
   go_wp2_with fail
   go_meet
   exact⟨PT,_,_,rfl,rfl,HGT.out⟩
 case rest=>
  obtain⟨PT,cs,es2,rfl,rfl,hgt⟩:=hcut
  have HPT:=Lib.hid (show PT<wc.heap.size∧PT≠g from⟨hgt.blk.lt,fun e=>by have:=HG.out.lt;have:=hgt.lo;omega⟩)
  have HK4:=re_k hgt.blk hgt.re
  have HTO:=Lib.hid hgt.off
  have HTB:=Lib.hid hgt.blk
  have HTR:=Lib.hid hgt.re
  rw[HR1.out.2] at HK4
  replace HK4:=Lib.hid HK4
  replace HKS:=Lib.hid (show KS wc w.heap.size p es2 none 2 1 4 by have:=hgt.kn.st;rw[HR1.out.1] at this;exact this)
  replace HIT:=Lib.hid ((bts_its hgt.kn.eq).trans HIT.out)
  replace HBB:=Lib.hid (HBB.out.trans (hgt.kn.base HS0.out))
  replace HG:=Lib.hid (hgt.kn.blk HG.out HOG.out.no)
  replace HOG:=Lib.hid (hgt.kn.off HOG.out HG0.out)
  have HS1:=Lib.hid HKS.out
  have HG1:=Lib.hid (show g<wc.heap.size from HG.out.lt)
  rw[HR1.out.1]
  clear hgt CA1 HR1 ER HS0 HG0
  go_upto_region 5 with fail
  go_cut [4,5] from 21 to 32 (fun rv ev wx=>∃(PT:Nat) (cs:Array Value) (es3:List Ent),rv = .pointer (some ⟨PT,0,none⟩)∧ev = .int .i64 6∧Got wc wx w.heap.size p es2 es3 2 1 8 PT cs Ms.re0)
  case first=>
   have hdr:Below wc.heap.size wc wc.drew:=below_drewN (Below.refl _ _) 1
   have HK:=Lib.hid (Kn.start HKS.out hdr)
   replace HG:=Lib.hid (HG.out.below hdr)
   clear hdr
   have HSS:=Lib.hid (show(Blk wc.drew g 44 (scC p.k d.x)) from HG.out)
   refine Reg.any_begin (fun w'=>Blk w' g 44 (scC p.k d.x)) 15 rfl (by kernel_rfl) HSS.out ?_
   refine Reg.any_take 0 (v:=?vq1) rfl (by kernel_rfl) (by kernel_rfl) (by kernel_rfl) (fun _ _ _ h=>h) HSS.out (by rfl) (fun w' hS=>?hq1) ?rq1
   case hq1=>go_simp<;>rfl
   simp only[Act.put,List.setIfInBounds_toArray,List.set_cons_zero,List.set_cons_succ]
   refine Reg.any_take 1 (v:=?vq2) rfl (by kernel_rfl) (by kernel_rfl) (by kernel_rfl) (fun _ _ _ h=>h) HSS.out (by rfl) (fun w' hS=>?hq2) ?rq2
   case hq2=>go_simp<;>rfl
   simp only[Act.put,List.setIfInBounds_toArray,List.set_cons_zero,List.set_cons_succ]
   refine Reg.any_take 2 (v:=?vq3) rfl (by kernel_rfl) (by kernel_rfl) (by kernel_rfl) (fun _ _ _ h=>h) HSS.out (by rfl) (fun w' hS=>?hq3) ?rq3
   case hq3=>go_simp<;>rfl
   simp only[Act.put,List.setIfInBounds_toArray,List.set_cons_zero,List.set_cons_succ]
   refine Reg.any_take 3 (v:=?vq4) rfl (by kernel_rfl) (by kernel_rfl) (by kernel_rfl) (fun _ _ _ h=>h) HSS.out (by rfl) (fun w' hS=>?hq4) ?rq4
   case hq4=>have k0:=Blk.cell hS 0;go_simp<;>rfl
   simp only[Act.put,List.setIfInBounds_toArray,List.set_cons_zero,List.set_cons_succ]
   refine Reg.any_take 7 (v:=.agg csK) rfl (by kernel_rfl) (by kernel_rfl) (by kernel_rfl) (fun _ _ _ h=>h) HSS.out (by rfl) (fun w' hS=>?hq5) ?rq5
   case hq5=>exact Rg.exec_build (by simp only[List.map_toArray,List.map_cons,List.map_nil];rfl) HBK.out
   simp only[Act.put,List.setIfInBounds_toArray,List.set_cons_zero,List.set_cons_succ]
   refine Reg.both_all [4,12] (by kernel_rfl) (by simp) ?_
   intro j0 hj0
   have hj0:j0=4∨j0=12:=by simpa using hj0
   rcases hj0 with rfl | rfl
   ·right
    refine⟨_,_,_,_,_,_,34,#[],rfl,by rfl,by go_simp<;>rfl,?_⟩
    refine Calls.mono (T3.out _) ?_
    rintro e wlq6 ⟨rfl,hb⟩
    replace HG:=Lib.hid (HG.out.below hb)
    replace HK:=Lib.hid (HK.out.below hb)
    replace HSS:=Lib.hid (show(Blk wlq6 g 44 (scC p.k d.x)) from HG.out)
    clear hb
    refine⟨_,rfl,HSS.out,?_⟩
    simp only[Act.put,List.setIfInBounds_toArray,List.set_cons_zero,List.set_cons_succ]
    refine Reg.both_all [5,12] (by kernel_rfl) (by simp) ?_
    intro j0 hj0
    have hj0:j0=5∨j0=12:=by simpa using hj0
    rcases hj0 with rfl | rfl
    ·right
     refine⟨_,_,_,_,_,_,27,#[],rfl,by rfl,by go_simp<;>rfl,?_⟩
     refine Calls.mono (T1.out _) ?_
     rintro e wlq7 ⟨rfl,hb⟩
     replace HG:=Lib.hid (HG.out.below hb)
     replace HK:=Lib.hid (HK.out.below hb)
     replace HSS:=Lib.hid (show(Blk wlq7 g 44 (scC p.k d.x)) from HG.out)
     clear hb
     refine⟨_,rfl,HSS.out,?_⟩
     simp only[Act.put,List.setIfInBounds_toArray,List.set_cons_zero,List.set_cons_succ]
     refine Reg.any_take 6 (v:=.agg cs2) rfl (by kernel_rfl) (by kernel_rfl) (by kernel_rfl) (fun _ _ _ h=>h) HSS.out (by rfl) (fun w' hS=>?hq8) ?rq8
     case hq8=>exact Rg.exec_build (by simp only[List.map_toArray,List.map_cons,List.map_nil];rfl) HB2.out
     simp only[Act.put,List.setIfInBounds_toArray,List.set_cons_zero,List.set_cons_succ]
     refine Reg.both_all [8,12] (by kernel_rfl) (by simp) ?_
     intro j0 hj0
     have hj0:j0=8∨j0=12:=by simpa using hj0
     rcases hj0 with rfl | rfl
     ·right
      refine⟨_,_,_,_,_,_,17,#[.pointer (some ⟨p.k,0,none⟩),.agg cs2,.int .i64 5,.agg csK],rfl,by rfl,by go_simp<;>rfl,?_⟩
      refine Calls.mono (CA2.out _ _ HIT.out HK.out.st) ?_
      rintro e waq9 ⟨cs,es2,rfl,hre,hk⟩
      have HCS:=Lib.hid (re_cells hre)
      have hnb:=hk.blk HG.out HOG.out.no
      replace HOG:=Lib.hid (hk.off HOG.out HG.out.lt)
      replace HG:=Lib.hid hnb
      clear hnb
      have HRE:=Lib.hid hre
      have HRS:=Lib.hid HK.out.size
      replace HK:=Lib.hid (HK.out.trans hk)
      clear hk hre
      replace HSS:=Lib.hid (show(Blk waq9 g 44 (scC p.k d.x)) from HG.out)
      refine⟨_,rfl,HSS.out,?_⟩
      simp only[Act.put,List.setIfInBounds_toArray,List.set_cons_zero,List.set_cons_succ]
      refine Reg.any_take 9 (v:=?vq10) rfl (by kernel_rfl) (by kernel_rfl) (by kernel_rfl) (fun _ _ _ h=>h) HSS.out (by rfl) (fun w' hS=>?hq10) ?rq10
      case hq10=>go_simp<;>rfl
      simp only[Act.put,List.setIfInBounds_toArray,List.set_cons_zero,List.set_cons_succ]
      refine Reg.any_take 10 (v:=?vq11) rfl (by kernel_rfl) (by kernel_rfl) (by kernel_rfl) (fun _ _ _ h=>h) HSS.out (by rfl) (fun w' hS=>?hq11) ?rq11
      case hq11=>go_simp<;>rfl
      simp only[Act.put,List.setIfInBounds_toArray,List.set_cons_zero,List.set_cons_succ]
      refine Reg.any_take 11 (v:=?vq12) rfl (by kernel_rfl) (by kernel_rfl) (by kernel_rfl) (fun _ _ _ h=>h) HSS.out (by rfl) (fun w' hS=>?hq12) ?rq12
      case hq12=>go_simp<;>rfl
      simp only[Act.put,List.setIfInBounds_toArray,List.set_cons_zero,List.set_cons_succ]
      refine Reg.both_all [12] (by kernel_rfl) (by simp) ?_
      intro j0 hj0
      obtain rfl:j0=12:=by simpa using hj0
      clear hj0
      left
      have hb:Below waq9.heap.size waq9 (waq9.alloc (.cells reZ 38)):=(Below.refl _ _).alloc (Nat.le_refl _) _
      have hnb:=Blk.new waq9 38 reZ
      have HNEHG:=Lib.hid (show g≠waq9.heap.size from Nat.ne_of_lt HG.out.lt)
      have HPT:=Lib.hid (show wc.heap.size≤waq9.heap.size from HK.out.size)
      have HOT:=Lib.hid (HK.out.st.offs (Nat.le_refl waq9.heap.size))
      refine⟨_,_,_,_,_,_,.pointer (some ⟨waq9.heap.size,0,none⟩),waq9.alloc (.cells reZ 38),rfl,by rfl,(by go_simp<;>rfl),(HG.out.below hb),?_⟩
      simp only[Act.put,List.setIfInBounds_toArray,List.set_cons_zero,List.set_cons_succ]
      obtain⟨wtq13,ewtq13⟩:∃z,z=waq9.alloc (.cells reZ 38):=⟨_,rfl⟩
      rw[←ewtq13] at hb hnb⊢
      clear ewtq13
      replace HRE:=Lib.hid (re_new HRE.out HRS.out (Nat.le_refl _) hb)
      clear HRS
      have HT:=Lib.hid hnb
      clear hnb
      replace HG:=Lib.hid (HG.out.below hb)
      replace HK:=Lib.hid (HK.out.below hb)
      replace HSS:=Lib.hid (show(Blk wtq13 g 44 (scC p.k d.x)) from HG.out)
      clear hb
      obtain⟨PT,ePT⟩:∃z,z=waq9.heap.size:=⟨_,rfl⟩
      rw[←ePT] at HT HPT HOT HNEHG HRE⊢
      clear ePT
      refine Reg.any_store_whole 13 rfl (by kernel_rfl) (by rfl) PT 38 _ cs HT.out (by rfl) (by rfl) (by rw[HCS.out.1];rfl) (by rw[HCS.out.1];exact re_info) HCS.out.2 ?_
      intro Vq14 hV hg
      have HGT:=Lib.hid (got_mk HK.out HRE.out HOT.out HPT.out hV hg)
      replace HG:=Lib.hid (HG.out.grown hg (fun e=>by injection e with e;exact HNEHG.out e.symm))
      clear hV hg HT HK HRE HOT HPT HCS
      replace HSS:=Lib.hid (show(Blk Vq14 g 44 (scC p.k d.x)) from HG.out)
      refine⟨HSS.out,?_⟩
      simp only[Act.put,List.setIfInBounds_toArray,List.set_cons_zero,List.set_cons_succ]
      refine Reg.any_take 14 (v:=?vq15) rfl (by kernel_rfl) (by kernel_rfl) (by kernel_rfl) (fun _ _ _ h=>h) HSS.out (by rfl) (fun w' hS=>?hq15) ?rq15
      case hq15=>go_simp<;>rfl
      simp only[Act.put,List.setIfInBounds_toArray,List.set_cons_zero,List.set_cons_succ]
      refine wpAnyH_done (by kernel_rfl) ?_ _
      go_wp2_with fail
      go_meet
      exact⟨PT,_,_,rfl,rfl,HGT.out⟩
     ·left
      have hb:Below wlq7.heap.size wlq7 (wlq7.alloc (.cells reZ 38)):=(Below.refl _ _).alloc (Nat.le_refl _) _
      have hnb:=Blk.new wlq7 38 reZ
      have HNEHG:=Lib.hid (show g≠wlq7.heap.size from Nat.ne_of_lt HG.out.lt)
      have HPT:=Lib.hid (show wc.heap.size≤wlq7.heap.size from HK.out.size)
      have HOT:=Lib.hid (HK.out.st.offs (Nat.le_refl wlq7.heap.size))
      refine⟨_,_,_,_,_,_,.pointer (some ⟨wlq7.heap.size,0,none⟩),wlq7.alloc (.cells reZ 38),rfl,by rfl,(by go_simp<;>rfl),(HG.out.below hb),?_⟩
      simp only[Act.put,List.setIfInBounds_toArray,List.set_cons_zero,List.set_cons_succ]
      obtain⟨wtq16,ewtq16⟩:∃z,z=wlq7.alloc (.cells reZ 38):=⟨_,rfl⟩
      rw[←ewtq16] at hb hnb⊢
      clear ewtq16
      have HT:=Lib.hid hnb
      clear hnb
      replace HG:=Lib.hid (HG.out.below hb)
      replace HK:=Lib.hid (HK.out.below hb)
      replace HSS:=Lib.hid (show(Blk wtq16 g 44 (scC p.k d.x)) from HG.out)
      clear hb
      obtain⟨PT,ePT⟩:∃z,z=wlq7.heap.size:=⟨_,rfl⟩
      rw[←ePT] at HT HPT HOT HNEHG⊢
      clear ePT
      refine Reg.both_all [8] (by kernel_rfl) (by simp) ?_
      intro j0 hj0
      obtain rfl:j0=8:=by simpa using hj0
      clear hj0
      right
      refine⟨_,_,_,_,_,_,17,#[.pointer (some ⟨p.k,0,none⟩),.agg cs2,.int .i64 5,.agg csK],rfl,by rfl,by go_simp<;>rfl,?_⟩
      refine Calls.mono (CA2.out _ _ HIT.out HK.out.st) ?_
      rintro e waq17 ⟨cs,es2,rfl,hre,hk⟩
      have HCS:=Lib.hid (re_cells hre)
      have hnb:=hk.blk HG.out HOG.out.no
      replace HOG:=Lib.hid (hk.off HOG.out HG.out.lt)
      replace HG:=Lib.hid hnb
      clear hnb
      have HRE:=Lib.hid (re_old hre HK.out.size HT.out.lt)
      have hnb:=hk.blk HT.out HOT.out.no
      replace HOT:=Lib.hid (hk.off HOT.out HT.out.lt)
      replace HT:=Lib.hid hnb
      clear hnb
      replace HK:=Lib.hid (HK.out.trans hk)
      clear hk hre
      replace HSS:=Lib.hid (show(Blk waq17 g 44 (scC p.k d.x)) from HG.out)
      refine⟨_,rfl,HSS.out,?_⟩
      simp only[Act.put,List.setIfInBounds_toArray,List.set_cons_zero,List.set_cons_succ]
      refine Reg.any_take 9 (v:=?vq18) rfl (by kernel_rfl) (by kernel_rfl) (by kernel_rfl) (fun _ _ _ h=>h) HSS.out (by rfl) (fun w' hS=>?hq18) ?rq18
      case hq18=>go_simp<;>rfl
      simp only[Act.put,List.setIfInBounds_toArray,List.set_cons_zero,List.set_cons_succ]
      refine Reg.any_take 10 (v:=?vq19) rfl (by kernel_rfl) (by kernel_rfl) (by kernel_rfl) (fun _ _ _ h=>h) HSS.out (by rfl) (fun w' hS=>?hq19) ?rq19
      case hq19=>go_simp<;>rfl
      simp only[Act.put,List.setIfInBounds_toArray,List.set_cons_zero,List.set_cons_succ]
      refine Reg.any_take 11 (v:=?vq20) rfl (by kernel_rfl) (by kernel_rfl) (by kernel_rfl) (fun _ _ _ h=>h) HSS.out (by rfl) (fun w' hS=>?hq20) ?rq20
      case hq20=>go_simp<;>rfl
      simp only[Act.put,List.setIfInBounds_toArray,List.set_cons_zero,List.set_cons_succ]
      refine Reg.any_store_whole 13 rfl (by kernel_rfl) (by rfl) PT 38 _ cs HT.out (by rfl) (by rfl) (by rw[HCS.out.1];rfl) (by rw[HCS.out.1];exact re_info) HCS.out.2 ?_
      intro Vq21 hV hg
      have HGT:=Lib.hid (got_mk HK.out HRE.out HOT.out HPT.out hV hg)
      replace HG:=Lib.hid (HG.out.grown hg (fun e=>by injection e with e;exact HNEHG.out e.symm))
      clear hV hg HT HK HRE HOT HPT HCS
      replace HSS:=Lib.hid (show(Blk Vq21 g 44 (scC p.k d.x)) from HG.out)
      refine⟨HSS.out,?_⟩
      simp only[Act.put,List.setIfInBounds_toArray,List.set_cons_zero,List.set_cons_succ]
      refine Reg.any_take 14 (v:=?vq22) rfl (by kernel_rfl) (by kernel_rfl) (by kernel_rfl) (fun _ _ _ h=>h) HSS.out (by rfl) (fun w' hS=>?hq22) ?rq22
      case hq22=>go_simp<;>rfl
      simp only[Act.put,List.setIfInBounds_toArray,List.set_cons_zero,List.set_cons_succ]
      refine wpAnyH_done (by kernel_rfl) ?_ _
      go_wp2_with fail
      go_meet
      exact⟨PT,_,_,rfl,rfl,HGT.out⟩
    ·left
     have hb:Below wlq6.heap.size wlq6 (wlq6.alloc (.cells reZ 38)):=(Below.refl _ _).alloc (Nat.le_refl _) _
     have hnb:=Blk.new wlq6 38 reZ
     have HNEHG:=Lib.hid (show g≠wlq6.heap.size from Nat.ne_of_lt HG.out.lt)
     have HPT:=Lib.hid (show wc.heap.size≤wlq6.heap.size from HK.out.size)
     have HOT:=Lib.hid (HK.out.st.offs (Nat.le_refl wlq6.heap.size))
     refine⟨_,_,_,_,_,_,.pointer (some ⟨wlq6.heap.size,0,none⟩),wlq6.alloc (.cells reZ 38),rfl,by rfl,(by go_simp<;>rfl),(HG.out.below hb),?_⟩
     simp only[Act.put,List.setIfInBounds_toArray,List.set_cons_zero,List.set_cons_succ]
     obtain⟨wtq23,ewtq23⟩:∃z,z=wlq6.alloc (.cells reZ 38):=⟨_,rfl⟩
     rw[←ewtq23] at hb hnb⊢
     clear ewtq23
     have HT:=Lib.hid hnb
     clear hnb
     replace HG:=Lib.hid (HG.out.below hb)
     replace HK:=Lib.hid (HK.out.below hb)
     replace HSS:=Lib.hid (show(Blk wtq23 g 44 (scC p.k d.x)) from HG.out)
     clear hb
     obtain⟨PT,ePT⟩:∃z,z=wlq6.heap.size:=⟨_,rfl⟩
     rw[←ePT] at HT HPT HOT HNEHG⊢
     clear ePT
     refine Reg.both_all [5] (by kernel_rfl) (by simp) ?_
     intro j0 hj0
     obtain rfl:j0=5:=by simpa using hj0
     clear hj0
     right
     refine⟨_,_,_,_,_,_,27,#[],rfl,by rfl,by go_simp<;>rfl,?_⟩
     refine Calls.mono (T1.out _) ?_
     rintro e wlq24 ⟨rfl,hb⟩
     replace HG:=Lib.hid (HG.out.below hb)
     replace HK:=Lib.hid (HK.out.below hb)
     replace HT:=Lib.hid (HT.out.below hb)
     replace HSS:=Lib.hid (show(Blk wlq24 g 44 (scC p.k d.x)) from HG.out)
     clear hb
     refine⟨_,rfl,HSS.out,?_⟩
     simp only[Act.put,List.setIfInBounds_toArray,List.set_cons_zero,List.set_cons_succ]
     refine Reg.any_take 6 (v:=.agg cs2) rfl (by kernel_rfl) (by kernel_rfl) (by kernel_rfl) (fun _ _ _ h=>h) HSS.out (by rfl) (fun w' hS=>?hq25) ?rq25
     case hq25=>exact Rg.exec_build (by simp only[List.map_toArray,List.map_cons,List.map_nil];rfl) HB2.out
     simp only[Act.put,List.setIfInBounds_toArray,List.set_cons_zero,List.set_cons_succ]
     refine Reg.both_all [8] (by kernel_rfl) (by simp) ?_
     intro j0 hj0
     obtain rfl:j0=8:=by simpa using hj0
     clear hj0
     right
     refine⟨_,_,_,_,_,_,17,#[.pointer (some ⟨p.k,0,none⟩),.agg cs2,.int .i64 5,.agg csK],rfl,by rfl,by go_simp<;>rfl,?_⟩
     refine Calls.mono (CA2.out _ _ HIT.out HK.out.st) ?_
     rintro e waq26 ⟨cs,es2,rfl,hre,hk⟩
     have HCS:=Lib.hid (re_cells hre)
     have hnb:=hk.blk HG.out HOG.out.no
     replace HOG:=Lib.hid (hk.off HOG.out HG.out.lt)
     replace HG:=Lib.hid hnb
     clear hnb
     have HRE:=Lib.hid (re_old hre HK.out.size HT.out.lt)
     have hnb:=hk.blk HT.out HOT.out.no
     replace HOT:=Lib.hid (hk.off HOT.out HT.out.lt)
     replace HT:=Lib.hid hnb
     clear hnb
     replace HK:=Lib.hid (HK.out.trans hk)
     clear hk hre
     replace HSS:=Lib.hid (show(Blk waq26 g 44 (scC p.k d.x)) from HG.out)
     refine⟨_,rfl,HSS.out,?_⟩
     simp only[Act.put,List.setIfInBounds_toArray,List.set_cons_zero,List.set_cons_succ]
     refine Reg.any_take 9 (v:=?vq27) rfl (by kernel_rfl) (by kernel_rfl) (by kernel_rfl) (fun _ _ _ h=>h) HSS.out (by rfl) (fun w' hS=>?hq27) ?rq27
     case hq27=>go_simp<;>rfl
     simp only[Act.put,List.setIfInBounds_toArray,List.set_cons_zero,List.set_cons_succ]
     refine Reg.any_take 10 (v:=?vq28) rfl (by kernel_rfl) (by kernel_rfl) (by kernel_rfl) (fun _ _ _ h=>h) HSS.out (by rfl) (fun w' hS=>?hq28) ?rq28
     case hq28=>go_simp<;>rfl
     simp only[Act.put,List.setIfInBounds_toArray,List.set_cons_zero,List.set_cons_succ]
     refine Reg.any_take 11 (v:=?vq29) rfl (by kernel_rfl) (by kernel_rfl) (by kernel_rfl) (fun _ _ _ h=>h) HSS.out (by rfl) (fun w' hS=>?hq29) ?rq29
     case hq29=>go_simp<;>rfl
     simp only[Act.put,List.setIfInBounds_toArray,List.set_cons_zero,List.set_cons_succ]
     refine Reg.any_store_whole 13 rfl (by kernel_rfl) (by rfl) PT 38 _ cs HT.out (by rfl) (by rfl) (by rw[HCS.out.1];rfl) (by rw[HCS.out.1];exact re_info) HCS.out.2 ?_
     intro Vq30 hV hg
     have HGT:=Lib.hid (got_mk HK.out HRE.out HOT.out HPT.out hV hg)
     replace HG:=Lib.hid (HG.out.grown hg (fun e=>by injection e with e;exact HNEHG.out e.symm))
     clear hV hg HT HK HRE HOT HPT HCS
     replace HSS:=Lib.hid (show(Blk Vq30 g 44 (scC p.k d.x)) from HG.out)
     refine⟨HSS.out,?_⟩
     simp only[Act.put,List.setIfInBounds_toArray,List.set_cons_zero,List.set_cons_succ]
     refine Reg.any_take 14 (v:=?vq31) rfl (by kernel_rfl) (by kernel_rfl) (by kernel_rfl) (fun _ _ _ h=>h) HSS.out (by rfl) (fun w' hS=>?hq31) ?rq31
     case hq31=>go_simp<;>rfl
     simp only[Act.put,List.setIfInBounds_toArray,List.set_cons_zero,List.set_cons_succ]
     refine wpAnyH_done (by kernel_rfl) ?_ _
     go_wp2_with fail
     go_meet
     exact⟨PT,_,_,rfl,rfl,HGT.out⟩
   ·left
    have hb:Below wc.drew.heap.size wc.drew (wc.drew.alloc (.cells reZ 38)):=(Below.refl _ _).alloc (Nat.le_refl _) _
    have hnb:=Blk.new wc.drew 38 reZ
    have HNEHG:=Lib.hid (show g≠wc.drew.heap.size from Nat.ne_of_lt HG.out.lt)
    have HPT:=Lib.hid (show wc.heap.size≤wc.drew.heap.size from HK.out.size)
    have HOT:=Lib.hid (HK.out.st.offs (Nat.le_refl wc.drew.heap.size))
    refine⟨_,_,_,_,_,_,.pointer (some ⟨wc.drew.heap.size,0,none⟩),wc.drew.alloc (.cells reZ 38),rfl,by rfl,(by go_simp<;>rfl),(HG.out.below hb),?_⟩
    simp only[Act.put,List.setIfInBounds_toArray,List.set_cons_zero,List.set_cons_succ]
    obtain⟨wtq32,ewtq32⟩:∃z,z=wc.drew.alloc (.cells reZ 38):=⟨_,rfl⟩
    rw[←ewtq32] at hb hnb⊢
    clear ewtq32
    have HT:=Lib.hid hnb
    clear hnb
    replace HG:=Lib.hid (HG.out.below hb)
    replace HK:=Lib.hid (HK.out.below hb)
    replace HSS:=Lib.hid (show(Blk wtq32 g 44 (scC p.k d.x)) from HG.out)
    clear hb
    obtain⟨PT,ePT⟩:∃z,z=wc.drew.heap.size:=⟨_,rfl⟩
    rw[←ePT] at HT HPT HOT HNEHG⊢
    clear ePT
    refine Reg.both_all [4] (by kernel_rfl) (by simp) ?_
    intro j0 hj0
    obtain rfl:j0=4:=by simpa using hj0
    clear hj0
    right
    refine⟨_,_,_,_,_,_,34,#[],rfl,by rfl,by go_simp<;>rfl,?_⟩
    refine Calls.mono (T3.out _) ?_
    rintro e wlq33 ⟨rfl,hb⟩
    replace HG:=Lib.hid (HG.out.below hb)
    replace HK:=Lib.hid (HK.out.below hb)
    replace HT:=Lib.hid (HT.out.below hb)
    replace HSS:=Lib.hid (show(Blk wlq33 g 44 (scC p.k d.x)) from HG.out)
    clear hb
    refine⟨_,rfl,HSS.out,?_⟩
    simp only[Act.put,List.setIfInBounds_toArray,List.set_cons_zero,List.set_cons_succ]
    refine Reg.both_all [5] (by kernel_rfl) (by simp) ?_
    intro j0 hj0
    obtain rfl:j0=5:=by simpa using hj0
    clear hj0
    right
    refine⟨_,_,_,_,_,_,27,#[],rfl,by rfl,by go_simp<;>rfl,?_⟩
    refine Calls.mono (T1.out _) ?_
    rintro e wlq34 ⟨rfl,hb⟩
    replace HG:=Lib.hid (HG.out.below hb)
    replace HK:=Lib.hid (HK.out.below hb)
    replace HT:=Lib.hid (HT.out.below hb)
    replace HSS:=Lib.hid (show(Blk wlq34 g 44 (scC p.k d.x)) from HG.out)
    clear hb
    refine⟨_,rfl,HSS.out,?_⟩
    simp only[Act.put,List.setIfInBounds_toArray,List.set_cons_zero,List.set_cons_succ]
    refine Reg.any_take 6 (v:=.agg cs2) rfl (by kernel_rfl) (by kernel_rfl) (by kernel_rfl) (fun _ _ _ h=>h) HSS.out (by rfl) (fun w' hS=>?hq35) ?rq35
    case hq35=>exact Rg.exec_build (by simp only[List.map_toArray,List.map_cons,List.map_nil];rfl) HB2.out
    simp only[Act.put,List.setIfInBounds_toArray,List.set_cons_zero,List.set_cons_succ]
    refine Reg.both_all [8] (by kernel_rfl) (by simp) ?_
    intro j0 hj0
    obtain rfl:j0=8:=by simpa using hj0
    clear hj0
    right
    refine⟨_,_,_,_,_,_,17,#[.pointer (some ⟨p.k,0,none⟩),.agg cs2,.int .i64 5,.agg csK],rfl,by rfl,by go_simp<;>rfl,?_⟩
    refine Calls.mono (CA2.out _ _ HIT.out HK.out.st) ?_
    rintro e waq36 ⟨cs,es2,rfl,hre,hk⟩
    have HCS:=Lib.hid (re_cells hre)
    have hnb:=hk.blk HG.out HOG.out.no
    replace HOG:=Lib.hid (hk.off HOG.out HG.out.lt)
    replace HG:=Lib.hid hnb
    clear hnb
    have HRE:=Lib.hid (re_old hre HK.out.size HT.out.lt)
    have hnb:=hk.blk HT.out HOT.out.no
    replace HOT:=Lib.hid (hk.off HOT.out HT.out.lt)
    replace HT:=Lib.hid hnb
    clear hnb
    replace HK:=Lib.hid (HK.out.trans hk)
    clear hk hre
    replace HSS:=Lib.hid (show(Blk waq36 g 44 (scC p.k d.x)) from HG.out)
    refine⟨_,rfl,HSS.out,?_⟩
    simp only[Act.put,List.setIfInBounds_toArray,List.set_cons_zero,List.set_cons_succ]
    refine Reg.any_take 9 (v:=?vq37) rfl (by kernel_rfl) (by kernel_rfl) (by kernel_rfl) (fun _ _ _ h=>h) HSS.out (by rfl) (fun w' hS=>?hq37) ?rq37
    case hq37=>go_simp<;>rfl
    simp only[Act.put,List.setIfInBounds_toArray,List.set_cons_zero,List.set_cons_succ]
    refine Reg.any_take 10 (v:=?vq38) rfl (by kernel_rfl) (by kernel_rfl) (by kernel_rfl) (fun _ _ _ h=>h) HSS.out (by rfl) (fun w' hS=>?hq38) ?rq38
    case hq38=>go_simp<;>rfl
    simp only[Act.put,List.setIfInBounds_toArray,List.set_cons_zero,List.set_cons_succ]
    refine Reg.any_take 11 (v:=?vq39) rfl (by kernel_rfl) (by kernel_rfl) (by kernel_rfl) (fun _ _ _ h=>h) HSS.out (by rfl) (fun w' hS=>?hq39) ?rq39
    case hq39=>go_simp<;>rfl
    simp only[Act.put,List.setIfInBounds_toArray,List.set_cons_zero,List.set_cons_succ]
    refine Reg.any_store_whole 13 rfl (by kernel_rfl) (by rfl) PT 38 _ cs HT.out (by rfl) (by rfl) (by rw[HCS.out.1];rfl) (by rw[HCS.out.1];exact re_info) HCS.out.2 ?_
    intro Vq40 hV hg
    have HGT:=Lib.hid (got_mk HK.out HRE.out HOT.out HPT.out hV hg)
    replace HG:=Lib.hid (HG.out.grown hg (fun e=>by injection e with e;exact HNEHG.out e.symm))
    clear hV hg HT HK HRE HOT HPT HCS
    replace HSS:=Lib.hid (show(Blk Vq40 g 44 (scC p.k d.x)) from HG.out)
    refine⟨HSS.out,?_⟩
    simp only[Act.put,List.setIfInBounds_toArray,List.set_cons_zero,List.set_cons_succ]
    refine Reg.any_take 14 (v:=?vq41) rfl (by kernel_rfl) (by kernel_rfl) (by kernel_rfl) (fun _ _ _ h=>h) HSS.out (by rfl) (fun w' hS=>?hq41) ?rq41
    case hq41=>go_simp<;>rfl
    simp only[Act.put,List.setIfInBounds_toArray,List.set_cons_zero,List.set_cons_succ]
    refine wpAnyH_done (by kernel_rfl) ?_ _
    go_wp2_with fail
    go_meet
    exact⟨PT,_,_,rfl,rfl,HGT.out⟩
  case rest=>
   obtain⟨PT2,cs2,es3,rfl,rfl,hgt⟩:=hcut
   have ht:=hgt.kn.blk HTB.out HTO.out.no
   replace HK4:=(ht.cell 4).trans ((HTB.out.cell 4).symm.trans HK4.out)
   replace HG:=Lib.hid (hgt.kn.blk HG.out HOG.out.no)
   have kg0:=HG.out.cell 0
   have CI:=Lib.hid (iss_any hgt.kn.st.k (by omega))
   have HBF:=Lib.hid (HBB.out.trans (hgt.kn.base HS1.out))
   clear hgt ht
   go_wp2_with (first
    |(go_at_call 25;refine Calls.mono CI.out ?_;rintro e wi ⟨rfl,hw⟩;clear CI;subst hw)
    |fail)
   go_ret
   exact⟨rfl,HBF.out⟩
end Go.Proofs.YtfcjeebnkigeaaaGreat.Kd
end
