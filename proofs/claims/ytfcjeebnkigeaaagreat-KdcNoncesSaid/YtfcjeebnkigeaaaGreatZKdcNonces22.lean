import Derived.Deep.Cut
import Derived.Deep.CutRange
import Derived.Deep.CutBlock
import Derived.Deep.LoopGhost
import Derived.StillTailTactics
import Derived.BigQuiet
import Derived.Deep.QuietTactic
import Derived.Deep.RegionHeld3
import Derived.DeepKeys
import Derived.Laws.StructEq
import Derived.Laws.OwnMore
import Derived.Test.YtfcjeebnkigeaaaGreatZKdcNonces1
import Derived.Test.YtfcjeebnkigeaaaGreatZKdcNonces2
import Derived.Test.YtfcjeebnkigeaaaGreatZKdcNonces3
import Derived.Test.YtfcjeebnkigeaaaGreatZKdcNonces4
import Derived.Test.YtfcjeebnkigeaaaGreatZKdcNonces5
import Derived.Test.YtfcjeebnkigeaaaGreatZKdcNonces6
import Derived.Test.YtfcjeebnkigeaaaGreatZKdcNonces7
import Derived.Test.YtfcjeebnkigeaaaGreatZKdcNonces8
import Derived.Test.YtfcjeebnkigeaaaGreatZKdcNonces9
import Derived.Test.YtfcjeebnkigeaaaGreatZKdcNonces11
import Derived.Test.YtfcjeebnkigeaaaGreatZKdcNonces12
import Derived.Test.YtfcjeebnkigeaaaGreatZKdcNonces13
import Derived.Test.YtfcjeebnkigeaaaGreatZKdcNonces14
import Derived.Test.YtfcjeebnkigeaaaGreatZKdcNonces15
import Derived.Test.YtfcjeebnkigeaaaGreatZKdcNonces16
import Derived.Test.YtfcjeebnkigeaaaGreatZKdcNonces17
section
set_option linter.unusedVariables false
set_option linter.unusedSimpArgs false
namespace Go.Proofs.YtfcjeebnkigeaaaGreat.Kd
open Go.RowKit Go.Proofs.YtfcjeebnkigeaaaGreat.Mem Go.Proofs.YtfcjeebnkigeaaaGreat.Se
open Go.Proofs.YtfcjeebnkigeaaaGreat.Rg (It Ent Ring RO its results_pair)
open Go.Proofs.YtfcjeebnkigeaaaGreat.SeL (sealR)
open Go.Proofs.YtfcjeebnkigeaaaGreat.Ms (Pt Rp Re ptO rpO pSm reC tkC prC)
section
variable {w:World} {B:Nat} {p:KP} {es:List Ent} {s:Option Ss} {n i c:Nat}
set_option maxRecDepth 100000 in
set_option maxHeartbeats 3200000 in
theorem ans_k {x1 x2 kv:Nat} {k1 k2:Nat→UInt8} {sv:Ms.Pr} {P:Pt} {no u:Int} (h:KS w B p es s n i c) (h1:Hdl es s x1 k1) (h2:Hdl es s x2 k2) (hc:c<900000) (hn:n<900000) (hi:i<900000)
  (hk:P.ss.length=32) (hs1:pSm P.c) (hs2:pSm sv) (hs3:P.tr.length≤1000000000) :
  Calls Tryz.prog 51 #[.pointer (some ⟨p.k,0,none⟩),.agg (hoA sv (some ⟨x1,0,none⟩) (kv:Int)),.agg (ptA P),.int .i64 no,.pointer (some ⟨x2,0,none⟩),.int .i64 u] w (AnsR w B p es s n i (c+2) (ansK n k1 kv sv P no k2 u)):=by
 obtain⟨W,eW⟩:∃W,W=((w.alloc (.cells (hoA sv (some ⟨x1,0,none⟩) (kv:Int)) 127)).alloc (.cells (ptA P) 71)).alloc (.cells reZ 38):=⟨_,rfl⟩
 have hb:Below w.heap.size w W:=eW▸(((Below.refl _ _).alloc (Nat.le_refl _) _).alloc (by simp) _).alloc (by simp;omega) _
 have HO:=Lib.hid (show Blk W w.heap.size 127 (hoA sv (some ⟨x1,0,none⟩) (kv:Int)) from eW▸((Blk.new w _ _).alloc _).alloc _)
 have HP:=Lib.hid (show Blk W (w.heap.size+1) 71 (ptA P) by have:=(Blk.new (w.alloc (.cells (hoA sv (some ⟨x1,0,none⟩) (kv:Int)) 127)) 71 (ptA P)).alloc (.cells reZ 38);simp only[World.size_alloc] at this;exact eW▸this)
 have HR:=Lib.hid (show Blk W (w.heap.size+1+1) 38 reZ by have:=Blk.new ((w.alloc (.cells (hoA sv (some ⟨x1,0,none⟩) (kv:Int)) 127)).alloc (.cells (ptA P) 71)) 38 reZ;simp only[World.size_alloc] at this;exact eW▸this)
 have HK:=Lib.hid (Kn.start h hb)
 have HWP:=Lib.hid (show W.heap.size=w.heap.size+3 by rw[eW];simp)
 have HN0:=Lib.hid (fun(P0:Nat) (hP:w.heap.size≤P0)=>h.offs hP)
 have HKI:=Lib.hid (key_info hk)
 have HPI:=Lib.hid (pt_info hk)
 have HRI:=Lib.hid (rp_info (P:=rpOf P sv no) hk)
 have HRS:=Lib.hid (rpA_size (P:=rpOf P sv no) hk)
 have HRO:=Lib.hid (rpA_one (rpOf P sv no))
 have HBR:=Lib.hid (built_rp hk sv P.st P.en no)
 have HPK:=Lib.hid (fun(w1:World) (g:Nat) (hb:Blk w1 g 71 (ptA P))=>pt_key hk hb)
 have HP0:=Lib.hid (fun(w1:World) (g:Nat) (hb:Blk w1 g 71 (ptA P))=>And.intro (pt_0 hb) (pt_1 hb))
 have kp35:=pt_35 hk HP.out
 have kp36:=pt_36 hk HP.out
 have ko0:W.cell? ⟨w.heap.size,0,none⟩=some (.string ⟨sv.1.toArray⟩):=HO.out.cell 0
 have ko1:W.cell? ⟨w.heap.size,1,none⟩=some (.string ⟨sv.2.toArray⟩):=HO.out.cell 1
 have C1:=Lib.hid (fun(w1:World)=>Mc.encpart_any P w1 hk hs1 hs3)
 have C2:=Lib.hid (fun(w1:World)=>Mc.encrep_any (rpOf P sv no) w1 hk hs2)
 have C3:=Lib.hid (fun(w1:World)=>clone_kp sv w1 (Nat.le_trans hs2.1 (by decide)) (Nat.le_trans hs2.2 (by decide)))
 have C4:=Lib.hid (fun(w1:World)=>clone_kp P.c w1 (Nat.le_trans hs1.1 (by decide)) (Nat.le_trans hs1.2 (by decide)))
 have hb1l:∀b,ptO P=some b→b.length≤2000:=fun b e1=>by unfold ptO Ms.limO at e1;split at e1<;>simp_all
 have hb2l:∀b,rpO (rpOf P sv no)=some b→b.length≤2000:=fun b e2=>by unfold rpO Ms.limO at e2;split at e2<;>simp_all
 obtain⟨csP,ecsP⟩:∃z,z=ptA P:=⟨_,rfl⟩
 obtain⟨csR,ecsR⟩:∃z,z=rpA (rpOf P sv no):=⟨_,rfl⟩
 obtain⟨csK,ecsK⟩:∃z,z=keyA P.ss:=⟨_,rfl⟩
 obtain⟨o1,eo1⟩:∃o,o=ptO P:=⟨_,rfl⟩
 obtain⟨o2,eo2⟩:∃o,o=rpO (rpOf P sv no):=⟨_,rfl⟩
 obtain⟨rr,err⟩:∃r,r=ansK n k1 kv sv P no k2 u:=⟨_,rfl⟩
 have ecsP2:csP=(Ms.ptC P).toArray:=ecsP
 have ecsR2:csR=(Ms.rpC (rpOf P sv no)).toArray:=ecsR
 rw[←ecsP2,←eo1] at C1
 rw[←ecsR2,←eo2] at C2
 rw[←ecsP] at eW HP HPI HPK HP0⊢
 rw[←ecsK] at HKI HBR HPK
 rw[show rpA ⟨P.ss,sv,P.st,P.en,no⟩=csR from ecsR.symm] at HBR
 rw[←ecsR] at HRI HRS HRO
 rw[←err]
 have H1:=Lib.hid h1;have H2:=Lib.hid h2;have HC:=Lib.hid hc;have HNN:=Lib.hid hn;have HII:=Lib.hid hi;have HL1:=Lib.hid hb1l;have HL2:=Lib.hid hb2l
 have ER:=Lib.hid err;have EO1:=Lib.hid eo1;have EO2:=Lib.hid eo2
 clear h hb h1 h2 hc hn hi hk hs1 hs2 hs3 ecsP ecsR ecsP2 ecsR2 ecsK hb1l hb2l eo1 eo2 err
 go_enter Tryz.func51,Tryz.ntmps51
 go_upto_region 1 with fail
 rw[←eW]
 clear eW
 go_upto_region 4 with(first
  |(refine Wh.load_g (by rfl) 47 (.tmp 21) (by rfl) (w.heap.size+1) 2 (by rfl) csK _ (HPK.out _ _ HP.out) Tryz.underlying47 (by rfl) HKI.out ?_;clear HPK HKI)
  |(refine Mc.wpList_built (by rfl) 75 #[(0,.tmp 22),(1,.tmp 24),(2,.tmp 26),(3,.tmp 28),(4,.tmp 29)] (by rfl) csR (by simp only[List.map_toArray,List.map_cons,List.map_nil];exact HBR.out) ?_;clear HBR)
  |(refine Wh.store_new (by rfl) 75 (.tmp 14) (.tmp 30) (by rfl) 75 rfl csR (by rfl) (by rfl) (by rw[HRS.out];rfl) HRI.out HRO.out ?_;rintro V hV hb;have HV:=Lib.hid hV;replace HK:=Lib.hid (HK.out.below hb);replace HO:=Lib.hid (HO.out.below hb);replace HP:=Lib.hid (HP.out.below hb);replace HR:=Lib.hid (HR.out.below hb);clear hb hV kp35 kp36 ko0 ko1 HRS HRO)
  |(refine Wh.load_g (by rfl) 71 (.tmp 8) (by rfl) (w.heap.size+1) 0 (by rfl) csP _ (Wh.range_blk HP.out) Tryz.underlying71 (by rfl) HPI.out ?_;clear HPI)
  |(refine Wh.load_g (by rfl) 75 (.tmp 14) (by rfl) W.heap.size 0 (by rfl) csR _ (Wh.range_blk HV.out) Tryz.underlying75 (by rfl) HRI.out ?_;clear HRI)
  |(go_at_call 107;refine Calls.mono (C1.out _) ?_;rintro e w2 he;obtain⟨v1,rfl,hs1,hb⟩:=enc_to he;have S1:=Lib.hid (SlN.old HK.out hs1);replace HK:=Lib.hid (HK.out.below hb);replace HO:=Lib.hid (HO.out.below hb);replace HP:=Lib.hid (HP.out.below hb);replace HR:=Lib.hid (HR.out.below hb);replace HV:=Lib.hid (HV.out.below hb);clear he hs1 hb C1)
  |(go_at_call 108;refine Calls.mono (C2.out _) ?_;rintro e w3 he;obtain⟨v2,rfl,hs2,hb⟩:=enc_to he;have S2:=Lib.hid (SlN.old HK.out hs2);replace S1:=Lib.hid (S1.out.below hb);replace HK:=Lib.hid (HK.out.below hb);replace HO:=Lib.hid (HO.out.below hb);replace HP:=Lib.hid (HP.out.below hb);replace HR:=Lib.hid (HR.out.below hb);clear he hs2 hb C2 HV)
  |fail)
 by_cases hz:o1.isSome=true∧o2.isSome=true
 ·obtain⟨b1,rfl⟩:=Option.isSome_iff_exists.1 hz.1
  obtain⟨b2,rfl⟩:=Option.isSome_iff_exists.1 hz.2
  have ER2:rr=(0,⟨P.c,⟨sv,kv,(sealR k1 2 ((n+1:Nat):Int) b1).1⟩,(sealR k2 u ((n+1+1:Nat):Int) b2).1⟩):=by
   rw[ER.out,ansK,←EO1.out,←EO2.out]
   simp only[Option.isSome_some,Bool.and_self,if_true,Option.getD_some]
  obtain⟨x7,ex7⟩:∃x,x=(sealR k1 2 ((n+1:Nat):Int) b1).1:=⟨_,rfl⟩
  obtain⟨x9,ex9⟩:∃x,x=(sealR k2 u ((n+1+1:Nat):Int) b2).1:=⟨_,rfl⟩
  rw[←ex7,←ex9] at ER2
  have EX7:=Lib.hid ex7;have EX9:=Lib.hid ex9
  clear ex7 ex9
  have hl1:=HL1.out b1 EO1.out.symm
  have hl2:=HL2.out b2 EO2.out.symm
  have HL3:=Lib.hid hl1;have HL4:=Lib.hid hl2
  have HRR:=Lib.hid ER2
  clear hz ER ER2 EO1 EO2 HL1 HL2 hl1 hl2
  rw[show(some b1).getD []=b1 from rfl] at S1
  rw[show(some b2).getD []=b2 from rfl] at S2
  rw[show oI (some b1)=0 from rfl,show oI (some b2)=0 from rfl]
  go_upto_region 6 with fail
  go_cut [19] from 48 to 53 (fun tv wx=>∃PT,tv = .pointer (some ⟨PT,0,none⟩)∧w3.heap.size≤PT∧Blk wx PT 32 #[.string ⟨sv.1.toArray⟩,.string ⟨sv.2.toArray⟩,.int .i64 (kv:Int),.slice none 0 0]∧Below w3.heap.size w3 wx)
  case first=>
   have HLT:=Lib.hid HO.out.lt
   replace HO:=Lib.hid (show Blk w3.drew _ _ _ from HO.out.drewN 1)
   have HB3:=Lib.hid (show Below _ _ w3.drew from below_drewN (Below.refl w3.heap.size w3) 1)
   refine Reg.any_begin (fun w'=>Blk w' w.heap.size 127 (hoA sv (some ⟨x1,0,none⟩) (kv:Int))) 8 rfl (by kernel_rfl) HO.out ?_
   obtain⟨W3,eW3⟩:∃z,z=w3.drew:=⟨_,rfl⟩
   rw[←eW3] at HO HB3⊢
   clear eW3
   refine Reg.any_take 0 (v:=?va61) rfl (by kernel_rfl) (by kernel_rfl) (by kernel_rfl) (fun _ _ _ h=>h) HO.out (by rfl) (fun w' hS=>?ha61) ?ra61
   case ha61=>go_simp<;>rfl
   simp only[Act.put,List.setIfInBounds_toArray,List.set_cons_zero,List.set_cons_succ]
   refine Reg.any_take 1 (v:=?va62) rfl (by kernel_rfl) (by kernel_rfl) (by kernel_rfl) (fun _ _ _ h=>h) HO.out (by rfl) (fun w' hS=>?ha62) ?ra62
   case ha62=>have k0:w'.cell? ⟨w.heap.size,0,none⟩=some (.string ⟨sv.1.toArray⟩):=Blk.cell hS 0;have k1:w'.cell? ⟨w.heap.size,1,none⟩=some (.string ⟨sv.2.toArray⟩):=Blk.cell hS 1;go_simp<;>rfl
   simp only[Act.put,List.setIfInBounds_toArray,List.set_cons_zero,List.set_cons_succ]
   refine Reg.any_take 3 (v:=?va63) rfl (by kernel_rfl) (by kernel_rfl) (by kernel_rfl) (fun _ _ _ h=>h) HO.out (by rfl) (fun w' hS=>?ha63) ?ra63
   case ha63=>go_simp<;>rfl
   simp only[Act.put,List.setIfInBounds_toArray,List.set_cons_zero,List.set_cons_succ]
   refine Reg.any_take 4 (v:=?va64) rfl (by kernel_rfl) (by kernel_rfl) (by kernel_rfl) (fun _ _ _ h=>h) HO.out (by rfl) (fun w' hS=>?ha64) ?ra64
   case ha64=>have k3:w'.cell? ⟨w.heap.size,3,none⟩=some (.int .i64 (kv:Int)):=Blk.cell hS 3;go_simp<;>rfl
   simp only[Act.put,List.setIfInBounds_toArray,List.set_cons_zero,List.set_cons_succ]
   refine Reg.both_all [2,6] (by kernel_rfl) (by simp) ?_
   intro j0 hj0
   have hj0:j0=2∨j0=6:=by simpa using hj0
   rcases hj0 with rfl | rfl
   ·right
    refine⟨_,_,_,_,_,_,109,#[Rg.prV sv],rfl,by rfl,by go_simp,?_⟩
    refine Calls.mono (C3.out _) ?_
    rintro e w6 ⟨rfl,hb⟩
    replace HO:=Lib.hid (HO.out.below hb)
    replace HB3:=Lib.hid (HB3.out.trans (hb.mono HB3.out.size))
    clear hb
    refine⟨_,rfl,HO.out,?_⟩
    simp only[Act.put,List.setIfInBounds_toArray,List.set_cons_zero,List.set_cons_succ]
    refine Reg.any_take 5 (v:=.agg #[.string ⟨sv.1.toArray⟩,.string ⟨sv.2.toArray⟩,.int .i64 (kv:Int),.slice none 0 0]) rfl (by kernel_rfl) (by kernel_rfl) (by kernel_rfl) (fun _ _ _ h=>h) HO.out (by rfl) (fun w' hS=>?ha65) ?ra65
    case ha65=>go_simp<;>rfl
    simp only[Act.put,List.setIfInBounds_toArray,List.set_cons_zero,List.set_cons_succ]
    refine Reg.both_all [6] (by kernel_rfl) (by simp) ?_
    intro j0 hj0
    obtain rfl:j0=6:=by simpa using hj0
    clear hj0
    left
    have hb:Below w6.heap.size w6 (w6.alloc (.cells tkZ 32)):=(Below.refl _ _).alloc (Nat.le_refl _) _
    have hnb:=Blk.new w6 32 tkZ
    refine⟨_,_,_,_,_,_,.pointer (some ⟨w6.heap.size,0,none⟩),w6.alloc (.cells tkZ 32),rfl,by rfl,(by go_simp<;>rfl),(HO.out.alloc _),?_⟩
    simp only[Act.put,List.setIfInBounds_toArray,List.set_cons_zero,List.set_cons_succ]
    obtain⟨wt,ewt⟩:∃z,z=w6.alloc (.cells tkZ 32):=⟨_,rfl⟩
    rw[←ewt] at hb hnb⊢
    clear ewt
    have HPT:=Lib.hid (HB3.out.size)
    replace HO:=Lib.hid (HO.out.below hb)
    replace HB3:=Lib.hid (HB3.out.trans (hb.mono HB3.out.size))
    have HT:=Lib.hid hnb
    clear hnb hb
    obtain⟨PT,ePT⟩:∃z,z=w6.heap.size:=⟨_,rfl⟩
    rw[←ePT] at HT HPT⊢
    clear ePT
    have q0:wt.cell? ⟨PT,0,none⟩=some (.string ⟨#[]⟩):=HT.out.cell 0
    have q1:wt.cell? ⟨PT,1,none⟩=some (.string ⟨#[]⟩):=HT.out.cell 1
    have q2:wt.cell? ⟨PT,2,none⟩=some (.int .i64 0):=HT.out.cell 2
    have q3:wt.cell? ⟨PT,3,none⟩=some (.slice none 0 0):=HT.out.cell 3
    have fz:=HT.out.frozen
    have hne:PT≠w.heap.size:=by have:=HPT.out;have:=HLT.out;omega
    refine Reg.any_store 7 ((((wt.setCell ⟨PT,0,none⟩ (.string ⟨sv.1.toArray⟩)).setCell ⟨PT,1,none⟩ (.string ⟨sv.2.toArray⟩)).setCell ⟨PT,2,none⟩ (.int .i64 (kv:Int))).setCell ⟨PT,3,none⟩ (.slice none 0 0)) rfl (by kernel_rfl) (by rfl) (by go_simp) (far4 HO.out hne _ _ _ _) ?_
    simp only[Act.put,List.setIfInBounds_toArray,List.set_cons_zero,List.set_cons_succ]
    clear q0 q1 q2 q3 fz
    refine wpAnyH_done (by kernel_rfl) ?_ _
    have hv:=set4 HT.out (.string ⟨sv.1.toArray⟩) (.string ⟨sv.2.toArray⟩) (.int .i64 (kv:Int)) (.slice none 0 0)
    go_wp2_with fail
    go_meet
    exact⟨PT,rfl,HPT.out,hv,below4 HB3.out HPT.out _ _ _ _⟩
   ·left
    have hb:Below W3.heap.size W3 (W3.alloc (.cells tkZ 32)):=(Below.refl _ _).alloc (Nat.le_refl _) _
    have hnb:=Blk.new W3 32 tkZ
    refine⟨_,_,_,_,_,_,.pointer (some ⟨W3.heap.size,0,none⟩),W3.alloc (.cells tkZ 32),rfl,by rfl,(by go_simp<;>rfl),(HO.out.alloc _),?_⟩
    simp only[Act.put,List.setIfInBounds_toArray,List.set_cons_zero,List.set_cons_succ]
    obtain⟨wt,ewt⟩:∃z,z=W3.alloc (.cells tkZ 32):=⟨_,rfl⟩
    rw[←ewt] at hb hnb⊢
    clear ewt
    have HPT:=Lib.hid (HB3.out.size)
    replace HO:=Lib.hid (HO.out.below hb)
    replace HB3:=Lib.hid (HB3.out.trans (hb.mono HB3.out.size))
    have HT:=Lib.hid hnb
    clear hnb hb
    obtain⟨PT,ePT⟩:∃z,z=W3.heap.size:=⟨_,rfl⟩
    rw[←ePT] at HT HPT⊢
    clear ePT
    refine Reg.both_all [2] (by kernel_rfl) (by simp) ?_
    intro j0 hj0
    obtain rfl:j0=2:=by simpa using hj0
    clear hj0
    right
    refine⟨_,_,_,_,_,_,109,#[Rg.prV sv],rfl,by rfl,by go_simp,?_⟩
    refine Calls.mono (C3.out _) ?_
    rintro e w6 ⟨rfl,hb⟩
    replace HO:=Lib.hid (HO.out.below hb)
    replace HT:=Lib.hid (HT.out.below hb)
    replace HB3:=Lib.hid (HB3.out.trans (hb.mono HB3.out.size))
    clear hb
    refine⟨_,rfl,HO.out,?_⟩
    simp only[Act.put,List.setIfInBounds_toArray,List.set_cons_zero,List.set_cons_succ]
    refine Reg.any_take 5 (v:=.agg #[.string ⟨sv.1.toArray⟩,.string ⟨sv.2.toArray⟩,.int .i64 (kv:Int),.slice none 0 0]) rfl (by kernel_rfl) (by kernel_rfl) (by kernel_rfl) (fun _ _ _ h=>h) HO.out (by rfl) (fun w' hS=>?ha66) ?ra66
    case ha66=>go_simp<;>rfl
    simp only[Act.put,List.setIfInBounds_toArray,List.set_cons_zero,List.set_cons_succ]
    have q0:w6.cell? ⟨PT,0,none⟩=some (.string ⟨#[]⟩):=HT.out.cell 0
    have q1:w6.cell? ⟨PT,1,none⟩=some (.string ⟨#[]⟩):=HT.out.cell 1
    have q2:w6.cell? ⟨PT,2,none⟩=some (.int .i64 0):=HT.out.cell 2
    have q3:w6.cell? ⟨PT,3,none⟩=some (.slice none 0 0):=HT.out.cell 3
    have fz:=HT.out.frozen
    have hne:PT≠w.heap.size:=by have:=HPT.out;have:=HLT.out;omega
    refine Reg.any_store 7 ((((w6.setCell ⟨PT,0,none⟩ (.string ⟨sv.1.toArray⟩)).setCell ⟨PT,1,none⟩ (.string ⟨sv.2.toArray⟩)).setCell ⟨PT,2,none⟩ (.int .i64 (kv:Int))).setCell ⟨PT,3,none⟩ (.slice none 0 0)) rfl (by kernel_rfl) (by rfl) (by go_simp) (far4 HO.out hne _ _ _ _) ?_
    simp only[Act.put,List.setIfInBounds_toArray,List.set_cons_zero,List.set_cons_succ]
    clear q0 q1 q2 q3 fz
    refine wpAnyH_done (by kernel_rfl) ?_ _
    have hv:=set4 HT.out (.string ⟨sv.1.toArray⟩) (.string ⟨sv.2.toArray⟩) (.int .i64 (kv:Int)) (.slice none 0 0)
    go_wp2_with fail
    go_meet
    exact⟨PT,rfl,HPT.out,hv,below4 HB3.out HPT.out _ _ _ _⟩
  case rest=>
   obtain⟨PT,rfl,hpt,ht,hb⟩:=hcut
   have HPT:=Lib.hid (Nat.le_trans HK.out.size hpt)
   have HPT3:=Lib.hid ht.lt
   replace S2:=Lib.hid (SlX.up0 S2.out PT hpt)
   have HPN2:=Lib.hid (show PT≠w.heap.size+1∧PT≠w.heap.size+1+1 from⟨fun e=>(by have:=HP.out.lt;have:=HWP.out;omega),fun e=>(by have:=HR.out.lt;omega)⟩)
   replace HO:=Lib.hid (HO.out.below hb);replace HP:=Lib.hid (HP.out.below hb);replace HR:=Lib.hid (HR.out.below hb);replace S1:=Lib.hid (S1.out.below hb);replace S2:=Lib.hid (S2.out.below hb);replace HK:=Lib.hid (HK.out.below hb)
   have HT:=Lib.hid ht
   clear hpt ht hb C3
   have HWC2:=Lib.hid (show w.heap.size+1+1<wc.heap.size from HR.out.lt)
   have HWC3:=Lib.hid (show w.heap.size≤wc.heap.size from HK.out.size)
   have ko2:wc.cell? ⟨w.heap.size,2,none⟩=some (.pointer (some ⟨x1,0,none⟩)):=HO.out.cell 2
   have HOR:=Lib.hid (HN0.out (w.heap.size+1+1) (by omega))
   have HOP:=Lib.hid (HN0.out (w.heap.size+1) (by omega))
   have HOT:=Lib.hid (HN0.out PT HPT.out)
   have cs1:=kseal_any HK.out.st (HK.out.hdl H1.out) (by have:=HC.out;omega) (by have:=HNN.out;omega) 2 v1 b1 HL3.out S1.out
   rw[←EX7.out] at cs1
   go_upto_region 8 with(first
    |(go_at_call 110;refine Calls.mono cs1 ?_;rintro e w7 ⟨v7,es7,s7,rfl,hs7,hk7⟩;clear cs1 ko2 S1 HO;have hor:=hk7.off HOR.out HR.out.lt;have hop:=hk7.off HOP.out HP.out.lt;have hot:=hk7.off HOT.out HT.out.lt;have hp7:=hk7.blk HP.out HOP.out.no;have ht7:=hk7.blk HT.out HOT.out.no;have hr7:=hk7.blk HR.out HOR.out.no;have h2s:=S2.out.kn hk7;have h77:=SlX.of_out (X:=fun j=>j<wc.heap.size) hs7 (fun _ x=>x);replace HP:=Lib.hid hp7;replace HT:=Lib.hid ht7;replace HR:=Lib.hid hr7;replace HOR:=Lib.hid hor;replace HOP:=Lib.hid hop;replace HOT:=Lib.hid hot;replace S2:=Lib.hid h2s;have S7:=Lib.hid h77;replace HK:=Lib.hid (HK.out.trans hk7);obtain⟨A7,m7,ev7,hm7,hr77⟩:=hs7;obtain⟨L7,eL7⟩:∃z,z=x7.length:=⟨_,rfl⟩;rw[←eL7] at ev7;subst ev7;clear hk7 hor hop hot hp7 ht7 hr7 h2s h77 hm7 hr77 eL7;have kt3:w7.cell? ⟨PT,3,none⟩=some (.slice none 0 0):=HT.out.cell 3;have fzt:=HT.out.frozen)
    |fail)
   clear kt3 fzt
   obtain⟨W8,eW8⟩:∃z,z=(w7.setCell ⟨PT,3,none⟩ (.slice A7 L7 m7)).drew:=⟨_,rfl⟩
   have hp8:Blk W8 (w.heap.size+1) 71 csP:=eW8▸(Si.Blk.far HP.out _ _ HPN2.out.1).drewN 1
   have hr8:Blk W8 (w.heap.size+1+1) 38 reZ:=eW8▸(Si.Blk.far HR.out _ _ HPN2.out.2).drewN 1
   have ht8:Blk W8 PT 32 #[.string ⟨sv.1.toArray⟩,.string ⟨sv.2.toArray⟩,.int .i64 (kv:Int),.slice A7 L7 m7]:=eW8▸(HT.out.set 3 (.slice A7 L7 m7)).drewN 1
   have hk8:Kn w W8 B p es s es7 s7 (n+1) i (c+1):=eW8▸(HK.out.put HPT.out HOT.out 3 (.slice A7 L7 m7)).drew
   have h28:SlN (KSO p es7 s7) W8 v2 b2:=eW8▸(((S2.out.put rfl 3 (.slice A7 L7 m7)).below (below_drewN (Below.refl _ _) 1)).kso)
   have h78:SlX (fun j=>j<wc.heap.size) p es7 s7 W8 (.slice A7 L7 m7) x7:=eW8▸((S7.out.put HPT3.out 3 (.slice A7 L7 m7)).below (below_drewN (Below.refl _ _) 1))
   go_cut [20] from 60 to 69 (fun rv wx=>∃(PR:Nat) (A7:Option Addr) (L7 m7:Nat) (A9:Option Addr) (L9 m9:Nat) (es9:List Ent) (s9:Option Ss),rv = .pointer (some ⟨PR,0,none⟩)∧Blk wx PR 38 #[.string ⟨P.c.1.toArray⟩,.string ⟨P.c.2.toArray⟩,.string ⟨sv.1.toArray⟩,.string ⟨sv.2.toArray⟩,.int .i64 (kv:Int),.slice A7 L7 m7,.slice A9 L9 m9]∧Blk wx (w.heap.size+1+1) 38 reZ∧Off p es9 s9 (w.heap.size+1+1)∧Off p es9 s9 PR∧SlX (fun j=>j=PR∨j=w.heap.size+1+1∨j<w.heap.size) p es9 s9 wx (.slice A7 L7 m7) x7∧SlX (fun j=>j=PR∨j=w.heap.size+1+1∨j<w.heap.size) p es9 s9 wx (.slice A9 L9 m9) x9∧Kn w wx B p es s es9 s9 (n+1+1) i (c+1+1))
   case first=>
    clear HP HT HR HK S2 S7
    have HP:=Lib.hid hp8;have HR:=Lib.hid hr8;have HT:=Lib.hid ht8;have HK:=Lib.hid hk8;have S2:=Lib.hid h28;have S7:=Lib.hid h78
    clear hp8 hr8 ht8 hk8 h28 h78
    refine Reg.any_begin (fun w'=>Blk w' (w.heap.size+1) 71 csP∧Blk w' PT 32 #[.string ⟨sv.1.toArray⟩,.string ⟨sv.2.toArray⟩,.int .i64 (kv:Int),.slice A7 L7 m7]) 12 rfl (by kernel_rfl) (by rw[←eW8];exact⟨HP.out,HT.out⟩) ?_
    rw[←eW8]
    clear eW8
    refine Reg.any_take 0 (v:=?va81) rfl (by kernel_rfl) (by kernel_rfl) (by kernel_rfl) (fun _ _ _ h=>h) ⟨HP.out,HT.out⟩ (by rfl) (fun w' hS=>?ha81) ?ra81
    case ha81=>go_simp<;>rfl
    simp only[Act.put,List.setIfInBounds_toArray,List.set_cons_zero,List.set_cons_succ]
    refine Reg.any_take 1 (v:=?va82) rfl (by kernel_rfl) (by kernel_rfl) (by kernel_rfl) (fun _ _ _ h=>h) ⟨HP.out,HT.out⟩ (by rfl) (fun w' hS=>?ha82) ?ra82
    case ha82=>have q:=HP0.out _ _ hS.1;have q0:=q.1;have q1:=q.2;clear q;go_simp<;>rfl
    simp only[Act.put,List.setIfInBounds_toArray,List.set_cons_zero,List.set_cons_succ]
    refine Reg.any_take 3 (v:=?va83) rfl (by kernel_rfl) (by kernel_rfl) (by kernel_rfl) (fun _ _ _ h=>h) ⟨HP.out,HT.out⟩ (by rfl) (fun w' hS=>?ha83) ?ra83
    case ha83=>have q0:w'.cell? ⟨PT,0,none⟩=some (.string ⟨sv.1.toArray⟩):=Blk.cell hS.2 0;have q1:w'.cell? ⟨PT,1,none⟩=some (.string ⟨sv.2.toArray⟩):=Blk.cell hS.2 1;have q2:w'.cell? ⟨PT,2,none⟩=some (.int .i64 (kv:Int)):=Blk.cell hS.2 2;have q3:w'.cell? ⟨PT,3,none⟩=some (.slice A7 L7 m7):=Blk.cell hS.2 3;go_simp<;>rfl
    simp only[Act.put,List.setIfInBounds_toArray,List.set_cons_zero,List.set_cons_succ]
    refine Reg.any_take 4 (v:=?va84) rfl (by kernel_rfl) (by kernel_rfl) (by kernel_rfl) (fun _ _ _ h=>h) ⟨HP.out,HT.out⟩ (by rfl) (fun w' hS=>?ha84) ?ra84
    case ha84=>go_simp<;>rfl
    simp only[Act.put,List.setIfInBounds_toArray,List.set_cons_zero,List.set_cons_succ]
    refine Reg.any_take 5 (v:=?va85) rfl (by kernel_rfl) (by kernel_rfl) (by kernel_rfl) (fun _ _ _ h=>h) ⟨HP.out,HT.out⟩ (by rfl) (fun w' hS=>?ha85) ?ra85
    case ha85=>go_simp<;>rfl
    simp only[Act.put,List.setIfInBounds_toArray,List.set_cons_zero,List.set_cons_succ]
    refine Reg.any_take 6 (v:=?va86) rfl (by kernel_rfl) (by kernel_rfl) (by kernel_rfl) (fun _ _ _ h=>h) ⟨HP.out,HT.out⟩ (by rfl) (fun w' hS=>?ha86) ?ra86
    case ha86=>go_simp<;>rfl
    simp only[Act.put,List.setIfInBounds_toArray,List.set_cons_zero,List.set_cons_succ]
    refine Reg.any_take 7 (v:=?va87) rfl (by kernel_rfl) (by kernel_rfl) (by kernel_rfl) (fun _ _ _ h=>h) ⟨HP.out,HT.out⟩ (by rfl) (fun w' hS=>?ha87) ?ra87
    case ha87=>go_simp<;>rfl
    simp only[Act.put,List.setIfInBounds_toArray,List.set_cons_zero,List.set_cons_succ]
    refine Reg.both_all [2,10] (by kernel_rfl) (by simp) ?_
    intro j0 hj0
    have hj0:j0=2∨j0=10:=by simpa using hj0
    rcases hj0 with rfl | rfl
    ·right
     refine⟨_,_,_,_,_,_,109,#[Rg.prV P.c],rfl,by rfl,by go_simp,?_⟩
     refine Calls.mono (C4.out _) ?_
     rintro e wd ⟨rfl,hb⟩
     replace HP:=Lib.hid (HP.out.below hb)
     replace HT:=Lib.hid (HT.out.below hb)
     replace HR:=Lib.hid (HR.out.below hb)
     replace S2:=Lib.hid (S2.out.below hb)
     replace S7:=Lib.hid (S7.out.below hb)
     replace HK:=Lib.hid (HK.out.below hb)
     clear hb
     refine⟨_,rfl,⟨HP.out,HT.out⟩,?_⟩
     simp only[Act.put,List.setIfInBounds_toArray,List.set_cons_zero,List.set_cons_succ]
     refine Reg.both_all [8,10] (by kernel_rfl) (by simp) ?_
     intro j0 hj0
     have hj0:j0=8∨j0=10:=by simpa using hj0
     rcases hj0 with rfl | rfl
     ·right
      refine⟨_,_,_,_,_,_,110,#[.pointer (some ⟨p.k,0,none⟩),.pointer (some ⟨x2,0,none⟩),.int .i64 u,v2],rfl,by rfl,by go_simp,?_⟩
      have c9:=kseal_any HK.out.st (HK.out.hdl H2.out) (by have:=HC.out;omega) (by have:=HNN.out;omega) u _ b2 HL4.out S2.out
      rw[←EX9.out] at c9
      refine Calls.mono c9 ?_
      clear c9
      rintro e w9 ⟨v9,es9,s9,rfl,hs9,hk9⟩
      have hp9:=hk9.blk HP.out (HOP.out).no
      have ht9:=hk9.blk HT.out (HOT.out).no
      have hr9:=hk9.blk HR.out (HOR.out).no
      have hor:=hk9.off HOR.out HR.out.lt
      have h79:=S7.out.kn hk9
      have hs99:=SlX.of_out (X:=fun j=>j<wd.heap.size) hs9 (fun _ x=>x)
      have HP23:=Lib.hid (show w.heap.size+1+1<wd.heap.size from HR.out.lt)
      have HP24:=Lib.hid HK.out.size
      replace HP:=Lib.hid hp9;replace HT:=Lib.hid ht9;replace HR:=Lib.hid hr9;replace HOR:=Lib.hid hor;replace S7:=Lib.hid h79;have S9:=Lib.hid hs99;replace HK:=Lib.hid (HK.out.trans hk9)
      obtain⟨A9,m9,ev9,hm9,hr99⟩:=hs9
      obtain⟨L9,eL9⟩:∃z,z=x9.length:=⟨_,rfl⟩
      rw[←eL9] at ev9
      subst ev9
      clear hk9 hp9 ht9 hr9 hor h79 hs99 hm9 hr99 eL9 S2 HOP HOT
      refine⟨_,rfl,⟨HP.out,HT.out⟩,?_⟩
      simp only[Act.put,List.setIfInBounds_toArray,List.set_cons_zero,List.set_cons_succ]
      refine Reg.any_take 9 (v:=.agg #[.string ⟨P.c.1.toArray⟩,.string ⟨P.c.2.toArray⟩,.string ⟨sv.1.toArray⟩,.string ⟨sv.2.toArray⟩,.int .i64 (kv:Int),.slice A7 L7 m7,.slice A9 L9 m9]) rfl (by kernel_rfl) (by kernel_rfl) (by kernel_rfl) (fun _ _ _ h=>h) ⟨HP.out,HT.out⟩ (by rfl) (fun w' hS=>?ha88) ?ra88
      case ha88=>go_simp<;>rfl
      simp only[Act.put,List.setIfInBounds_toArray,List.set_cons_zero,List.set_cons_succ]
      refine Reg.both_all [10] (by kernel_rfl) (by simp) ?_
      intro j0 hj0
      obtain rfl:j0=10:=by simpa using hj0
      clear hj0
      left
      have hb:Below w9.heap.size w9 (w9.alloc (.cells reZ 38)):=(Below.refl _ _).alloc (Nat.le_refl _) _
      have hnb:=Blk.new w9 38 reZ
      refine⟨_,_,_,_,_,_,.pointer (some ⟨w9.heap.size,0,none⟩),w9.alloc (.cells reZ 38),rfl,by rfl,(by go_simp<;>rfl),⟨HP.out.alloc _,HT.out.alloc _⟩,?_⟩
      simp only[Act.put,List.setIfInBounds_toArray,List.set_cons_zero,List.set_cons_succ]
      obtain⟨wn,ewn⟩:∃z,z=w9.alloc (.cells reZ 38):=⟨_,rfl⟩
      rw[←ewn] at hb hnb⊢
      clear ewn
      have HOZ:=Lib.hid (HK.out.st.offs (Nat.le_refl w9.heap.size))
      have HPR:=Lib.hid (Nat.le_trans HK.out.size (Nat.le_refl w9.heap.size))
      have HPT2:=Lib.hid (show PT<w9.heap.size from HT.out.lt)
      have HP22:=Lib.hid (show w.heap.size+1+1<w9.heap.size from HR.out.lt)
      replace S7:=Lib.hid (S7.out.up _ (Nat.le_refl w9.heap.size))
      replace S9:=Lib.hid (S9.out.up _ (Nat.le_refl w9.heap.size))
      replace HP:=Lib.hid (HP.out.below hb)
      replace HT:=Lib.hid (HT.out.below hb)
      replace HR:=Lib.hid (HR.out.below hb)
      replace S7:=Lib.hid (S7.out.below hb)
      replace HK:=Lib.hid (HK.out.below hb)
      replace S9:=Lib.hid (S9.out.below hb)
      have HN:=Lib.hid hnb
      clear hnb hb
      obtain⟨PR,ePR⟩:∃z,z=w9.heap.size:=⟨_,rfl⟩
      rw[←ePR] at HN HOZ HPR HPT2 HP22 S7 S9⊢
      clear ePR
      have q0:wn.cell? ⟨PR,0,none⟩=some (.string ⟨#[]⟩):=HN.out.cell 0
      have q1:wn.cell? ⟨PR,1,none⟩=some (.string ⟨#[]⟩):=HN.out.cell 1
      have q2:wn.cell? ⟨PR,2,none⟩=some (.string ⟨#[]⟩):=HN.out.cell 2
      have q3:wn.cell? ⟨PR,3,none⟩=some (.string ⟨#[]⟩):=HN.out.cell 3
      have q4:wn.cell? ⟨PR,4,none⟩=some (.int .i64 0):=HN.out.cell 4
      have q5:wn.cell? ⟨PR,5,none⟩=some (.slice none 0 0):=HN.out.cell 5
      have q6:wn.cell? ⟨PR,6,none⟩=some (.slice none 0 0):=HN.out.cell 6
      have fz:=HN.out.frozen
      have hn1:PR≠w.heap.size+1:=by have:=HP22.out;omega
      have hn2:PR≠PT:=by have:=HPT2.out;omega
      refine Reg.any_store 11 (((((((wn.setCell ⟨PR,0,none⟩ (.string ⟨P.c.1.toArray⟩)).setCell ⟨PR,1,none⟩ (.string ⟨P.c.2.toArray⟩)).setCell ⟨PR,2,none⟩ (.string ⟨sv.1.toArray⟩)).setCell ⟨PR,3,none⟩ (.string ⟨sv.2.toArray⟩)).setCell ⟨PR,4,none⟩ (.int .i64 (kv:Int))).setCell ⟨PR,5,none⟩ (.slice A7 L7 m7)).setCell ⟨PR,6,none⟩ (.slice A9 L9 m9)) rfl (by kernel_rfl) (by rfl) (by go_simp) ⟨far7 HP.out hn1 _ _ _ _ _ _ _,far7 HT.out hn2 _ _ _ _ _ _ _⟩ ?_
      simp only[Act.put,List.setIfInBounds_toArray,List.set_cons_zero,List.set_cons_succ]
      clear q0 q1 q2 q3 q4 q5 q6 fz
      refine wpAnyH_done (by kernel_rfl) ?_ _
      have hn3:PR≠w.heap.size+1+1:=by have:=HP22.out;omega
      have hv:=set7 HN.out (.string ⟨P.c.1.toArray⟩) (.string ⟨P.c.2.toArray⟩) (.string ⟨sv.1.toArray⟩) (.string ⟨sv.2.toArray⟩) (.int .i64 (kv:Int)) (.slice A7 L7 m7) (.slice A9 L9 m9)
      go_wp2_with fail
      go_meet
      exact⟨PR,A7,L7,m7,A9,L9,m9,es9,s9,rfl,hv,far7 HR.out hn3 _ _ _ _ _ _ _,HOR.out,HOZ.out,(S7.out.less (fun j x=>(by rcases x with x | x | x<;>first | exact .inr x | (subst x;exact .inl HWC2.out) | exact .inl (Nat.lt_of_lt_of_le x HWC3.out) | (subst x;exact HPN.out) | (subst x;exact HP23.out) | (subst x;exact .inl HP23.out) | exact Nat.lt_of_lt_of_le x HP24.out | exact .inl (Nat.lt_of_lt_of_le x HP24.out)))).put7 (.inl rfl) _ _ _ _ _ _ _,(S9.out.less (fun j x=>(by rcases x with x | x | x<;>first | exact .inr x | (subst x;exact .inl HWC2.out) | exact .inl (Nat.lt_of_lt_of_le x HWC3.out) | (subst x;exact HPN.out) | (subst x;exact HP23.out) | (subst x;exact .inl HP23.out) | exact Nat.lt_of_lt_of_le x HP24.out | exact .inl (Nat.lt_of_lt_of_le x HP24.out)))).put7 (.inl rfl) _ _ _ _ _ _ _,HK.out.put7 HPR.out HOZ.out _ _ _ _ _ _ _⟩
     ·left
      have hb:Below wd.heap.size wd (wd.alloc (.cells reZ 38)):=(Below.refl _ _).alloc (Nat.le_refl _) _
      have hnb:=Blk.new wd 38 reZ
      refine⟨_,_,_,_,_,_,.pointer (some ⟨wd.heap.size,0,none⟩),wd.alloc (.cells reZ 38),rfl,by rfl,(by go_simp<;>rfl),⟨HP.out.alloc _,HT.out.alloc _⟩,?_⟩
      simp only[Act.put,List.setIfInBounds_toArray,List.set_cons_zero,List.set_cons_succ]
      obtain⟨wn,ewn⟩:∃z,z=wd.alloc (.cells reZ 38):=⟨_,rfl⟩
      rw[←ewn] at hb hnb⊢
      clear ewn
      have HOZ:=Lib.hid (HK.out.st.offs (Nat.le_refl wd.heap.size))
      have HPR:=Lib.hid (Nat.le_trans HK.out.size (Nat.le_refl wd.heap.size))
      have HPT2:=Lib.hid (show PT<wd.heap.size from HT.out.lt)
      have HP22:=Lib.hid (show w.heap.size+1+1<wd.heap.size from HR.out.lt)
      replace S7:=Lib.hid (S7.out.up _ (Nat.le_refl wd.heap.size))
      replace HP:=Lib.hid (HP.out.below hb)
      replace HT:=Lib.hid (HT.out.below hb)
      replace HR:=Lib.hid (HR.out.below hb)
      replace S2:=Lib.hid (S2.out.below hb)
      replace S7:=Lib.hid (S7.out.below hb)
      replace HK:=Lib.hid (HK.out.below hb)
      have HN:=Lib.hid hnb
      clear hnb hb
      obtain⟨PR,ePR⟩:∃z,z=wd.heap.size:=⟨_,rfl⟩
      rw[←ePR] at HN HOZ HPR HPT2 HP22 S7⊢
      clear ePR
      refine Reg.both_all [8] (by kernel_rfl) (by simp) ?_
      intro j0 hj0
      obtain rfl:j0=8:=by simpa using hj0
      clear hj0
      right
      refine⟨_,_,_,_,_,_,110,#[.pointer (some ⟨p.k,0,none⟩),.pointer (some ⟨x2,0,none⟩),.int .i64 u,v2],rfl,by rfl,by go_simp,?_⟩
      have c9:=kseal_any HK.out.st (HK.out.hdl H2.out) (by have:=HC.out;omega) (by have:=HNN.out;omega) u _ b2 HL4.out S2.out
      rw[←EX9.out] at c9
      refine Calls.mono c9 ?_
      clear c9
      rintro e w9 ⟨v9,es9,s9,rfl,hs9,hk9⟩
      have hp9:=hk9.blk HP.out (HOP.out).no
      have ht9:=hk9.blk HT.out (HOT.out).no
      have hr9:=hk9.blk HR.out (HOR.out).no
      have hor:=hk9.off HOR.out HR.out.lt
      have h79:=S7.out.kn hk9
      have hs99:=SlX.of_out (X:=fun j=>j<wn.heap.size) hs9 (fun _ x=>x)
      have hn9:=hk9.blk HN.out HOZ.out.no
      have hoz:=hk9.off HOZ.out HN.out.lt
      have HPN:=Lib.hid (show PR<wn.heap.size from HN.out.lt)
      have HP23:=Lib.hid (show w.heap.size+1+1<wn.heap.size from HR.out.lt)
      have HP24:=Lib.hid HK.out.size
      replace HP:=Lib.hid hp9;replace HT:=Lib.hid ht9;replace HR:=Lib.hid hr9;replace HOR:=Lib.hid hor;replace S7:=Lib.hid h79;have S9:=Lib.hid hs99;replace HK:=Lib.hid (HK.out.trans hk9);replace HN:=Lib.hid hn9;replace HOZ:=Lib.hid hoz
      obtain⟨A9,m9,ev9,hm9,hr99⟩:=hs9
      obtain⟨L9,eL9⟩:∃z,z=x9.length:=⟨_,rfl⟩
      rw[←eL9] at ev9
      subst ev9
      clear hk9 hp9 ht9 hr9 hor h79 hs99 hm9 hr99 eL9 S2 HOP HOT hn9 hoz
      refine⟨_,rfl,⟨HP.out,HT.out⟩,?_⟩
      simp only[Act.put,List.setIfInBounds_toArray,List.set_cons_zero,List.set_cons_succ]
      refine Reg.any_take 9 (v:=.agg #[.string ⟨P.c.1.toArray⟩,.string ⟨P.c.2.toArray⟩,.string ⟨sv.1.toArray⟩,.string ⟨sv.2.toArray⟩,.int .i64 (kv:Int),.slice A7 L7 m7,.slice A9 L9 m9]) rfl (by kernel_rfl) (by kernel_rfl) (by kernel_rfl) (fun _ _ _ h=>h) ⟨HP.out,HT.out⟩ (by rfl) (fun w' hS=>?ha89) ?ra89
      case ha89=>go_simp<;>rfl
      simp only[Act.put,List.setIfInBounds_toArray,List.set_cons_zero,List.set_cons_succ]
      have q0:w9.cell? ⟨PR,0,none⟩=some (.string ⟨#[]⟩):=HN.out.cell 0
      have q1:w9.cell? ⟨PR,1,none⟩=some (.string ⟨#[]⟩):=HN.out.cell 1
      have q2:w9.cell? ⟨PR,2,none⟩=some (.string ⟨#[]⟩):=HN.out.cell 2
      have q3:w9.cell? ⟨PR,3,none⟩=some (.string ⟨#[]⟩):=HN.out.cell 3
      have q4:w9.cell? ⟨PR,4,none⟩=some (.int .i64 0):=HN.out.cell 4
      have q5:w9.cell? ⟨PR,5,none⟩=some (.slice none 0 0):=HN.out.cell 5
      have q6:w9.cell? ⟨PR,6,none⟩=some (.slice none 0 0):=HN.out.cell 6
      have fz:=HN.out.frozen
      have hn1:PR≠w.heap.size+1:=by have:=HP22.out;omega
      have hn2:PR≠PT:=by have:=HPT2.out;omega
      refine Reg.any_store 11 (((((((w9.setCell ⟨PR,0,none⟩ (.string ⟨P.c.1.toArray⟩)).setCell ⟨PR,1,none⟩ (.string ⟨P.c.2.toArray⟩)).setCell ⟨PR,2,none⟩ (.string ⟨sv.1.toArray⟩)).setCell ⟨PR,3,none⟩ (.string ⟨sv.2.toArray⟩)).setCell ⟨PR,4,none⟩ (.int .i64 (kv:Int))).setCell ⟨PR,5,none⟩ (.slice A7 L7 m7)).setCell ⟨PR,6,none⟩ (.slice A9 L9 m9)) rfl (by kernel_rfl) (by rfl) (by go_simp) ⟨far7 HP.out hn1 _ _ _ _ _ _ _,far7 HT.out hn2 _ _ _ _ _ _ _⟩ ?_
      simp only[Act.put,List.setIfInBounds_toArray,List.set_cons_zero,List.set_cons_succ]
      clear q0 q1 q2 q3 q4 q5 q6 fz
      refine wpAnyH_done (by kernel_rfl) ?_ _
      have hn3:PR≠w.heap.size+1+1:=by have:=HP22.out;omega
      have hv:=set7 HN.out (.string ⟨P.c.1.toArray⟩) (.string ⟨P.c.2.toArray⟩) (.string ⟨sv.1.toArray⟩) (.string ⟨sv.2.toArray⟩) (.int .i64 (kv:Int)) (.slice A7 L7 m7) (.slice A9 L9 m9)
      go_wp2_with fail
      go_meet
      exact⟨PR,A7,L7,m7,A9,L9,m9,es9,s9,rfl,hv,far7 HR.out hn3 _ _ _ _ _ _ _,HOR.out,HOZ.out,(S7.out.less (fun j x=>(by rcases x with x | x | x<;>first | exact .inr x | (subst x;exact .inl HWC2.out) | exact .inl (Nat.lt_of_lt_of_le x HWC3.out) | (subst x;exact HPN.out) | (subst x;exact HP23.out) | (subst x;exact .inl HP23.out) | exact Nat.lt_of_lt_of_le x HP24.out | exact .inl (Nat.lt_of_lt_of_le x HP24.out)))).put7 (.inl rfl) _ _ _ _ _ _ _,(S9.out.less (fun j x=>(by rcases x with x | x | x<;>first | exact .inr x | (subst x;exact .inl HWC2.out) | exact .inl (Nat.lt_of_lt_of_le x HWC3.out) | (subst x;exact HPN.out) | (subst x;exact HP23.out) | (subst x;exact .inl HP23.out) | exact Nat.lt_of_lt_of_le x HP24.out | exact .inl (Nat.lt_of_lt_of_le x HP24.out)))).put7 (.inl rfl) _ _ _ _ _ _ _,HK.out.put7 HPR.out HOZ.out _ _ _ _ _ _ _⟩
    ·left
     have hb:Below W8.heap.size W8 (W8.alloc (.cells reZ 38)):=(Below.refl _ _).alloc (Nat.le_refl _) _
     have hnb:=Blk.new W8 38 reZ
     refine⟨_,_,_,_,_,_,.pointer (some ⟨W8.heap.size,0,none⟩),W8.alloc (.cells reZ 38),rfl,by rfl,(by go_simp<;>rfl),⟨HP.out.alloc _,HT.out.alloc _⟩,?_⟩
     simp only[Act.put,List.setIfInBounds_toArray,List.set_cons_zero,List.set_cons_succ]
     obtain⟨wn,ewn⟩:∃z,z=W8.alloc (.cells reZ 38):=⟨_,rfl⟩
     rw[←ewn] at hb hnb⊢
     clear ewn
     have HOZ:=Lib.hid (HK.out.st.offs (Nat.le_refl W8.heap.size))
     have HPR:=Lib.hid (Nat.le_trans HK.out.size (Nat.le_refl W8.heap.size))
     have HPT2:=Lib.hid (show PT<W8.heap.size from HT.out.lt)
     have HP22:=Lib.hid (show w.heap.size+1+1<W8.heap.size from HR.out.lt)
     replace S7:=Lib.hid (S7.out.up _ (Nat.le_refl W8.heap.size))
     replace HP:=Lib.hid (HP.out.below hb)
     replace HT:=Lib.hid (HT.out.below hb)
     replace HR:=Lib.hid (HR.out.below hb)
     replace S2:=Lib.hid (S2.out.below hb)
     replace S7:=Lib.hid (S7.out.below hb)
     replace HK:=Lib.hid (HK.out.below hb)
     have HN:=Lib.hid hnb
     clear hnb hb
     obtain⟨PR,ePR⟩:∃z,z=W8.heap.size:=⟨_,rfl⟩
     rw[←ePR] at HN HOZ HPR HPT2 HP22 S7⊢
     clear ePR
     refine Reg.both_all [2] (by kernel_rfl) (by simp) ?_
     intro j0 hj0
     obtain rfl:j0=2:=by simpa using hj0
     clear hj0
     right
     refine⟨_,_,_,_,_,_,109,#[Rg.prV P.c],rfl,by rfl,by go_simp,?_⟩
     refine Calls.mono (C4.out _) ?_
     rintro e wd ⟨rfl,hb⟩
     replace HP:=Lib.hid (HP.out.below hb)
     replace HT:=Lib.hid (HT.out.below hb)
     replace HR:=Lib.hid (HR.out.below hb)
     replace HN:=Lib.hid (HN.out.below hb)
     replace S2:=Lib.hid (S2.out.below hb)
     replace S7:=Lib.hid (S7.out.below hb)
     replace HK:=Lib.hid (HK.out.below hb)
     clear hb
     refine⟨_,rfl,⟨HP.out,HT.out⟩,?_⟩
     simp only[Act.put,List.setIfInBounds_toArray,List.set_cons_zero,List.set_cons_succ]
     refine Reg.both_all [8] (by kernel_rfl) (by simp) ?_
     intro j0 hj0
     obtain rfl:j0=8:=by simpa using hj0
     clear hj0
     right
     refine⟨_,_,_,_,_,_,110,#[.pointer (some ⟨p.k,0,none⟩),.pointer (some ⟨x2,0,none⟩),.int .i64 u,v2],rfl,by rfl,by go_simp,?_⟩
     have c9:=kseal_any HK.out.st (HK.out.hdl H2.out) (by have:=HC.out;omega) (by have:=HNN.out;omega) u _ b2 HL4.out S2.out
     rw[←EX9.out] at c9
     refine Calls.mono c9 ?_
     clear c9
     rintro e w9 ⟨v9,es9,s9,rfl,hs9,hk9⟩
     have hp9:=hk9.blk HP.out (HOP.out).no
     have ht9:=hk9.blk HT.out (HOT.out).no
     have hr9:=hk9.blk HR.out (HOR.out).no
     have hor:=hk9.off HOR.out HR.out.lt
     have h79:=S7.out.kn hk9
     have hs99:=SlX.of_out (X:=fun j=>j<wd.heap.size) hs9 (fun _ x=>x)
     have hn9:=hk9.blk HN.out HOZ.out.no
     have hoz:=hk9.off HOZ.out HN.out.lt
     have HPN:=Lib.hid (show PR<wd.heap.size from HN.out.lt)
     have HP23:=Lib.hid (show w.heap.size+1+1<wd.heap.size from HR.out.lt)
     have HP24:=Lib.hid HK.out.size
     replace HP:=Lib.hid hp9;replace HT:=Lib.hid ht9;replace HR:=Lib.hid hr9;replace HOR:=Lib.hid hor;replace S7:=Lib.hid h79;have S9:=Lib.hid hs99;replace HK:=Lib.hid (HK.out.trans hk9);replace HN:=Lib.hid hn9;replace HOZ:=Lib.hid hoz
     obtain⟨A9,m9,ev9,hm9,hr99⟩:=hs9
     obtain⟨L9,eL9⟩:∃z,z=x9.length:=⟨_,rfl⟩
     rw[←eL9] at ev9
     subst ev9
     clear hk9 hp9 ht9 hr9 hor h79 hs99 hm9 hr99 eL9 S2 HOP HOT hn9 hoz
     refine⟨_,rfl,⟨HP.out,HT.out⟩,?_⟩
     simp only[Act.put,List.setIfInBounds_toArray,List.set_cons_zero,List.set_cons_succ]
     refine Reg.any_take 9 (v:=.agg #[.string ⟨P.c.1.toArray⟩,.string ⟨P.c.2.toArray⟩,.string ⟨sv.1.toArray⟩,.string ⟨sv.2.toArray⟩,.int .i64 (kv:Int),.slice A7 L7 m7,.slice A9 L9 m9]) rfl (by kernel_rfl) (by kernel_rfl) (by kernel_rfl) (fun _ _ _ h=>h) ⟨HP.out,HT.out⟩ (by rfl) (fun w' hS=>?ha810) ?ra810
     case ha810=>go_simp<;>rfl
     simp only[Act.put,List.setIfInBounds_toArray,List.set_cons_zero,List.set_cons_succ]
     have q0:w9.cell? ⟨PR,0,none⟩=some (.string ⟨#[]⟩):=HN.out.cell 0
     have q1:w9.cell? ⟨PR,1,none⟩=some (.string ⟨#[]⟩):=HN.out.cell 1
     have q2:w9.cell? ⟨PR,2,none⟩=some (.string ⟨#[]⟩):=HN.out.cell 2
     have q3:w9.cell? ⟨PR,3,none⟩=some (.string ⟨#[]⟩):=HN.out.cell 3
     have q4:w9.cell? ⟨PR,4,none⟩=some (.int .i64 0):=HN.out.cell 4
     have q5:w9.cell? ⟨PR,5,none⟩=some (.slice none 0 0):=HN.out.cell 5
     have q6:w9.cell? ⟨PR,6,none⟩=some (.slice none 0 0):=HN.out.cell 6
     have fz:=HN.out.frozen
     have hn1:PR≠w.heap.size+1:=by have:=HP22.out;omega
     have hn2:PR≠PT:=by have:=HPT2.out;omega
     refine Reg.any_store 11 (((((((w9.setCell ⟨PR,0,none⟩ (.string ⟨P.c.1.toArray⟩)).setCell ⟨PR,1,none⟩ (.string ⟨P.c.2.toArray⟩)).setCell ⟨PR,2,none⟩ (.string ⟨sv.1.toArray⟩)).setCell ⟨PR,3,none⟩ (.string ⟨sv.2.toArray⟩)).setCell ⟨PR,4,none⟩ (.int .i64 (kv:Int))).setCell ⟨PR,5,none⟩ (.slice A7 L7 m7)).setCell ⟨PR,6,none⟩ (.slice A9 L9 m9)) rfl (by kernel_rfl) (by rfl) (by go_simp) ⟨far7 HP.out hn1 _ _ _ _ _ _ _,far7 HT.out hn2 _ _ _ _ _ _ _⟩ ?_
     simp only[Act.put,List.setIfInBounds_toArray,List.set_cons_zero,List.set_cons_succ]
     clear q0 q1 q2 q3 q4 q5 q6 fz
     refine wpAnyH_done (by kernel_rfl) ?_ _
     have hn3:PR≠w.heap.size+1+1:=by have:=HP22.out;omega
     have hv:=set7 HN.out (.string ⟨P.c.1.toArray⟩) (.string ⟨P.c.2.toArray⟩) (.string ⟨sv.1.toArray⟩) (.string ⟨sv.2.toArray⟩) (.int .i64 (kv:Int)) (.slice A7 L7 m7) (.slice A9 L9 m9)
     go_wp2_with fail
     go_meet
     exact⟨PR,A7,L7,m7,A9,L9,m9,es9,s9,rfl,hv,far7 HR.out hn3 _ _ _ _ _ _ _,HOR.out,HOZ.out,(S7.out.less (fun j x=>(by rcases x with x | x | x<;>first | exact .inr x | (subst x;exact .inl HWC2.out) | exact .inl (Nat.lt_of_lt_of_le x HWC3.out) | (subst x;exact HPN.out) | (subst x;exact HP23.out) | (subst x;exact .inl HP23.out) | exact Nat.lt_of_lt_of_le x HP24.out | exact .inl (Nat.lt_of_lt_of_le x HP24.out)))).put7 (.inl rfl) _ _ _ _ _ _ _,(S9.out.less (fun j x=>(by rcases x with x | x | x<;>first | exact .inr x | (subst x;exact .inl HWC2.out) | exact .inl (Nat.lt_of_lt_of_le x HWC3.out) | (subst x;exact HPN.out) | (subst x;exact HP23.out) | (subst x;exact .inl HP23.out) | exact Nat.lt_of_lt_of_le x HP24.out | exact .inl (Nat.lt_of_lt_of_le x HP24.out)))).put7 (.inl rfl) _ _ _ _ _ _ _,HK.out.put7 HPR.out HOZ.out _ _ _ _ _ _ _⟩
   case rest=>
    clear HP HT HR HK S2 S7 hp8 hr8 ht8 hk8 h28 h78 HOR HOP HOT eW8
    obtain⟨PR,A7,L7,m7,A9,L9,m9,es9,s9,rfl,hn,hr,hor,hoz,h7,h9,hk⟩:=hcut
    have c6:=add_one ⟨p.k,6,none⟩ i _ (by have:=HII.out;omega) (hk.st.k.blk.cell 6) (hk.st.k.blk.frozen 6)
    have k6:=hk.st.put6 (i+1)
    obtain⟨I1,eI1⟩:∃z:Int,z=((i+1:Nat):Int):=⟨_,rfl⟩
    rw[←eI1] at c6 k6
    have HN:=Lib.hid (k6.blk hn hoz.no);have HR:=Lib.hid (k6.blk hr hor.no);have HOR:=Lib.hid hor;have S7:=Lib.hid (h7.kn k6);have S9:=Lib.hid (h9.kn k6);have HK:=Lib.hid (hk.trans k6)
    clear hn hr hor h7 h9 hk k6 hoz eI1
    go_upto_region 10 with(first
     |(go_at_call 111;refine Calls.mono c6 ?_;rintro e wz ⟨rfl,hw⟩;clear c6;have hw:=hw.symm;subst hw)
     |fail)
    obtain⟨wz,ewz⟩:∃z,z=(wc.setCell ⟨p.k,6,none⟩ (.int .i64 I1)):=⟨_,rfl⟩
    rw[←ewz] at HN HR S7 S9 HK⊢
    clear ewz
    have kn0:wz.cell? ⟨PR,0,none⟩=some (.string ⟨P.c.1.toArray⟩):=HN.out.cell 0
    have kn1:wz.cell? ⟨PR,1,none⟩=some (.string ⟨P.c.2.toArray⟩):=HN.out.cell 1
    have kn2:wz.cell? ⟨PR,2,none⟩=some (.string ⟨sv.1.toArray⟩):=HN.out.cell 2
    have kn3:wz.cell? ⟨PR,3,none⟩=some (.string ⟨sv.2.toArray⟩):=HN.out.cell 3
    have kn4:wz.cell? ⟨PR,4,none⟩=some (.int .i64 (kv:Int)):=HN.out.cell 4
    have kn5:wz.cell? ⟨PR,5,none⟩=some (.slice A7 L7 m7):=HN.out.cell 5
    have kn6:wz.cell? ⟨PR,6,none⟩=some (.slice A9 L9 m9):=HN.out.cell 6
    have kr0:=HR.out.cell 0
    have kr1:=HR.out.cell 1
    have kr2:=HR.out.cell 2
    have kr3:=HR.out.cell 3
    have kr4:=HR.out.cell 4
    have kr5:=HR.out.cell 5
    have kr6:=HR.out.cell 6
    have fz:=HR.out.frozen
    go_wp2_with fail
    refine bodyPost_ret (v:=.tuple #[.agg #[.string ⟨P.c.1.toArray⟩,.string ⟨P.c.2.toArray⟩,.string ⟨sv.1.toArray⟩,.string ⟨sv.2.toArray⟩,.int .i64 (kv:Int),.slice A7 L7 m7,.slice A9 L9 m9],.int .i64 0]) ?_ ?_ ?_
    ·exact results_pair (v:=.agg #[.string ⟨P.c.1.toArray⟩,.string ⟨P.c.2.toArray⟩,.string ⟨sv.1.toArray⟩,.string ⟨sv.2.toArray⟩,.int .i64 (kv:Int),.slice A7 L7 m7,.slice A9 L9 m9]) 12 13 38 ⟨w.heap.size+1+1,0,none⟩ Tryz.results51 rfl (Wh.load_blk (set7 HR.out _ _ _ _ _ _ _) Tryz.underlying38 (by rfl) re_info) rfl
    ·rfl
    ·rw[HRR.out]
     have s7f:=(S7.out.put7 (g:=w.heap.size+1+1) (.inr (.inl rfl)) (.string ⟨P.c.1.toArray⟩) (.string ⟨P.c.2.toArray⟩) (.string ⟨sv.1.toArray⟩) (.string ⟨sv.2.toArray⟩) (.int .i64 (kv:Int)) (.slice A7 L7 m7) (.slice A9 L9 m9))
     have s9f:=(S9.out.put7 (g:=w.heap.size+1+1) (.inr (.inl rfl)) (.string ⟨P.c.1.toArray⟩) (.string ⟨P.c.2.toArray⟩) (.string ⟨sv.1.toArray⟩) (.string ⟨sv.2.toArray⟩) (.int .i64 (kv:Int)) (.slice A7 L7 m7) (.slice A9 L9 m9))
     have s7g:=SlX.out (a:=w) s7f (fun j x=>.inr (.inr x))
     have s9g:=SlX.out (a:=w) s9f (fun j x=>.inr (.inr x))
     have kf:=HK.out.put7 (g:=w.heap.size+1+1) (by omega) HOR.out (.string ⟨P.c.1.toArray⟩) (.string ⟨P.c.2.toArray⟩) (.string ⟨sv.1.toArray⟩) (.string ⟨sv.2.toArray⟩) (.int .i64 (kv:Int)) (.slice A7 L7 m7) (.slice A9 L9 m9)
     clear s7f s9f
     refine⟨#[.string ⟨P.c.1.toArray⟩,.string ⟨P.c.2.toArray⟩,.string ⟨sv.1.toArray⟩,.string ⟨sv.2.toArray⟩,.int .i64 (kv:Int),.slice A7 L7 m7,.slice A9 L9 m9],es9,s9,rfl,⟨.slice A7 L7 m7,.slice A9 L9 m9,by simp only[Ms.reC,Ms.prC,Ms.tkC,List.cons_append,List.nil_append],?_,?_⟩,?_⟩
     ·simp only
      exact s7g
     ·simp only
      exact s9g
     ·show Kn w _ B p es s es9 s9 (n+2*1) (i+1) (c+2)
      exact kf
 ·have hr:rr=(2,Ms.re0):=by
   rw[ER.out,ansK,←EO1.out,←EO2.out,if_neg (by simpa using hz)]
  have HRR:=Lib.hid hr
  clear ER EO1 EO2 HL1 HL2 S1 S2 hr HO HP
  have kr0:=HR.out.cell 0
  have kr1:=HR.out.cell 1
  have kr2:=HR.out.cell 2
  have kr3:=HR.out.cell 3
  have kr4:=HR.out.cell 4
  have kr5:=HR.out.cell 5
  have kr6:=HR.out.cell 6
  have fz:=HR.out.frozen
  cases o1 with
  |none=>
   rw[show oI none=1 from rfl]
   clear hz
   go_wp2_with fail
   refine bodyPost_ret (v:=.tuple #[.agg reZ,.int .i64 2]) ?_ ?_ ?_
   ·exact results_pair (v:=.agg reZ) 12 13 38 ⟨w.heap.size+1+1,0,none⟩ Tryz.results51 rfl (Wh.load_blk (set7 HR.out _ _ _ _ _ _ _) Tryz.underlying38 (by rfl) re_info) rfl
   ·rfl
   ·rw[HRR.out]
    exact ans_err ((HK.out.put7 (by omega) (HN0.out _ (by omega)) _ _ _ _ _ _ _).more (by omega)) (by decide)
  |some b1=>
   cases o2 with
   |some b2=>exact absurd ⟨rfl,rfl⟩ hz
   |none=>
    rw[show oI none=1 from rfl,show oI (some b1)=0 from rfl]
    clear hz
    go_wp2_with fail
    refine bodyPost_ret (v:=.tuple #[.agg reZ,.int .i64 2]) ?_ ?_ ?_
    ·exact results_pair (v:=.agg reZ) 12 13 38 ⟨w.heap.size+1+1,0,none⟩ Tryz.results51 rfl (Wh.load_blk (set7 HR.out _ _ _ _ _ _ _) Tryz.underlying38 (by rfl) re_info) rfl
    ·rfl
    ·rw[HRR.out]
     exact ans_err ((HK.out.put7 (by omega) (HN0.out _ (by omega)) _ _ _ _ _ _ _).more (by omega)) (by decide)
end
end Go.Proofs.YtfcjeebnkigeaaaGreat.Kd
end

section
set_option linter.unusedVariables false
set_option linter.unusedSimpArgs false
namespace Go.Proofs.YtfcjeebnkigeaaaGreat.Ms
open Go.RowKit Go.Proofs.YtfcjeebnkigeaaaGreat.Mem Go.Proofs.YtfcjeebnkigeaaaGreat.DerP
def mSm (m:Mg):Prop:=(pSm m.aq.c∧pSm m.aq.s)∧(pSm m.tg.t.s∧pSm m.tg.s)∧(pSm m.re.c∧pSm m.re.t.s)∧pSm m.ap.t.s
section
variable {α:Type}
end
end Go.Proofs.YtfcjeebnkigeaaaGreat.Ms
end

section
set_option linter.unusedVariables false
set_option linter.unusedSimpArgs false
namespace Go.Proofs.YtfcjeebnkigeaaaGreat.Mc
open Go.RowKit Go.Proofs.YtfcjeebnkigeaaaGreat.Mem Go.Proofs.YtfcjeebnkigeaaaGreat.DerP Go.Proofs.YtfcjeebnkigeaaaGreat.Ms
theorem eql_fa (x y:Fa) (w:World):(Op.equalIn 10000 91 (.agg #[.int .i64 x.e,.int .i64 x.no]) (.agg #[.int .i64 y.e,.int .i64 y.no])).run Tryz.prog w = .ok (decide (x=y)) w:=by
 obtain⟨e,no⟩:=x
 obtain⟨e2,no2⟩:=y
 simp only
 by_cases h0:e=e2
 ·subst h0
  by_cases h1:no=no2
  ·subst h1
   rw[decide_eq_true rfl]
   go_simp
  ·rw[decide_eq_false (fun h=>h1 (congrArg (fun z=>z.no) h))]
   go_simp
 ·rw[decide_eq_false (fun h=>h0 (congrArg (fun z=>z.e) h))]
  go_simp
theorem eql_as (x y:As) (w:World):(Op.equalIn 10000 29 (.agg #[.string ⟨x.c.1.toArray⟩,.string ⟨x.c.2.toArray⟩,.string ⟨x.s.1.toArray⟩,.string ⟨x.s.2.toArray⟩,.int .i64 x.t,.int .i64 x.no]) (.agg #[.string ⟨y.c.1.toArray⟩,.string ⟨y.c.2.toArray⟩,.string ⟨y.s.1.toArray⟩,.string ⟨y.s.2.toArray⟩,.int .i64 y.t,.int .i64 y.no])).run Tryz.prog w = .ok (decide (x=y)) w:=by
 obtain⟨⟨a,b⟩,⟨c,d⟩,t,no⟩:=x
 obtain⟨⟨a2,b2⟩,⟨c2,d2⟩,t2,no2⟩:=y
 simp only
 by_cases h0:a=a2
 ·subst h0
  by_cases h1:b=b2
  ·subst h1
   by_cases h2:c=c2
   ·subst h2
    by_cases h3:d=d2
    ·subst h3
     by_cases h4:t=t2
     ·subst h4
      by_cases h5:no=no2
      ·subst h5
       rw[decide_eq_true rfl]
       go_simp
      ·rw[decide_eq_false (fun h=>h5 (congrArg (fun z=>z.no) h))]
       go_simp
     ·rw[decide_eq_false (fun h=>h4 (congrArg (fun z=>z.t) h))]
      go_simp
    ·rw[decide_eq_false (fun h=>h3 (congrArg (fun z=>z.s.2) h))]
     go_simp
   ·rw[decide_eq_false (fun h=>h2 (congrArg (fun z=>z.s.1) h))]
    go_simp
  ·rw[decide_eq_false (fun h=>h1 (congrArg (fun z=>z.c.2) h))]
   go_simp
 ·rw[decide_eq_false (fun h=>h0 (congrArg (fun z=>z.c.1) h))]
  go_simp
end Go.Proofs.YtfcjeebnkigeaaaGreat.Mc
end
