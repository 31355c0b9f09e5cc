import Derived.Test.YtfcjeebnkigeaaaGreatZKdcFirst23
import Derived.Test.YtfcjeebnkigeaaaGreatZKdcFirst25
set_option maxHeartbeats 25600000
set_option maxRecDepth 100000
set_option linter.unusedVariables false
set_option linter.unusedSimpArgs false
namespace Go.Proofs.YtfcjeebnkigeaaaGreat
section
namespace Kd
open Go.RowKit Af Se
open Rg (It Ent Ring RO DRing DO Ap its)
open Ms (Re As Tg pSm reC)
abbrev scC (k x:Nat):Array Value:=#[.pointer (some ⟨k,0,none⟩),.pointer (some ⟨x,0,none⟩)]
theorem sAnn:pSm pAnn:=⟨by decide,by decide⟩
theorem sMail:pSm Cx:=⟨by decide,by decide⟩
theorem sKrA:pSm (kr rA rA):=⟨by decide,by decide⟩
theorem YH:(asL rA itA 0 ⟨pAnn,kr rA rA,50,3⟩ 5 k1L).1=0∧(asL rA itA 0 ⟨pAnn,kr rA rA,50,3⟩ 5 k1L).2.t.k=1:=by decide +kernel
theorem YI:asL rA itA 2 ⟨Cx,pAnn,50,0⟩ 5 k1L=(6,Ms.re0):=by
 have h:(Ms.tmB 5&&Ms.asB ⟨Cx,pAnn,50,0⟩)=true:=by decide +kernel
 have h1:Cx.1=rA∧hasL itA Cx=true:=by decide +kernel
 have h2:¬(pAnn=kr rA rA∧hasL itA pAnn=true):=by decide +kernel
 unfold asL;rw[if_pos h,if_pos h1,if_neg h2]
theorem re_k {S:Nat→Prop} {w:World} {PT:Nat} {cs:Array Value} {x:Re} (hb:Blk w PT 38 cs) (h:ReN S w cs x):w.cell? ⟨PT,4,none⟩=some (.int .i64 x.t.k):=by
 obtain⟨b,a,rfl,_,_⟩:=h;rw[hb.cell];rfl
theorem Ur (w:World):Calls Tryz.prog 26 #[] w fun e w'=>e = .returned (.bool true)∧Below w.heap.size w w':=by
 have C1:=I (Gk false w);have T1:=I (fun(w1:World)=>Hu w1);have T2:=I (fun(w1:World)=>Gz rA rA (by decide) w1);have T3:=I (fun(w1:World)=>Gy w1);obtain⟨cs1,ecs1⟩:∃z,z=asA ⟨pAnn,kr rA rA,50,3⟩:=⟨_,rfl⟩;obtain⟨cs2,ecs2⟩:∃z,z=asA ⟨Cx,pAnn,50,0⟩:=⟨_,rfl⟩;obtain⟨csK,ecsK⟩:∃z,z=keyA k1L:=⟨_,rfl⟩;have HB1:=I (Ht pAnn (kr rA rA) 50 3);have HB2:=I (Sz Cx pAnn 50);have HBK:=I Up;rw[←ecs1] at HB1;rw[←ecs2] at HB2;rw[←ecsK] at HBK;obtain⟨r1,er1⟩:∃z,z=asL rA itA 0 ⟨pAnn,kr rA rA,50,3⟩ 5 k1L:=⟨_,rfl⟩;have HR1:=I (show r1.1=0∧r1.2.t.k=1 from er1▸YH);have E1:=I ecs1;have E2:=I ecs2;have EK:=I ecsK;have ER:=I er1;clear ecs1 ecs2 ecsK er1;go_enter Tryz.func26,Tryz.ntmps26
 go_upto_region 4 with(first
  |(go_at_call 16;refine Calls.mono C1.o ?_;rintro e w1 ⟨g,p,es,d,rfl,hs⟩;clear C1;have HS:=I hs;clear hs)
  |fail)
 have HKS:=I HS.o.ks;have HG:=I (show Blk w1 g 44 (scC p.k d.x) from HS.o.blk);have HOG:=I HS.o.gk;have HIT:=I (show its es=itA from HS.o.e);have HPR:=I (show p.R=rA from HS.o.R);have HBB:=I HS.o.b;clear HS;have CA1:=I (fun(w2:World) (h:KS w2 w.heap.size p es none 0 0 0)=>Sy E1.o EK.o HPR.o HIT.o ER.o.symm h (by omega) (by omega) (by omega) (by decide) (by decide) Vc sAnn sKrA);have CA2:=I (fun(w2:World) (es1:List Ent) (hi:its es1=itA) (h:KS w2 w.heap.size p es1 none 2 1 4)=>Sy E2.o EK.o HPR.o hi YI h (by omega) (by omega) (by omega) (by decide) (by decide) Vc sMail sAnn);have HS0:=I HKS.o;have HG0:=I (show g<w1.heap.size from HG.o.lt)
 go_cut [2,3] from 9 to 20 (fun rv ev wx=>∃(PT:Nat) (cs:Array Value) (es2:List Ent),rv = .pointer (some ⟨PT,0,none⟩)∧ev = .int .i64 r1.1∧Got w1 wx w.heap.size p es es2 (0+2*cnt r1.1) (0+cnt r1.1) (0+4) PT cs r1.2)
 case first=>
  have hdr:Below w1.heap.size w1 w1.drew:=below_drewN (Below.refl _ _) 1;have HK:=I (Kn.start HKS.o hdr);replace HG:=I (HG.o.below hdr);clear hdr;refine Reg.AR (fun w'=>Blk w' g 44 (scC p.k d.x)) 15 rfl (by kernel_rfl) HG.o ?_;refine Reg.tk 0 (v:=?vp1) rfl HG.o (fun w' hS=>?hp1) ?rp1
  case hp1=>go_simp<;>rfl
  simp only[Act.put,U,Aa,Ab];refine Reg.tk 1 (v:=?vp2) rfl HG.o (fun w' hS=>?hp2) ?rp2
  case hp2=>go_simp<;>rfl
  simp only[Act.put,U,Aa,Ab];refine Reg.tk 2 (v:=?vp3) rfl HG.o (fun w' hS=>?hp3) ?rp3
  case hp3=>go_simp<;>rfl
  simp only[Act.put,U,Aa,Ab];refine Reg.tk 3 (v:=?vp4) rfl HG.o (fun w' hS=>?hp4) ?rp4
  case hp4=>have k0:=Blk.cell hS 0;go_simp<;>rfl
  simp only[Act.put,U,Aa,Ab];refine Reg.tk 7 (v:=.agg csK) rfl HG.o (fun w' hS=>?hp5) ?rp5
  case hp5=>exact Rg.AU (by simp only[List.map_toArray,List.map_cons,List.map_nil];rfl) HBK.o
  simp only[Act.put,U,Aa,Ab];refine Reg.Ad [4,12] (by kernel_rfl) (by simp) ?_;intro j0 hj0;have hj0:j0=4∨j0=12:=by simpa using hj0
  rcases hj0 with rfl | rfl
  ·right
   refine⟨_,_,_,_,_,_,27,#[],rfl,by rfl,(by go_simp<;>first | rfl | exact⟨rfl,rfl⟩),?_⟩;refine Calls.mono (T1.o _) ?_;rintro e wlp6 ⟨rfl,hb⟩;replace HG:=I (HG.o.below hb);replace HK:=I (HK.o.below hb);clear hb;refine⟨_,rfl,HG.o,?_⟩;simp only[Act.put,U,Aa,Ab];refine Reg.Ad [5,12] (by kernel_rfl) (by simp) ?_;intro j0 hj0;have hj0:j0=5∨j0=12:=by simpa using hj0
   rcases hj0 with rfl | rfl
   ·right
    refine⟨_,_,_,_,_,_,28,#[.string ⟨rA.toArray⟩,.string ⟨rA.toArray⟩],rfl,by rfl,(by go_simp<;>first | rfl | exact⟨rfl,rfl⟩),?_⟩;refine Calls.mono (T2.o _) ?_;rintro e wlp7 ⟨rfl,hb⟩;replace HG:=I (HG.o.below hb);replace HK:=I (HK.o.below hb);clear hb;refine⟨_,rfl,HG.o,?_⟩;simp only[Act.put,U,Aa,Ab];refine Reg.tk 6 (v:=.agg cs1) rfl HG.o (fun w' hS=>?hp8) ?rp8
    case hp8=>exact Rg.AU (by simp only[List.map_toArray,List.map_cons,List.map_nil];rfl) HB1.o
    simp only[Act.put,U,Aa,Ab];refine Reg.Ad [8,12] (by kernel_rfl) (by simp) ?_;intro j0 hj0;have hj0:j0=8∨j0=12:=by simpa using hj0
    rcases hj0 with rfl | rfl
    ·right
     refine⟨_,_,_,_,_,_,17,#[.pointer (some ⟨p.k,0,none⟩),.agg cs1,.int .i64 5,.agg csK],rfl,by rfl,(by go_simp<;>first | rfl | exact⟨rfl,rfl⟩),?_⟩;refine Calls.mono (CA1.o _ HK.o.st) ?_;rintro e wap9 ⟨cs,es2,rfl,hre,hk⟩;have HCS:=I (BO hre);have hnb:=hk.blk HG.o HOG.o.no;replace HOG:=I (hk.off HOG.o HG.o.lt);replace HG:=I hnb;clear hnb;have HRE:=I hre;have HRS:=I HK.o.size;replace HK:=I (HK.o.trans hk);clear hk hre;refine⟨_,rfl,HG.o,?_⟩;simp only[Act.put,U,Aa,Ab];refine Reg.tk 9 (v:=?vp10) rfl HG.o (fun w' hS=>?hp10) ?rp10
     case hp10=>go_simp<;>rfl
     simp only[Act.put,U,Aa,Ab];refine Reg.tk 10 (v:=?vp11) rfl HG.o (fun w' hS=>?hp11) ?rp11
     case hp11=>go_simp<;>rfl
     simp only[Act.put,U,Aa,Ab];refine Reg.tk 11 (v:=?vp12) rfl HG.o (fun w' hS=>?hp12) ?rp12
     case hp12=>go_simp<;>rfl
     simp only[Act.put,U,Aa,Ab];refine Reg.Ad [12] (by kernel_rfl) (by simp) ?_;intro j0 hj0;obtain rfl:j0=12:=by simpa using hj0
     clear hj0
     left
     have hb:Below wap9.heap.size wap9 (wap9.alloc (.cells reZ 38)):=(Below.refl _ _).alloc (Nat.le_refl _) _;have hnb:=Blk.new wap9 38 reZ;have HNEHG:=I (show g≠wap9.heap.size from Nat.ne_of_lt HG.o.lt);have HPT:=I (show w1.heap.size≤wap9.heap.size from HK.o.size);have HOT:=I (HK.o.st.offs (Nat.le_refl wap9.heap.size));refine⟨_,_,_,_,_,_,.pointer (some ⟨wap9.heap.size,0,none⟩),wap9.alloc (.cells reZ 38),rfl,by rfl,(by go_simp<;>rfl),(HG.o.below hb),?_⟩;simp only[Act.put,U,Aa,Ab];obtain⟨wtp13,ewtp13⟩:∃z,z=wap9.alloc (.cells reZ 38):=⟨_,rfl⟩;rw[←ewtp13] at hb hnb⊢;clear ewtp13;replace HRE:=I (Sx HRE.o HRS.o (Nat.le_refl _) hb);clear HRS;have HT:=I hnb;clear hnb;replace HG:=I (HG.o.below hb);replace HK:=I (HK.o.below hb);clear hb;obtain⟨PT,ePT⟩:∃z,z=wap9.heap.size:=⟨_,rfl⟩;rw[←ePT] at HT HPT HOT HNEHG HRE⊢;clear ePT;refine Reg.AE 13 rfl (by kernel_rfl) (by rfl) PT 38 _ cs HT.o (by rfl) (by rfl) (by rw[HCS.o.1];rfl) (by rw[HCS.o.1];exact AI) HCS.o.2 ?_;intro Vp14 hV hg;have HGT:=I (DI HK.o HRE.o HOT.o HPT.o hV hg);replace HG:=I (HG.o.grown hg (fun e=>by injection e with e;exact HNEHG.o e.symm));clear hV hg HT HK HRE HOT HPT HCS;refine⟨HG.o,?_⟩;simp only[Act.put,U,Aa,Ab];refine Reg.tk 14 (v:=?vp15) rfl HG.o (fun w' hS=>?hp15) ?rp15
     case hp15=>go_simp<;>rfl
     simp only[Act.put,U,Aa,Ab];refine wpAnyH_done (by kernel_rfl) ?_ _
     go_wp2_with fail
     go_meet
     exact⟨PT,_,_,rfl,rfl,HGT.o⟩
    ·left
     have hb:Below wlp7.heap.size wlp7 (wlp7.alloc (.cells reZ 38)):=(Below.refl _ _).alloc (Nat.le_refl _) _;have hnb:=Blk.new wlp7 38 reZ;have HNEHG:=I (show g≠wlp7.heap.size from Nat.ne_of_lt HG.o.lt);have HPT:=I (show w1.heap.size≤wlp7.heap.size from HK.o.size);have HOT:=I (HK.o.st.offs (Nat.le_refl wlp7.heap.size));refine⟨_,_,_,_,_,_,.pointer (some ⟨wlp7.heap.size,0,none⟩),wlp7.alloc (.cells reZ 38),rfl,by rfl,(by go_simp<;>rfl),(HG.o.below hb),?_⟩;simp only[Act.put,U,Aa,Ab];obtain⟨wtp16,ewtp16⟩:∃z,z=wlp7.alloc (.cells reZ 38):=⟨_,rfl⟩;rw[←ewtp16] at hb hnb⊢;clear ewtp16;have HT:=I hnb;clear hnb;replace HG:=I (HG.o.below hb);replace HK:=I (HK.o.below hb);clear hb;obtain⟨PT,ePT⟩:∃z,z=wlp7.heap.size:=⟨_,rfl⟩;rw[←ePT] at HT HPT HOT HNEHG⊢;clear ePT;refine Reg.Ad [8] (by kernel_rfl) (by simp) ?_;intro j0 hj0;obtain rfl:j0=8:=by simpa using hj0
     clear hj0
     right
     refine⟨_,_,_,_,_,_,17,#[.pointer (some ⟨p.k,0,none⟩),.agg cs1,.int .i64 5,.agg csK],rfl,by rfl,(by go_simp<;>first | rfl | exact⟨rfl,rfl⟩),?_⟩;refine Calls.mono (CA1.o _ HK.o.st) ?_;rintro e wap17 ⟨cs,es2,rfl,hre,hk⟩;have HCS:=I (BO hre);have hnb:=hk.blk HG.o HOG.o.no;replace HOG:=I (hk.off HOG.o HG.o.lt);replace HG:=I hnb;clear hnb;have HRE:=I (FD hre HK.o.size HT.o.lt);have hnb:=hk.blk HT.o HOT.o.no;replace HOT:=I (hk.off HOT.o HT.o.lt);replace HT:=I hnb;clear hnb;replace HK:=I (HK.o.trans hk);clear hk hre;refine⟨_,rfl,HG.o,?_⟩;simp only[Act.put,U,Aa,Ab];refine Reg.tk 9 (v:=?vp18) rfl HG.o (fun w' hS=>?hp18) ?rp18
     case hp18=>go_simp<;>rfl
     simp only[Act.put,U,Aa,Ab];refine Reg.tk 10 (v:=?vp19) rfl HG.o (fun w' hS=>?hp19) ?rp19
     case hp19=>go_simp<;>rfl
     simp only[Act.put,U,Aa,Ab];refine Reg.tk 11 (v:=?vp20) rfl HG.o (fun w' hS=>?hp20) ?rp20
     case hp20=>go_simp<;>rfl
     simp only[Act.put,U,Aa,Ab];refine Reg.AE 13 rfl (by kernel_rfl) (by rfl) PT 38 _ cs HT.o (by rfl) (by rfl) (by rw[HCS.o.1];rfl) (by rw[HCS.o.1];exact AI) HCS.o.2 ?_;intro Vp21 hV hg;have HGT:=I (DI HK.o HRE.o HOT.o HPT.o hV hg);replace HG:=I (HG.o.grown hg (fun e=>by injection e with e;exact HNEHG.o e.symm));clear hV hg HT HK HRE HOT HPT HCS;refine⟨HG.o,?_⟩;simp only[Act.put,U,Aa,Ab];refine Reg.tk 14 (v:=?vp22) rfl HG.o (fun w' hS=>?hp22) ?rp22
     case hp22=>go_simp<;>rfl
     simp only[Act.put,U,Aa,Ab];refine wpAnyH_done (by kernel_rfl) ?_ _
     go_wp2_with fail
     go_meet
     exact⟨PT,_,_,rfl,rfl,HGT.o⟩
   ·left
    have hb:Below wlp6.heap.size wlp6 (wlp6.alloc (.cells reZ 38)):=(Below.refl _ _).alloc (Nat.le_refl _) _;have hnb:=Blk.new wlp6 38 reZ;have HNEHG:=I (show g≠wlp6.heap.size from Nat.ne_of_lt HG.o.lt);have HPT:=I (show w1.heap.size≤wlp6.heap.size from HK.o.size);have HOT:=I (HK.o.st.offs (Nat.le_refl wlp6.heap.size));refine⟨_,_,_,_,_,_,.pointer (some ⟨wlp6.heap.size,0,none⟩),wlp6.alloc (.cells reZ 38),rfl,by rfl,(by go_simp<;>rfl),(HG.o.below hb),?_⟩;simp only[Act.put,U,Aa,Ab];obtain⟨wtp23,ewtp23⟩:∃z,z=wlp6.alloc (.cells reZ 38):=⟨_,rfl⟩;rw[←ewtp23] at hb hnb⊢;clear ewtp23;have HT:=I hnb;clear hnb;replace HG:=I (HG.o.below hb);replace HK:=I (HK.o.below hb);clear hb;obtain⟨PT,ePT⟩:∃z,z=wlp6.heap.size:=⟨_,rfl⟩;rw[←ePT] at HT HPT HOT HNEHG⊢;clear ePT;refine Reg.Ad [5] (by kernel_rfl) (by simp) ?_;intro j0 hj0;obtain rfl:j0=5:=by simpa using hj0
    clear hj0
    right
    refine⟨_,_,_,_,_,_,28,#[.string ⟨rA.toArray⟩,.string ⟨rA.toArray⟩],rfl,by rfl,(by go_simp<;>first | rfl | exact⟨rfl,rfl⟩),?_⟩;refine Calls.mono (T2.o _) ?_;rintro e wlp24 ⟨rfl,hb⟩;replace HG:=I (HG.o.below hb);replace HK:=I (HK.o.below hb);replace HT:=I (HT.o.below hb);clear hb;refine⟨_,rfl,HG.o,?_⟩;simp only[Act.put,U,Aa,Ab];refine Reg.tk 6 (v:=.agg cs1) rfl HG.o (fun w' hS=>?hp25) ?rp25
    case hp25=>exact Rg.AU (by simp only[List.map_toArray,List.map_cons,List.map_nil];rfl) HB1.o
    simp only[Act.put,U,Aa,Ab];refine Reg.Ad [8] (by kernel_rfl) (by simp) ?_;intro j0 hj0;obtain rfl:j0=8:=by simpa using hj0
    clear hj0
    right
    refine⟨_,_,_,_,_,_,17,#[.pointer (some ⟨p.k,0,none⟩),.agg cs1,.int .i64 5,.agg csK],rfl,by rfl,(by go_simp<;>first | rfl | exact⟨rfl,rfl⟩),?_⟩;refine Calls.mono (CA1.o _ HK.o.st) ?_;rintro e wap26 ⟨cs,es2,rfl,hre,hk⟩;have HCS:=I (BO hre);have hnb:=hk.blk HG.o HOG.o.no;replace HOG:=I (hk.off HOG.o HG.o.lt);replace HG:=I hnb;clear hnb;have HRE:=I (FD hre HK.o.size HT.o.lt);have hnb:=hk.blk HT.o HOT.o.no;replace HOT:=I (hk.off HOT.o HT.o.lt);replace HT:=I hnb;clear hnb;replace HK:=I (HK.o.trans hk);clear hk hre;refine⟨_,rfl,HG.o,?_⟩;simp only[Act.put,U,Aa,Ab];refine Reg.tk 9 (v:=?vp27) rfl HG.o (fun w' hS=>?hp27) ?rp27
    case hp27=>go_simp<;>rfl
    simp only[Act.put,U,Aa,Ab];refine Reg.tk 10 (v:=?vp28) rfl HG.o (fun w' hS=>?hp28) ?rp28
    case hp28=>go_simp<;>rfl
    simp only[Act.put,U,Aa,Ab];refine Reg.tk 11 (v:=?vp29) rfl HG.o (fun w' hS=>?hp29) ?rp29
    case hp29=>go_simp<;>rfl
    simp only[Act.put,U,Aa,Ab];refine Reg.AE 13 rfl (by kernel_rfl) (by rfl) PT 38 _ cs HT.o (by rfl) (by rfl) (by rw[HCS.o.1];rfl) (by rw[HCS.o.1];exact AI) HCS.o.2 ?_;intro Vp30 hV hg;have HGT:=I (DI HK.o HRE.o HOT.o HPT.o hV hg);replace HG:=I (HG.o.grown hg (fun e=>by injection e with e;exact HNEHG.o e.symm));clear hV hg HT HK HRE HOT HPT HCS;refine⟨HG.o,?_⟩;simp only[Act.put,U,Aa,Ab];refine Reg.tk 14 (v:=?vp31) rfl HG.o (fun w' hS=>?hp31) ?rp31
    case hp31=>go_simp<;>rfl
    simp only[Act.put,U,Aa,Ab];refine wpAnyH_done (by kernel_rfl) ?_ _
    go_wp2_with fail
    go_meet
    exact⟨PT,_,_,rfl,rfl,HGT.o⟩
  ·left
   have hb:Below w1.drew.heap.size w1.drew (w1.drew.alloc (.cells reZ 38)):=(Below.refl _ _).alloc (Nat.le_refl _) _;have hnb:=Blk.new w1.drew 38 reZ;have HNEHG:=I (show g≠w1.drew.heap.size from Nat.ne_of_lt HG.o.lt);have HPT:=I (show w1.heap.size≤w1.drew.heap.size from HK.o.size);have HOT:=I (HK.o.st.offs (Nat.le_refl w1.drew.heap.size));refine⟨_,_,_,_,_,_,.pointer (some ⟨w1.drew.heap.size,0,none⟩),w1.drew.alloc (.cells reZ 38),rfl,by rfl,(by go_simp<;>rfl),(HG.o.below hb),?_⟩;simp only[Act.put,U,Aa,Ab];obtain⟨wtp32,ewtp32⟩:∃z,z=w1.drew.alloc (.cells reZ 38):=⟨_,rfl⟩;rw[←ewtp32] at hb hnb⊢;clear ewtp32;have HT:=I hnb;clear hnb;replace HG:=I (HG.o.below hb);replace HK:=I (HK.o.below hb);clear hb;obtain⟨PT,ePT⟩:∃z,z=w1.drew.heap.size:=⟨_,rfl⟩;rw[←ePT] at HT HPT HOT HNEHG⊢;clear ePT;refine Reg.Ad [4] (by kernel_rfl) (by simp) ?_;intro j0 hj0;obtain rfl:j0=4:=by simpa using hj0
   clear hj0
   right
   refine⟨_,_,_,_,_,_,27,#[],rfl,by rfl,(by go_simp<;>first | rfl | exact⟨rfl,rfl⟩),?_⟩;refine Calls.mono (T1.o _) ?_;rintro e wlp33 ⟨rfl,hb⟩;replace HG:=I (HG.o.below hb);replace HK:=I (HK.o.below hb);replace HT:=I (HT.o.below hb);clear hb;refine⟨_,rfl,HG.o,?_⟩;simp only[Act.put,U,Aa,Ab];refine Reg.Ad [5] (by kernel_rfl) (by simp) ?_;intro j0 hj0;obtain rfl:j0=5:=by simpa using hj0
   clear hj0
   right
   refine⟨_,_,_,_,_,_,28,#[.string ⟨rA.toArray⟩,.string ⟨rA.toArray⟩],rfl,by rfl,(by go_simp<;>first | rfl | exact⟨rfl,rfl⟩),?_⟩;refine Calls.mono (T2.o _) ?_;rintro e wlp34 ⟨rfl,hb⟩;replace HG:=I (HG.o.below hb);replace HK:=I (HK.o.below hb);replace HT:=I (HT.o.below hb);clear hb;refine⟨_,rfl,HG.o,?_⟩;simp only[Act.put,U,Aa,Ab];refine Reg.tk 6 (v:=.agg cs1) rfl HG.o (fun w' hS=>?hp35) ?rp35
   case hp35=>exact Rg.AU (by simp only[List.map_toArray,List.map_cons,List.map_nil];rfl) HB1.o
   simp only[Act.put,U,Aa,Ab];refine Reg.Ad [8] (by kernel_rfl) (by simp) ?_;intro j0 hj0;obtain rfl:j0=8:=by simpa using hj0
   clear hj0
   right
   refine⟨_,_,_,_,_,_,17,#[.pointer (some ⟨p.k,0,none⟩),.agg cs1,.int .i64 5,.agg csK],rfl,by rfl,(by go_simp<;>first | rfl | exact⟨rfl,rfl⟩),?_⟩;refine Calls.mono (CA1.o _ HK.o.st) ?_;rintro e wap36 ⟨cs,es2,rfl,hre,hk⟩;have HCS:=I (BO hre);have hnb:=hk.blk HG.o HOG.o.no;replace HOG:=I (hk.off HOG.o HG.o.lt);replace HG:=I hnb;clear hnb;have HRE:=I (FD hre HK.o.size HT.o.lt);have hnb:=hk.blk HT.o HOT.o.no;replace HOT:=I (hk.off HOT.o HT.o.lt);replace HT:=I hnb;clear hnb;replace HK:=I (HK.o.trans hk);clear hk hre;refine⟨_,rfl,HG.o,?_⟩;simp only[Act.put,U,Aa,Ab];refine Reg.tk 9 (v:=?vp37) rfl HG.o (fun w' hS=>?hp37) ?rp37
   case hp37=>go_simp<;>rfl
   simp only[Act.put,U,Aa,Ab];refine Reg.tk 10 (v:=?vp38) rfl HG.o (fun w' hS=>?hp38) ?rp38
   case hp38=>go_simp<;>rfl
   simp only[Act.put,U,Aa,Ab];refine Reg.tk 11 (v:=?vp39) rfl HG.o (fun w' hS=>?hp39) ?rp39
   case hp39=>go_simp<;>rfl
   simp only[Act.put,U,Aa,Ab];refine Reg.AE 13 rfl (by kernel_rfl) (by rfl) PT 38 _ cs HT.o (by rfl) (by rfl) (by rw[HCS.o.1];rfl) (by rw[HCS.o.1];exact AI) HCS.o.2 ?_;intro Vp40 hV hg;have HGT:=I (DI HK.o HRE.o HOT.o HPT.o hV hg);replace HG:=I (HG.o.grown hg (fun e=>by injection e with e;exact HNEHG.o e.symm));clear hV hg HT HK HRE HOT HPT HCS;refine⟨HG.o,?_⟩;simp only[Act.put,U,Aa,Ab];refine Reg.tk 14 (v:=?vp41) rfl HG.o (fun w' hS=>?hp41) ?rp41
   case hp41=>go_simp<;>rfl
   simp only[Act.put,U,Aa,Ab];refine wpAnyH_done (by kernel_rfl) ?_ _
   go_wp2_with fail
   go_meet
   exact⟨PT,_,_,rfl,rfl,HGT.o⟩
 case rest=>
  obtain⟨PT,cs,es2,rfl,rfl,hgt⟩:=hcut;have HPT:=I (show PT<wc.heap.size∧PT≠g from⟨hgt.blk.lt,fun e=>by have:=HG.o.lt;have:=hgt.lo;omega⟩);have HK4:=re_k hgt.blk hgt.re;have HTO:=I hgt.off;have HTB:=I hgt.blk;have HTR:=I hgt.re;rw[HR1.o.2] at HK4;replace HK4:=I HK4;replace HKS:=I (show KS wc w.heap.size p es2 none 2 1 4 by have:=hgt.kn.st;rw[HR1.o.1] at this;exact this);replace HIT:=I ((Wv hgt.kn.eq).trans HIT.o);replace HBB:=I (HBB.o.trans (hgt.kn.base HS0.o));replace HG:=I (hgt.kn.blk HG.o HOG.o.no);replace HOG:=I (hgt.kn.off HOG.o HG0.o);have HS1:=I HKS.o;have HG1:=I (show g<wc.heap.size from HG.o.lt);rw[HR1.o.1];clear hgt CA1 HR1 ER HS0 HG0
  go_upto_region 5 with fail
  go_cut [4,5] from 21 to 32 (fun rv ev wx=>∃(PT:Nat) (cs:Array Value) (es3:List Ent),rv = .pointer (some ⟨PT,0,none⟩)∧ev = .int .i64 6∧Got wc wx w.heap.size p es2 es3 2 1 8 PT cs Ms.re0)
  case first=>
   have hdr:Below wc.heap.size wc wc.drew:=below_drewN (Below.refl _ _) 1;have HK:=I (Kn.start HKS.o hdr);replace HG:=I (HG.o.below hdr);clear hdr;refine Reg.AR (fun w'=>Blk w' g 44 (scC p.k d.x)) 15 rfl (by kernel_rfl) HG.o ?_;refine Reg.tk 0 (v:=?vq42) rfl HG.o (fun w' hS=>?hq42) ?rq42
   case hq42=>go_simp<;>rfl
   simp only[Act.put,U,Aa,Ab];refine Reg.tk 1 (v:=?vq43) rfl HG.o (fun w' hS=>?hq43) ?rq43
   case hq43=>go_simp<;>rfl
   simp only[Act.put,U,Aa,Ab];refine Reg.tk 2 (v:=?vq44) rfl HG.o (fun w' hS=>?hq44) ?rq44
   case hq44=>go_simp<;>rfl
   simp only[Act.put,U,Aa,Ab];refine Reg.tk 3 (v:=?vq45) rfl HG.o (fun w' hS=>?hq45) ?rq45
   case hq45=>have k0:=Blk.cell hS 0;go_simp<;>rfl
   simp only[Act.put,U,Aa,Ab];refine Reg.tk 7 (v:=.agg csK) rfl HG.o (fun w' hS=>?hq46) ?rq46
   case hq46=>exact Rg.AU (by simp only[List.map_toArray,List.map_cons,List.map_nil];rfl) HBK.o
   simp only[Act.put,U,Aa,Ab];refine Reg.Ad [4,12] (by kernel_rfl) (by simp) ?_;intro j0 hj0;have hj0:j0=4∨j0=12:=by simpa using hj0
   rcases hj0 with rfl | rfl
   ·right
    refine⟨_,_,_,_,_,_,34,#[],rfl,by rfl,(by go_simp<;>first | rfl | exact⟨rfl,rfl⟩),?_⟩;refine Calls.mono (T3.o _) ?_;rintro e wlq47 ⟨rfl,hb⟩;replace HG:=I (HG.o.below hb);replace HK:=I (HK.o.below hb);clear hb;refine⟨_,rfl,HG.o,?_⟩;simp only[Act.put,U,Aa,Ab];refine Reg.Ad [5,12] (by kernel_rfl) (by simp) ?_;intro j0 hj0;have hj0:j0=5∨j0=12:=by simpa using hj0
    rcases hj0 with rfl | rfl
    ·right
     refine⟨_,_,_,_,_,_,27,#[],rfl,by rfl,(by go_simp<;>first | rfl | exact⟨rfl,rfl⟩),?_⟩;refine Calls.mono (T1.o _) ?_;rintro e wlq48 ⟨rfl,hb⟩;replace HG:=I (HG.o.below hb);replace HK:=I (HK.o.below hb);clear hb;refine⟨_,rfl,HG.o,?_⟩;simp only[Act.put,U,Aa,Ab];refine Reg.tk 6 (v:=.agg cs2) rfl HG.o (fun w' hS=>?hq49) ?rq49
     case hq49=>exact Rg.AU (by simp only[List.map_toArray,List.map_cons,List.map_nil];rfl) HB2.o
     simp only[Act.put,U,Aa,Ab];refine Reg.Ad [8,12] (by kernel_rfl) (by simp) ?_;intro j0 hj0;have hj0:j0=8∨j0=12:=by simpa using hj0
     rcases hj0 with rfl | rfl
     ·right
      refine⟨_,_,_,_,_,_,17,#[.pointer (some ⟨p.k,0,none⟩),.agg cs2,.int .i64 5,.agg csK],rfl,by rfl,(by go_simp<;>first | rfl | exact⟨rfl,rfl⟩),?_⟩;refine Calls.mono (CA2.o _ _ HIT.o HK.o.st) ?_;rintro e waq50 ⟨cs,es2,rfl,hre,hk⟩;have HCS:=I (BO hre);have hnb:=hk.blk HG.o HOG.o.no;replace HOG:=I (hk.off HOG.o HG.o.lt);replace HG:=I hnb;clear hnb;have HRE:=I hre;have HRS:=I HK.o.size;replace HK:=I (HK.o.trans hk);clear hk hre;refine⟨_,rfl,HG.o,?_⟩;simp only[Act.put,U,Aa,Ab];refine Reg.tk 9 (v:=?vq51) rfl HG.o (fun w' hS=>?hq51) ?rq51
      case hq51=>go_simp<;>rfl
      simp only[Act.put,U,Aa,Ab];refine Reg.tk 10 (v:=?vq52) rfl HG.o (fun w' hS=>?hq52) ?rq52
      case hq52=>go_simp<;>rfl
      simp only[Act.put,U,Aa,Ab];refine Reg.tk 11 (v:=?vq53) rfl HG.o (fun w' hS=>?hq53) ?rq53
      case hq53=>go_simp<;>rfl
      simp only[Act.put,U,Aa,Ab];refine Reg.Ad [12] (by kernel_rfl) (by simp) ?_;intro j0 hj0;obtain rfl:j0=12:=by simpa using hj0
      clear hj0
      left
      have hb:Below waq50.heap.size waq50 (waq50.alloc (.cells reZ 38)):=(Below.refl _ _).alloc (Nat.le_refl _) _;have hnb:=Blk.new waq50 38 reZ;have HNEHG:=I (show g≠waq50.heap.size from Nat.ne_of_lt HG.o.lt);have HPT:=I (show wc.heap.size≤waq50.heap.size from HK.o.size);have HOT:=I (HK.o.st.offs (Nat.le_refl waq50.heap.size));refine⟨_,_,_,_,_,_,.pointer (some ⟨waq50.heap.size,0,none⟩),waq50.alloc (.cells reZ 38),rfl,by rfl,(by go_simp<;>rfl),(HG.o.below hb),?_⟩;simp only[Act.put,U,Aa,Ab];obtain⟨wtq54,ewtq54⟩:∃z,z=waq50.alloc (.cells reZ 38):=⟨_,rfl⟩;rw[←ewtq54] at hb hnb⊢;clear ewtq54;replace HRE:=I (Sx HRE.o HRS.o (Nat.le_refl _) hb);clear HRS;have HT:=I hnb;clear hnb;replace HG:=I (HG.o.below hb);replace HK:=I (HK.o.below hb);clear hb;obtain⟨PT,ePT⟩:∃z,z=waq50.heap.size:=⟨_,rfl⟩;rw[←ePT] at HT HPT HOT HNEHG HRE⊢;clear ePT;refine Reg.AE 13 rfl (by kernel_rfl) (by rfl) PT 38 _ cs HT.o (by rfl) (by rfl) (by rw[HCS.o.1];rfl) (by rw[HCS.o.1];exact AI) HCS.o.2 ?_;intro Vq55 hV hg;have HGT:=I (DI HK.o HRE.o HOT.o HPT.o hV hg);replace HG:=I (HG.o.grown hg (fun e=>by injection e with e;exact HNEHG.o e.symm));clear hV hg HT HK HRE HOT HPT HCS;refine⟨HG.o,?_⟩;simp only[Act.put,U,Aa,Ab];refine Reg.tk 14 (v:=?vq56) rfl HG.o (fun w' hS=>?hq56) ?rq56
      case hq56=>go_simp<;>rfl
      simp only[Act.put,U,Aa,Ab];refine wpAnyH_done (by kernel_rfl) ?_ _
      go_wp2_with fail
      go_meet
      exact⟨PT,_,_,rfl,rfl,HGT.o⟩
     ·left
      have hb:Below wlq48.heap.size wlq48 (wlq48.alloc (.cells reZ 38)):=(Below.refl _ _).alloc (Nat.le_refl _) _;have hnb:=Blk.new wlq48 38 reZ;have HNEHG:=I (show g≠wlq48.heap.size from Nat.ne_of_lt HG.o.lt);have HPT:=I (show wc.heap.size≤wlq48.heap.size from HK.o.size);have HOT:=I (HK.o.st.offs (Nat.le_refl wlq48.heap.size));refine⟨_,_,_,_,_,_,.pointer (some ⟨wlq48.heap.size,0,none⟩),wlq48.alloc (.cells reZ 38),rfl,by rfl,(by go_simp<;>rfl),(HG.o.below hb),?_⟩;simp only[Act.put,U,Aa,Ab];obtain⟨wtq57,ewtq57⟩:∃z,z=wlq48.alloc (.cells reZ 38):=⟨_,rfl⟩;rw[←ewtq57] at hb hnb⊢;clear ewtq57;have HT:=I hnb;clear hnb;replace HG:=I (HG.o.below hb);replace HK:=I (HK.o.below hb);clear hb;obtain⟨PT,ePT⟩:∃z,z=wlq48.heap.size:=⟨_,rfl⟩;rw[←ePT] at HT HPT HOT HNEHG⊢;clear ePT;refine Reg.Ad [8] (by kernel_rfl) (by simp) ?_;intro j0 hj0;obtain rfl:j0=8:=by simpa using hj0
      clear hj0
      right
      refine⟨_,_,_,_,_,_,17,#[.pointer (some ⟨p.k,0,none⟩),.agg cs2,.int .i64 5,.agg csK],rfl,by rfl,(by go_simp<;>first | rfl | exact⟨rfl,rfl⟩),?_⟩;refine Calls.mono (CA2.o _ _ HIT.o HK.o.st) ?_;rintro e waq58 ⟨cs,es2,rfl,hre,hk⟩;have HCS:=I (BO hre);have hnb:=hk.blk HG.o HOG.o.no;replace HOG:=I (hk.off HOG.o HG.o.lt);replace HG:=I hnb;clear hnb;have HRE:=I (FD hre HK.o.size HT.o.lt);have hnb:=hk.blk HT.o HOT.o.no;replace HOT:=I (hk.off HOT.o HT.o.lt);replace HT:=I hnb;clear hnb;replace HK:=I (HK.o.trans hk);clear hk hre;refine⟨_,rfl,HG.o,?_⟩;simp only[Act.put,U,Aa,Ab];refine Reg.tk 9 (v:=?vq59) rfl HG.o (fun w' hS=>?hq59) ?rq59
      case hq59=>go_simp<;>rfl
      simp only[Act.put,U,Aa,Ab];refine Reg.tk 10 (v:=?vq60) rfl HG.o (fun w' hS=>?hq60) ?rq60
      case hq60=>go_simp<;>rfl
      simp only[Act.put,U,Aa,Ab];refine Reg.tk 11 (v:=?vq61) rfl HG.o (fun w' hS=>?hq61) ?rq61
      case hq61=>go_simp<;>rfl
      simp only[Act.put,U,Aa,Ab];refine Reg.AE 13 rfl (by kernel_rfl) (by rfl) PT 38 _ cs HT.o (by rfl) (by rfl) (by rw[HCS.o.1];rfl) (by rw[HCS.o.1];exact AI) HCS.o.2 ?_;intro Vq62 hV hg;have HGT:=I (DI HK.o HRE.o HOT.o HPT.o hV hg);replace HG:=I (HG.o.grown hg (fun e=>by injection e with e;exact HNEHG.o e.symm));clear hV hg HT HK HRE HOT HPT HCS;refine⟨HG.o,?_⟩;simp only[Act.put,U,Aa,Ab];refine Reg.tk 14 (v:=?vq63) rfl HG.o (fun w' hS=>?hq63) ?rq63
      case hq63=>go_simp<;>rfl
      simp only[Act.put,U,Aa,Ab];refine wpAnyH_done (by kernel_rfl) ?_ _
      go_wp2_with fail
      go_meet
      exact⟨PT,_,_,rfl,rfl,HGT.o⟩
    ·left
     have hb:Below wlq47.heap.size wlq47 (wlq47.alloc (.cells reZ 38)):=(Below.refl _ _).alloc (Nat.le_refl _) _;have hnb:=Blk.new wlq47 38 reZ;have HNEHG:=I (show g≠wlq47.heap.size from Nat.ne_of_lt HG.o.lt);have HPT:=I (show wc.heap.size≤wlq47.heap.size from HK.o.size);have HOT:=I (HK.o.st.offs (Nat.le_refl wlq47.heap.size));refine⟨_,_,_,_,_,_,.pointer (some ⟨wlq47.heap.size,0,none⟩),wlq47.alloc (.cells reZ 38),rfl,by rfl,(by go_simp<;>rfl),(HG.o.below hb),?_⟩;simp only[Act.put,U,Aa,Ab];obtain⟨wtq64,ewtq64⟩:∃z,z=wlq47.alloc (.cells reZ 38):=⟨_,rfl⟩;rw[←ewtq64] at hb hnb⊢;clear ewtq64;have HT:=I hnb;clear hnb;replace HG:=I (HG.o.below hb);replace HK:=I (HK.o.below hb);clear hb;obtain⟨PT,ePT⟩:∃z,z=wlq47.heap.size:=⟨_,rfl⟩;rw[←ePT] at HT HPT HOT HNEHG⊢;clear ePT;refine Reg.Ad [5] (by kernel_rfl) (by simp) ?_;intro j0 hj0;obtain rfl:j0=5:=by simpa using hj0
     clear hj0
     right
     refine⟨_,_,_,_,_,_,27,#[],rfl,by rfl,(by go_simp<;>first | rfl | exact⟨rfl,rfl⟩),?_⟩;refine Calls.mono (T1.o _) ?_;rintro e wlq65 ⟨rfl,hb⟩;replace HG:=I (HG.o.below hb);replace HK:=I (HK.o.below hb);replace HT:=I (HT.o.below hb);clear hb;refine⟨_,rfl,HG.o,?_⟩;simp only[Act.put,U,Aa,Ab];refine Reg.tk 6 (v:=.agg cs2) rfl HG.o (fun w' hS=>?hq66) ?rq66
     case hq66=>exact Rg.AU (by simp only[List.map_toArray,List.map_cons,List.map_nil];rfl) HB2.o
     simp only[Act.put,U,Aa,Ab];refine Reg.Ad [8] (by kernel_rfl) (by simp) ?_;intro j0 hj0;obtain rfl:j0=8:=by simpa using hj0
     clear hj0
     right
     refine⟨_,_,_,_,_,_,17,#[.pointer (some ⟨p.k,0,none⟩),.agg cs2,.int .i64 5,.agg csK],rfl,by rfl,(by go_simp<;>first | rfl | exact⟨rfl,rfl⟩),?_⟩;refine Calls.mono (CA2.o _ _ HIT.o HK.o.st) ?_;rintro e waq67 ⟨cs,es2,rfl,hre,hk⟩;have HCS:=I (BO hre);have hnb:=hk.blk HG.o HOG.o.no;replace HOG:=I (hk.off HOG.o HG.o.lt);replace HG:=I hnb;clear hnb;have HRE:=I (FD hre HK.o.size HT.o.lt);have hnb:=hk.blk HT.o HOT.o.no;replace HOT:=I (hk.off HOT.o HT.o.lt);replace HT:=I hnb;clear hnb;replace HK:=I (HK.o.trans hk);clear hk hre;refine⟨_,rfl,HG.o,?_⟩;simp only[Act.put,U,Aa,Ab];refine Reg.tk 9 (v:=?vq68) rfl HG.o (fun w' hS=>?hq68) ?rq68
     case hq68=>go_simp<;>rfl
     simp only[Act.put,U,Aa,Ab];refine Reg.tk 10 (v:=?vq69) rfl HG.o (fun w' hS=>?hq69) ?rq69
     case hq69=>go_simp<;>rfl
     simp only[Act.put,U,Aa,Ab];refine Reg.tk 11 (v:=?vq70) rfl HG.o (fun w' hS=>?hq70) ?rq70
     case hq70=>go_simp<;>rfl
     simp only[Act.put,U,Aa,Ab];refine Reg.AE 13 rfl (by kernel_rfl) (by rfl) PT 38 _ cs HT.o (by rfl) (by rfl) (by rw[HCS.o.1];rfl) (by rw[HCS.o.1];exact AI) HCS.o.2 ?_;intro Vq71 hV hg;have HGT:=I (DI HK.o HRE.o HOT.o HPT.o hV hg);replace HG:=I (HG.o.grown hg (fun e=>by injection e with e;exact HNEHG.o e.symm));clear hV hg HT HK HRE HOT HPT HCS;refine⟨HG.o,?_⟩;simp only[Act.put,U,Aa,Ab];refine Reg.tk 14 (v:=?vq72) rfl HG.o (fun w' hS=>?hq72) ?rq72
     case hq72=>go_simp<;>rfl
     simp only[Act.put,U,Aa,Ab];refine wpAnyH_done (by kernel_rfl) ?_ _
     go_wp2_with fail
     go_meet
     exact⟨PT,_,_,rfl,rfl,HGT.o⟩
   ·left
    have hb:Below wc.drew.heap.size wc.drew (wc.drew.alloc (.cells reZ 38)):=(Below.refl _ _).alloc (Nat.le_refl _) _;have hnb:=Blk.new wc.drew 38 reZ;have HNEHG:=I (show g≠wc.drew.heap.size from Nat.ne_of_lt HG.o.lt);have HPT:=I (show wc.heap.size≤wc.drew.heap.size from HK.o.size);have HOT:=I (HK.o.st.offs (Nat.le_refl wc.drew.heap.size));refine⟨_,_,_,_,_,_,.pointer (some ⟨wc.drew.heap.size,0,none⟩),wc.drew.alloc (.cells reZ 38),rfl,by rfl,(by go_simp<;>rfl),(HG.o.below hb),?_⟩;simp only[Act.put,U,Aa,Ab];obtain⟨wtq73,ewtq73⟩:∃z,z=wc.drew.alloc (.cells reZ 38):=⟨_,rfl⟩;rw[←ewtq73] at hb hnb⊢;clear ewtq73;have HT:=I hnb;clear hnb;replace HG:=I (HG.o.below hb);replace HK:=I (HK.o.below hb);clear hb;obtain⟨PT,ePT⟩:∃z,z=wc.drew.heap.size:=⟨_,rfl⟩;rw[←ePT] at HT HPT HOT HNEHG⊢;clear ePT;refine Reg.Ad [4] (by kernel_rfl) (by simp) ?_;intro j0 hj0;obtain rfl:j0=4:=by simpa using hj0
    clear hj0
    right
    refine⟨_,_,_,_,_,_,34,#[],rfl,by rfl,(by go_simp<;>first | rfl | exact⟨rfl,rfl⟩),?_⟩;refine Calls.mono (T3.o _) ?_;rintro e wlq74 ⟨rfl,hb⟩;replace HG:=I (HG.o.below hb);replace HK:=I (HK.o.below hb);replace HT:=I (HT.o.below hb);clear hb;refine⟨_,rfl,HG.o,?_⟩;simp only[Act.put,U,Aa,Ab];refine Reg.Ad [5] (by kernel_rfl) (by simp) ?_;intro j0 hj0;obtain rfl:j0=5:=by simpa using hj0
    clear hj0
    right
    refine⟨_,_,_,_,_,_,27,#[],rfl,by rfl,(by go_simp<;>first | rfl | exact⟨rfl,rfl⟩),?_⟩;refine Calls.mono (T1.o _) ?_;rintro e wlq75 ⟨rfl,hb⟩;replace HG:=I (HG.o.below hb);replace HK:=I (HK.o.below hb);replace HT:=I (HT.o.below hb);clear hb;refine⟨_,rfl,HG.o,?_⟩;simp only[Act.put,U,Aa,Ab];refine Reg.tk 6 (v:=.agg cs2) rfl HG.o (fun w' hS=>?hq76) ?rq76
    case hq76=>exact Rg.AU (by simp only[List.map_toArray,List.map_cons,List.map_nil];rfl) HB2.o
    simp only[Act.put,U,Aa,Ab];refine Reg.Ad [8] (by kernel_rfl) (by simp) ?_;intro j0 hj0;obtain rfl:j0=8:=by simpa using hj0
    clear hj0
    right
    refine⟨_,_,_,_,_,_,17,#[.pointer (some ⟨p.k,0,none⟩),.agg cs2,.int .i64 5,.agg csK],rfl,by rfl,(by go_simp<;>first | rfl | exact⟨rfl,rfl⟩),?_⟩;refine Calls.mono (CA2.o _ _ HIT.o HK.o.st) ?_;rintro e waq77 ⟨cs,es2,rfl,hre,hk⟩;have HCS:=I (BO hre);have hnb:=hk.blk HG.o HOG.o.no;replace HOG:=I (hk.off HOG.o HG.o.lt);replace HG:=I hnb;clear hnb;have HRE:=I (FD hre HK.o.size HT.o.lt);have hnb:=hk.blk HT.o HOT.o.no;replace HOT:=I (hk.off HOT.o HT.o.lt);replace HT:=I hnb;clear hnb;replace HK:=I (HK.o.trans hk);clear hk hre;refine⟨_,rfl,HG.o,?_⟩;simp only[Act.put,U,Aa,Ab];refine Reg.tk 9 (v:=?vq78) rfl HG.o (fun w' hS=>?hq78) ?rq78
    case hq78=>go_simp<;>rfl
    simp only[Act.put,U,Aa,Ab];refine Reg.tk 10 (v:=?vq79) rfl HG.o (fun w' hS=>?hq79) ?rq79
    case hq79=>go_simp<;>rfl
    simp only[Act.put,U,Aa,Ab];refine Reg.tk 11 (v:=?vq80) rfl HG.o (fun w' hS=>?hq80) ?rq80
    case hq80=>go_simp<;>rfl
    simp only[Act.put,U,Aa,Ab];refine Reg.AE 13 rfl (by kernel_rfl) (by rfl) PT 38 _ cs HT.o (by rfl) (by rfl) (by rw[HCS.o.1];rfl) (by rw[HCS.o.1];exact AI) HCS.o.2 ?_;intro Vq81 hV hg;have HGT:=I (DI HK.o HRE.o HOT.o HPT.o hV hg);replace HG:=I (HG.o.grown hg (fun e=>by injection e with e;exact HNEHG.o e.symm));clear hV hg HT HK HRE HOT HPT HCS;refine⟨HG.o,?_⟩;simp only[Act.put,U,Aa,Ab];refine Reg.tk 14 (v:=?vq82) rfl HG.o (fun w' hS=>?hq82) ?rq82
    case hq82=>go_simp<;>rfl
    simp only[Act.put,U,Aa,Ab];refine wpAnyH_done (by kernel_rfl) ?_ _
    go_wp2_with fail
    go_meet
    exact⟨PT,_,_,rfl,rfl,HGT.o⟩
  case rest=>
   obtain⟨PT2,cs2,es3,rfl,rfl,hgt⟩:=hcut;have ht:=hgt.kn.blk HTB.o HTO.o.no;replace HK4:=(ht.cell 4).trans ((HTB.o.cell 4).symm.trans HK4.o);replace HG:=I (hgt.kn.blk HG.o HOG.o.no);have kg0:=HG.o.cell 0;have CI:=I (SA hgt.kn.st.k (by omega));have HBF:=I (HBB.o.trans (hgt.kn.base HS1.o));clear hgt ht
   go_wp2_with (first
    |(go_at_call 25;refine Calls.mono CI.o ?_;rintro e wi ⟨rfl,hw⟩;clear CI;subst hw)
    |fail)
   go_ret;exact⟨rfl,HBF.o⟩
end Kd
end
end Go.Proofs.YtfcjeebnkigeaaaGreat
