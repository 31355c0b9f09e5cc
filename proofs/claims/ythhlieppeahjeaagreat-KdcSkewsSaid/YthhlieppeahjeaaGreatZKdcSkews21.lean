import Derived.Test.YthhlieppeahjeaaGreatZKdcSkews20
set_option maxHeartbeats 25600000
set_option maxRecDepth 100000
set_option linter.unusedVariables false
set_option linter.unusedSimpArgs false
namespace Go.Proofs.YthhlieppeahjeaaGreat
namespace Kd
open Go.RowKit Af Se
open Rg (It Ent Ring RO DRing DO Ap its)
open Ms (Re As Tg Pt An Rp pSm reC ptB anB prB tmB)
theorem OS (f:Nat→UInt8) (c:Nm.L×Nm.L) (b:Int):Tryz.prog.built 41 [(0,prV c),(1,.agg (AJ f)),(4,.int .i64 b)]=some (Ms.prC c++((AJ f).toList++([.string ⟨([]:Nm.L).toArray⟩,.int .i64 0,.int .i64 b]:List Value))).toArray:=by kernel_rfl
theorem TY (n:UInt8) (c:Nm.L×Nm.L) (b:Int):Tryz.prog.built 41 [(0,prV c),(1,.agg (AJ (kq n))),(4,.int .i64 b)]=some (ptA ⟨c,kb n,[],0,b⟩):=by
 have e2:ptA ⟨c,kb n,[],0,b⟩=(Ms.prC c++((AJ (kq n)).toList++([.string ⟨([]:Nm.L).toArray⟩,.int .i64 0,.int .i64 b]:List Value))).toArray:=by rw[RJ];simp [Ms.ptC]
 rw[e2];exact OS _ c b
theorem TZ (y:Int) (h1 : -20≤y) (h2:y≤20):(tgsL rA tT itA 0 (reqQ (kr rA rA) (kq 10) ⟨pAnn,kb 5,[],0,100⟩ ⟨Bp,50+y,0⟩ Bp 90) 50 (kb 6)).1=9:=by
 have ha:anB ⟨Bp,50+y,0⟩=true:=by
  have h3:prB Bp=true:=by decide +kernel
  simp [anB,h3,tmB,Ms.inB];omega
 rw[RT (by decide) (by decide) ha (by decide +kernel) (by decide) (by decide),if_neg (by omega),if_neg (by omega),if_neg (show ¬Bp=pAnn by decide +kernel)]
theorem Ua (y:Int) (h1 : -20≤y) (h2:y≤20):(tgsL rA tT itA 0 (reqQ (kr rA rA) (kq 10) ⟨pAnn,kb 5,[],0,100⟩ ⟨pAnn,50+y,0⟩ Bp 90) 50 (kb 6)).1=if 5<y∨y < -5 then 8 else 0:=by
 have ha:anB ⟨pAnn,50+y,0⟩=true:=by
  have h3:prB pAnn=true:=by decide +kernel
  simp [anB,h3,tmB,Ms.inB];omega
 rw[RT (by decide) (by decide) ha (by decide +kernel) (by decide) (by decide),if_neg (by omega),if_neg (by omega),if_pos (show pAnn=pAnn from rfl)]
 by_cases g:5<y∨y < -5
 ·rw[if_pos (by show(50+y<50 - 5∨50+5<50+y);omega),if_pos g]
 ·have e:tarL rA tT itA Bp=(0,Bp):=by decide +kernel
  rw[if_neg (by show ¬(50+y<50 - 5∨50+5<50+y);omega),if_neg g,e,if_pos rfl,if_neg (by omega),XT (Nn 6) (by decide +kernel) (by decide +kernel)]
theorem Ub (y:Int) (o:Bool) (w:World) (h1 : -20≤y) (h2:y≤20):Calls Tryz.prog 3 #[.int .i64 y,.bool o] w fun e w'=>e = .returned (.bool true)∧Below w.heap.size w w':=by
 have CB:=I (fun(w1:World)=>Gc false w1);have LC:=I (fun(w1:World)=>Hn w1);have LS:=I (fun(w1:World)=>Gn w1);have LAA:=I (fun(w1:World)=>Gp rA rA (by decide) w1);have LAE:=I (fun(w1:World)=>Gp rA rE (by decide) w1);have KN:=I (fun(w1:World)=>TX w1);obtain⟨c10,ec10⟩:∃z,z=AJ (kq 10):=⟨_,rfl⟩;have K10:=I (show ∀w1:World,Calls Tryz.prog 9 #[.int .u8 10] w1 fun e w'=>e = .returned (.agg c10)∧Below w1.heap.size w1 w' by intro w1;rw[ec10];exact MC 10 w1);have KE10:=I ec10;clear ec10;obtain⟨c5,ec5⟩:∃z,z=AJ (kq 5):=⟨_,rfl⟩;have K5:=I (show ∀w1:World,Calls Tryz.prog 9 #[.int .u8 5] w1 fun e w'=>e = .returned (.agg c5)∧Below w1.heap.size w1 w' by intro w1;rw[ec5];exact MC 5 w1);have KE5:=I ec5;clear ec5;obtain⟨c6,ec6⟩:∃z,z=AJ (kq 6):=⟨_,rfl⟩;have K6:=I (show ∀w1:World,Calls Tryz.prog 9 #[.int .u8 6] w1 fun e w'=>e = .returned (.agg c6)∧Below w1.heap.size w1 w' by intro w1;rw[ec6];exact MC 6 w1);have KE6:=I ec6;clear ec6;obtain⟨tm,etm⟩:∃z,z=50+y:=⟨_,rfl⟩;obtain⟨pp,rz,hpp⟩:∃(pp:Nm.L×Nm.L) (rz:Int),(o=false∧pp=pAnn∧rz=if 5<y∨y < -5 then 8 else 0)∨(o=true∧pp=Bp∧rz=9):=by
  cases o with
  |false=>exact⟨_,_,.inl ⟨rfl,rfl,rfl⟩⟩
  |true=>exact⟨_,_,.inr ⟨rfl,rfl,rfl⟩⟩
 have HPP:=I hpp;have hwr:IntKind.i64.wrap (50+y)=tm:=by rw[IntKind.wrap_i64];omega
 have ha:anB ⟨pp,tm,0⟩=true:=by
  have h3:prB pp=true:=by rcases hpp with⟨_,rfl,_⟩ | ⟨_,rfl,_⟩<;>decide +kernel
  simp [anB,h3,tmB,Ms.inB];omega
 have hk5:=Nn 5;have hp:ptB ⟨pAnn,kb 5,[],0,100⟩=true:=by decide +kernel
 obtain⟨x1,x2,hq0,hrq⟩:=WK (kr rA rA) Bp (kq 10) ⟨pAnn,kb 5,[],0,100⟩ ⟨pp,tm,0⟩ 90 hk5 hp ha;obtain⟨Q0,eQ0⟩:∃z:Tg,z=⟨⟨kr rA rA,1,x1⟩,x2,Bp,90,4⟩:=⟨_,rfl⟩;rw[←eQ0] at hq0;simp only[←eQ0] at hrq;obtain⟨cP,ecP⟩:∃z,z=ptA ⟨pAnn,kb 5,[],0,100⟩:=⟨_,rfl⟩;obtain⟨cA,ecA⟩:∃z,z=anA ⟨pp,tm,0⟩:=⟨_,rfl⟩;have CRQ:=I (fun w1=>hrq w1 c10 cP cA KE10.o ecP ecA);have HBP:=I (TY 5 pAnn 100);rw[←ecP,←KE5.o] at HBP;have HAI:=I (show(Tryz.prog.info? 28).map (·.size)=some cA.size by rw[ecA];exact RL _);obtain⟨rr,err⟩:∃z,z=tgsL rA tT itA 0 Q0 50 (kb 6):=⟨_,rfl⟩;have HRR0:=I (show rr.1=rz by
  rw[err,←hq0,etm];rcases hpp with⟨_,rfl,rfl⟩ | ⟨_,rfl,rfl⟩
  ·exact Ua y h1 h2
  ·exact TZ y h1 h2)
 have HER:=I err;have HTQ:=I eQ0;have HEA:=I ecA;have HEP:=I (RJ 6);have HB0:=I (Below.refl w.heap.size w);have t1:decide (y < -20)=false:=decide_eq_false (by omega);have t2:decide (20<y)=false:=decide_eq_false (by omega);have H1:=I h1;have H2:=I h2;clear hpp ha hk5 hp hq0 hrq eQ0 ecP ecA err etm h1 h2;go_enter Tryz.func3,Tryz.ntmps3
 go_upto_region 4 with(first
  |(go_at_call 4;refine Calls.mono (CB.o _) ?_;rintro e w1 ⟨g,p,es,d,rfl,hs⟩;clear CB;have HS:=I hs;clear hs)
  |fail)
 have HKS:=I HS.o.ks;have HG:=I (show Blk w1 g 49 (scC p.k d.x) from HS.o.blk);have HOG:=I HS.o.gk;have HIT:=I (show its es=itA from HS.o.e);have HPR:=I (show p.R=rA from HS.o.R);have HPT0:=I HS.o.T;have HBB:=I (HB0.o.trans (HS.o.b.mono HB0.o.size));clear HS;obtain⟨B,eB⟩:∃z,z=w.heap.size:=⟨_,rfl⟩;have HWB:=I (show w.heap.size≤B from eB▸Nat.le_refl _);rw[←eB] at HKS;clear eB
 go_upto_region 7 with(first
  |(go_at_call 5;refine Calls.mono (LC.o _) ?_;rintro e wq ⟨rfl,hb⟩;replace HKS:=I (HKS.o.below hb);replace HG:=I (HG.o.below hb);replace HBB:=HBB.t hb;clear hb)
  |fail)
 obtain⟨W7,eW7⟩:∃z,z=wq.alloc (.cells #[.string ⟨(pAnn).1.toArray⟩,.string ⟨(pAnn).2.toArray⟩,.int .i64 tm,.int .i64 0] 28):=⟨_,rfl⟩;have hb:Below wq.heap.size wq W7:=eW7▸Ah.alloc Ag _;have HA:=I (show Blk W7 wq.heap.size 28 #[.string ⟨(pAnn).1.toArray⟩,.string ⟨(pAnn).2.toArray⟩,.int .i64 tm,.int .i64 0] from eW7▸Blk.new wq _ _);have HOA:=I (HKS.o.offs (Nat.le_refl wq.heap.size));have HNA:=I (show g≠wq.heap.size from Nat.ne_of_lt HG.o.lt);have HLA:=I (show w.heap.size≤wq.heap.size from HBB.o.size);replace HKS:=I (HKS.o.below hb);replace HG:=I (HG.o.below hb);replace HBB:=HBB.t hb;rw[←eW7];clear eW7 hb;obtain⟨PA,ePA⟩:∃z,z=wq.heap.size:=⟨_,rfl⟩;rw[←ePA] at HA HOA HNA HLA⊢;clear ePA
 go_upto_if 25 with fail
 have ka0:=HA.o.cell 0;have ka1:=HA.o.cell 1;have fa:=HA.o.frozen
 go_cut [] from 25 to 27 (fun wx=>Blk wx PA 28 cA∧Blk wx g 49 (scC p.k d.x)∧Below w.heap.size w wx∧KS wx B p es none 0 0 0)
 case first=>
  cases o with
  |false=>
   have ep:pp=pAnn:=by
    rcases HPP.o with⟨_,h,_⟩ | ⟨h,_⟩
    ·exact h
    ·cases h
   go_wp2_with fail
   go_meet
   exact⟨by rw[HEA.o,ep];exact HA.o,HG.o,HBB.o,HKS.o⟩
  |true=>
   have ep:pp=Bp:=by
    rcases HPP.o with⟨h,_⟩ | ⟨_,h,_⟩
    ·cases h
    ·exact h
   have EP:=I ep;clear ep
   go_wp2_with (first
    |(go_at_call 6;refine Calls.mono (LS.o _) ?_;rintro e ws ⟨rfl,hb⟩;replace HKS:=I (HKS.o.below hb);replace HG:=I (HG.o.below hb);replace HBB:=HBB.t hb;replace HA:=I (HA.o.below hb);clear ka0 ka1 fa;have ka0:=HA.o.cell 0;have ka1:=HA.o.cell 1;have fa:=HA.o.frozen;clear hb)
    |fail)
   go_meet
   refine⟨?_,?_,?_,?_⟩
   ·rw[HEA.o,EP.o];exact(HA.o.set 0 (.string ⟨Bp.1.toArray⟩)).set 1 (.string ⟨Bp.2.toArray⟩)
   ·exact Si.Blk.far (Si.Blk.far HG.o _ _ HNA.o.symm) _ _ HNA.o.symm
   ·exact Si.Am (Si.Am HBB.o HLA.o _) HLA.o _
   ·exact(HKS.o.chg (Dj _ PA 0 _) (fun j hj e=>HOA.o j hj e)).chg (Dj _ PA 1 _) (fun j hj e=>HOA.o j hj e)
 case rest=>
  clear ka0 ka1 fa HA HG HBB HKS;obtain⟨ha,hg,hbb,hks⟩:=hcut;have HA:=I ha;have HG:=I hg;have HBB:=I hbb;have HKS:=I hks;clear ha hg hbb hks;obtain⟨W9,eW9⟩:∃z,z=wc:=⟨_,rfl⟩;rw[←eW9] at HA HKS HG HBB⊢;clear eW9
  go_upto_region 9 with fail
  go_cut [7,8] from 28 to 38 (fun qv kv wx=>∃(PQ:Nat) (v1 v2:Value),qv = .pointer (some ⟨PQ,0,none⟩)∧kv = .bool true∧W9.heap.size≤PQ∧Blk wx PQ 33 (tgA Q0 v1 v2)∧SlN (fun j=>j<W9.heap.size∨j=PQ) wx v1 x1∧SlN (fun j=>j<W9.heap.size∨j=PQ) wx v2 x2∧Below W9.heap.size W9 wx)
  case first=>
   have HB1:=I (below_drewN (Below.refl W9.heap.size W9) 1:Below W9.heap.size W9 W9.drew);replace HG:=I (HG.o.below HB1.o);replace HA:=I (HA.o.below HB1.o);refine Reg.Bb (fun w'=>Blk w' g 49 (scC p.k d.x)∧Blk w' PA 28 cA) 14 rfl (by kernel_rfl) ⟨HG.o,HA.o⟩ ?_;refine Reg.tk 5 (v:=.agg cA) rfl ⟨HG.o,HA.o⟩ (fun w' hS=>?ha1) ?ra1
   case ha1=>exact Wh.AR (.tmp 6) rfl rfl hS.2 Tryz.underlying28 rfl HAI.o
   simp only[Act.put,U,Aa,Ab];refine Reg.Ad [0,11] (by kernel_rfl) (by simp) ?_;intro j0 hj0;have hj0:j0=0∨j0=11:=by simpa using hj0
   rcases hj0 with rfl | rfl
   ·right
    refine⟨_,_,_,_,_,_,8,#[.string ⟨rA.toArray⟩,.string ⟨rA.toArray⟩],rfl,by rfl,(by go_simp<;>first | rfl | exact⟨rfl,rfl⟩),?_⟩;refine Calls.mono (LAA.o _) ?_;rintro e wla2 ⟨rfl,hb⟩;replace HG:=I (HG.o.below hb);replace HA:=I (HA.o.below hb);replace HB1:=HB1.t hb;clear hb;refine⟨_,rfl,⟨HG.o,HA.o⟩,?_⟩;simp only[Act.put,U,Aa,Ab];refine Reg.Ad [1,11] (by kernel_rfl) (by simp) ?_;intro j0 hj0;have hj0:j0=1∨j0=11:=by simpa using hj0
    rcases hj0 with rfl | rfl
    ·right
     refine⟨_,_,_,_,_,_,9,#[.int .u8 10],rfl,by rfl,(by go_simp<;>first | rfl | exact⟨rfl,rfl⟩),?_⟩;refine Calls.mono (K10.o _) ?_;rintro e wla3 ⟨rfl,hb⟩;replace HG:=I (HG.o.below hb);replace HA:=I (HA.o.below hb);replace HB1:=HB1.t hb;clear hb;refine⟨_,rfl,⟨HG.o,HA.o⟩,?_⟩;simp only[Act.put,U,Aa,Ab];refine Reg.Ad [2,11] (by kernel_rfl) (by simp) ?_;intro j0 hj0;have hj0:j0=2∨j0=11:=by simpa using hj0
     rcases hj0 with rfl | rfl
     ·right
      refine⟨_,_,_,_,_,_,5,#[],rfl,by rfl,(by go_simp<;>first | rfl | exact⟨rfl,rfl⟩),?_⟩;refine Calls.mono (LC.o _) ?_;rintro e wla4 ⟨rfl,hb⟩;replace HG:=I (HG.o.below hb);replace HA:=I (HA.o.below hb);replace HB1:=HB1.t hb;clear hb;refine⟨_,rfl,⟨HG.o,HA.o⟩,?_⟩;simp only[Act.put,U,Aa,Ab];refine Reg.Ad [3,11] (by kernel_rfl) (by simp) ?_;intro j0 hj0;have hj0:j0=3∨j0=11:=by simpa using hj0
      rcases hj0 with rfl | rfl
      ·right
       refine⟨_,_,_,_,_,_,9,#[.int .u8 5],rfl,by rfl,(by go_simp<;>first | rfl | exact⟨rfl,rfl⟩),?_⟩;refine Calls.mono (K5.o _) ?_;rintro e wla5 ⟨rfl,hb⟩;replace HG:=I (HG.o.below hb);replace HA:=I (HA.o.below hb);replace HB1:=HB1.t hb;clear hb;refine⟨_,rfl,⟨HG.o,HA.o⟩,?_⟩;simp only[Act.put,U,Aa,Ab];refine Reg.tk 4 (v:=.agg cP) rfl ⟨HG.o,HA.o⟩ (fun w' hS=>?ha6) ?ra6
       case ha6=>exact Rg.AS (by simp only[List.map_toArray,List.map_cons,List.map_nil];rfl) HBP.o
       simp only[Act.put,U,Aa,Ab];refine Reg.Ad [6,11] (by kernel_rfl) (by simp) ?_;intro j0 hj0;have hj0:j0=6∨j0=11:=by simpa using hj0
       rcases hj0 with rfl | rfl
       ·right
        refine⟨_,_,_,_,_,_,6,#[],rfl,by rfl,(by go_simp<;>first | rfl | exact⟨rfl,rfl⟩),?_⟩;refine Calls.mono (LS.o _) ?_;rintro e wla7 ⟨rfl,hb⟩;replace HG:=I (HG.o.below hb);replace HA:=I (HA.o.below hb);replace HB1:=HB1.t hb;clear hb;refine⟨_,rfl,⟨HG.o,HA.o⟩,?_⟩;simp only[Act.put,U,Aa,Ab];refine Reg.Ad [7,11] (by kernel_rfl) (by simp) ?_;intro j0 hj0;have hj0:j0=7∨j0=11:=by simpa using hj0
        rcases hj0 with rfl | rfl
        ·right
         refine⟨_,_,_,_,_,_,7,#[prV (kr rA rA),.agg c10,.agg cP,.agg cA,prV Bp,.int .i64 90],rfl,by rfl,(by go_simp<;>first | rfl | exact⟨rfl,rfl⟩),?_⟩;refine Calls.mono (CRQ.o _) ?_;rintro e wra8 ⟨v1,v2,rfl,hs1,hs2,hb⟩;have HV1:=I (hs1.mono (S':=fun j=>j<W9.heap.size) (fun j _ x=>by have:=HB1.o.size;omega));have HV2:=I (hs2.mono (S':=fun j=>j<W9.heap.size) (fun j _ x=>by have:=HB1.o.size;omega));replace HG:=I (HG.o.below hb);replace HA:=I (HA.o.below hb);replace HB1:=HB1.t hb;clear hb hs1 hs2;refine⟨_,rfl,⟨HG.o,HA.o⟩,?_⟩;simp only[Act.put,U,Aa,Ab];refine Reg.tk 8 (v:=?va9) rfl ⟨HG.o,HA.o⟩ (fun w' hS=>?ha9) ?ra9
         case ha9=>go_simp<;>rfl
         simp only[Act.put,U,Aa,Ab];refine Reg.tk 9 (v:=?va10) rfl ⟨HG.o,HA.o⟩ (fun w' hS=>?ha10) ?ra10
         case ha10=>go_simp<;>rfl
         simp only[Act.put,U,Aa,Ab];refine Reg.tk 10 (v:=?va11) rfl ⟨HG.o,HA.o⟩ (fun w' hS=>?ha11) ?ra11
         case ha11=>go_simp<;>rfl
         simp only[Act.put,U,Aa,Ab];refine Reg.Ad [11] (by kernel_rfl) (by simp) ?_;intro j0 hj0;obtain rfl:j0=11:=by simpa using hj0
         clear hj0
         left
         have hb:Below wra8.heap.size wra8 (wra8.alloc (.cells tgZ 33)):=Ah.alloc Ag _;have hnb:=Blk.new wra8 33 tgZ;have HNEHG:=I (show g≠wra8.heap.size from Nat.ne_of_lt HG.o.lt);have HNEHA:=I (show PA≠wra8.heap.size from Nat.ne_of_lt HA.o.lt);have HPT:=I (show W9.heap.size≤wra8.heap.size from HB1.o.size);refine⟨_,_,_,_,_,_,.pointer (some ⟨wra8.heap.size,0,none⟩),wra8.alloc (.cells tgZ 33),rfl,by rfl,(by go_simp<;>rfl),⟨(HG.o.below hb),(HA.o.below hb)⟩,?_⟩;simp only[Act.put,U,Aa,Ab];obtain⟨wta12,ewta12⟩:∃z,z=wra8.alloc (.cells tgZ 33):=⟨_,rfl⟩;rw[←ewta12] at hb hnb⊢;clear ewta12;replace HV1:=I (HV1.o.mono (S':=fun j=>j<W9.heap.size∨j=wra8.heap.size) (fun j hj x=>by rcases x with x | x<;>omega));replace HV2:=I (HV2.o.mono (S':=fun j=>j<W9.heap.size∨j=wra8.heap.size) (fun j hj x=>by rcases x with x | x<;>omega));have HT:=I hnb;clear hnb;replace HG:=I (HG.o.below hb);replace HA:=I (HA.o.below hb);replace HB1:=HB1.t hb;replace HV1:=I (HV1.o.below hb);replace HV2:=I (HV2.o.below hb);clear hb;obtain⟨PT,ePT⟩:∃z,z=wra8.heap.size:=⟨_,rfl⟩;rw[←ePT] at HT HPT HNEHG HNEHA HV1 HV2⊢;clear ePT;refine Reg.AA 12 rfl (by kernel_rfl) (by rfl) PT 33 _ (tgA Q0 v1 v2) HT.o (by rfl) (by rfl) (by rfl) (by exact AZ) (IN _ _ _ ⟨Dv HV1.o,Dv HV2.o⟩) ?_;intro Va13 hV hg;replace HG:=I (HG.o.grown hg (fun e=>by injection e with e;exact HNEHG.o e.symm));replace HA:=I (HA.o.grown hg (fun e=>by injection e with e;exact HNEHA.o e.symm));replace HB1:=I (HB1.o.grown hg HB1.o.size (fun k hk=>by injection hk with hk;have:=HPT.o;omega));replace HV1:=I (HV1.o.keep (AX hg) (fun j _ e=>.inr e) (fun _ _ x=>x));replace HV2:=I (HV2.o.keep (AX hg) (fun j _ e=>.inr e) (fun _ _ x=>x));replace HT:=I hV;clear hV hg;refine⟨⟨HG.o,HA.o⟩,?_⟩;simp only[Act.put,U,Aa,Ab];refine Reg.tk 13 (v:=?va14) rfl ⟨HG.o,HA.o⟩ (fun w' hS=>?ha14) ?ra14
         case ha14=>go_simp<;>rfl
         simp only[Act.put,U,Aa,Ab];refine wpAnyH_done (by kernel_rfl) ?_ _
         go_wp2_with fail
         go_meet
         exact⟨PT,_,_,rfl,rfl,HPT.o,HT.o,HV1.o,HV2.o,HB1.o⟩
        ·left
         have hb:Below wla7.heap.size wla7 (wla7.alloc (.cells tgZ 33)):=Ah.alloc Ag _;have hnb:=Blk.new wla7 33 tgZ;have HNEHG:=I (show g≠wla7.heap.size from Nat.ne_of_lt HG.o.lt);have HNEHA:=I (show PA≠wla7.heap.size from Nat.ne_of_lt HA.o.lt);have HPT:=I (show W9.heap.size≤wla7.heap.size from HB1.o.size);refine⟨_,_,_,_,_,_,.pointer (some ⟨wla7.heap.size,0,none⟩),wla7.alloc (.cells tgZ 33),rfl,by rfl,(by go_simp<;>rfl),⟨(HG.o.below hb),(HA.o.below hb)⟩,?_⟩;simp only[Act.put,U,Aa,Ab];obtain⟨wta15,ewta15⟩:∃z,z=wla7.alloc (.cells tgZ 33):=⟨_,rfl⟩;rw[←ewta15] at hb hnb⊢;clear ewta15;have HT:=I hnb;clear hnb;replace HG:=I (HG.o.below hb);replace HA:=I (HA.o.below hb);replace HB1:=HB1.t hb;clear hb;obtain⟨PT,ePT⟩:∃z,z=wla7.heap.size:=⟨_,rfl⟩;rw[←ePT] at HT HPT HNEHG HNEHA⊢;clear ePT;refine Reg.Ad [7] (by kernel_rfl) (by simp) ?_;intro j0 hj0;obtain rfl:j0=7:=by simpa using hj0
         clear hj0
         right
         refine⟨_,_,_,_,_,_,7,#[prV (kr rA rA),.agg c10,.agg cP,.agg cA,prV Bp,.int .i64 90],rfl,by rfl,(by go_simp<;>first | rfl | exact⟨rfl,rfl⟩),?_⟩;refine Calls.mono (CRQ.o _) ?_;rintro e wra16 ⟨v1,v2,rfl,hs1,hs2,hb⟩;have HV1:=I (hs1.mono (S':=fun j=>j<W9.heap.size∨j=PT) (fun j _ x=>by have:=HT.o.lt;have:=HB1.o.size;omega));have HV2:=I (hs2.mono (S':=fun j=>j<W9.heap.size∨j=PT) (fun j _ x=>by have:=HT.o.lt;have:=HB1.o.size;omega));replace HG:=I (HG.o.below hb);replace HA:=I (HA.o.below hb);replace HB1:=HB1.t hb;replace HT:=I (HT.o.below hb);clear hb hs1 hs2;refine⟨_,rfl,⟨HG.o,HA.o⟩,?_⟩;simp only[Act.put,U,Aa,Ab];refine Reg.tk 8 (v:=?va17) rfl ⟨HG.o,HA.o⟩ (fun w' hS=>?ha17) ?ra17
         case ha17=>go_simp<;>rfl
         simp only[Act.put,U,Aa,Ab];refine Reg.tk 9 (v:=?va18) rfl ⟨HG.o,HA.o⟩ (fun w' hS=>?ha18) ?ra18
         case ha18=>go_simp<;>rfl
         simp only[Act.put,U,Aa,Ab];refine Reg.tk 10 (v:=?va19) rfl ⟨HG.o,HA.o⟩ (fun w' hS=>?ha19) ?ra19
         case ha19=>go_simp<;>rfl
         simp only[Act.put,U,Aa,Ab];refine Reg.AA 12 rfl (by kernel_rfl) (by rfl) PT 33 _ (tgA Q0 v1 v2) HT.o (by rfl) (by rfl) (by rfl) (by exact AZ) (IN _ _ _ ⟨Dv HV1.o,Dv HV2.o⟩) ?_;intro Va20 hV hg;replace HG:=I (HG.o.grown hg (fun e=>by injection e with e;exact HNEHG.o e.symm));replace HA:=I (HA.o.grown hg (fun e=>by injection e with e;exact HNEHA.o e.symm));replace HB1:=I (HB1.o.grown hg HB1.o.size (fun k hk=>by injection hk with hk;have:=HPT.o;omega));replace HV1:=I (HV1.o.keep (AX hg) (fun j _ e=>.inr e) (fun _ _ x=>x));replace HV2:=I (HV2.o.keep (AX hg) (fun j _ e=>.inr e) (fun _ _ x=>x));replace HT:=I hV;clear hV hg;refine⟨⟨HG.o,HA.o⟩,?_⟩;simp only[Act.put,U,Aa,Ab];refine Reg.tk 13 (v:=?va21) rfl ⟨HG.o,HA.o⟩ (fun w' hS=>?ha21) ?ra21
         case ha21=>go_simp<;>rfl
         simp only[Act.put,U,Aa,Ab];refine wpAnyH_done (by kernel_rfl) ?_ _
         go_wp2_with fail
         go_meet
         exact⟨PT,_,_,rfl,rfl,HPT.o,HT.o,HV1.o,HV2.o,HB1.o⟩
       ·left
        have hb:Below wla5.heap.size wla5 (wla5.alloc (.cells tgZ 33)):=Ah.alloc Ag _;have hnb:=Blk.new wla5 33 tgZ;have HNEHG:=I (show g≠wla5.heap.size from Nat.ne_of_lt HG.o.lt);have HNEHA:=I (show PA≠wla5.heap.size from Nat.ne_of_lt HA.o.lt);have HPT:=I (show W9.heap.size≤wla5.heap.size from HB1.o.size);refine⟨_,_,_,_,_,_,.pointer (some ⟨wla5.heap.size,0,none⟩),wla5.alloc (.cells tgZ 33),rfl,by rfl,(by go_simp<;>rfl),⟨(HG.o.below hb),(HA.o.below hb)⟩,?_⟩;simp only[Act.put,U,Aa,Ab];obtain⟨wta22,ewta22⟩:∃z,z=wla5.alloc (.cells tgZ 33):=⟨_,rfl⟩;rw[←ewta22] at hb hnb⊢;clear ewta22;have HT:=I hnb;clear hnb;replace HG:=I (HG.o.below hb);replace HA:=I (HA.o.below hb);replace HB1:=HB1.t hb;clear hb;obtain⟨PT,ePT⟩:∃z,z=wla5.heap.size:=⟨_,rfl⟩;rw[←ePT] at HT HPT HNEHG HNEHA⊢;clear ePT;refine Reg.Ad [6] (by kernel_rfl) (by simp) ?_;intro j0 hj0;obtain rfl:j0=6:=by simpa using hj0
        clear hj0
        right
        refine⟨_,_,_,_,_,_,6,#[],rfl,by rfl,(by go_simp<;>first | rfl | exact⟨rfl,rfl⟩),?_⟩;refine Calls.mono (LS.o _) ?_;rintro e wla23 ⟨rfl,hb⟩;replace HG:=I (HG.o.below hb);replace HA:=I (HA.o.below hb);replace HB1:=HB1.t hb;replace HT:=I (HT.o.below hb);clear hb;refine⟨_,rfl,⟨HG.o,HA.o⟩,?_⟩;simp only[Act.put,U,Aa,Ab];refine Reg.Ad [7] (by kernel_rfl) (by simp) ?_;intro j0 hj0;obtain rfl:j0=7:=by simpa using hj0
        clear hj0
        right
        refine⟨_,_,_,_,_,_,7,#[prV (kr rA rA),.agg c10,.agg cP,.agg cA,prV Bp,.int .i64 90],rfl,by rfl,(by go_simp<;>first | rfl | exact⟨rfl,rfl⟩),?_⟩;refine Calls.mono (CRQ.o _) ?_;rintro e wra24 ⟨v1,v2,rfl,hs1,hs2,hb⟩;have HV1:=I (hs1.mono (S':=fun j=>j<W9.heap.size∨j=PT) (fun j _ x=>by have:=HT.o.lt;have:=HB1.o.size;omega));have HV2:=I (hs2.mono (S':=fun j=>j<W9.heap.size∨j=PT) (fun j _ x=>by have:=HT.o.lt;have:=HB1.o.size;omega));replace HG:=I (HG.o.below hb);replace HA:=I (HA.o.below hb);replace HB1:=HB1.t hb;replace HT:=I (HT.o.below hb);clear hb hs1 hs2;refine⟨_,rfl,⟨HG.o,HA.o⟩,?_⟩;simp only[Act.put,U,Aa,Ab];refine Reg.tk 8 (v:=?va25) rfl ⟨HG.o,HA.o⟩ (fun w' hS=>?ha25) ?ra25
        case ha25=>go_simp<;>rfl
        simp only[Act.put,U,Aa,Ab];refine Reg.tk 9 (v:=?va26) rfl ⟨HG.o,HA.o⟩ (fun w' hS=>?ha26) ?ra26
        case ha26=>go_simp<;>rfl
        simp only[Act.put,U,Aa,Ab];refine Reg.tk 10 (v:=?va27) rfl ⟨HG.o,HA.o⟩ (fun w' hS=>?ha27) ?ra27
        case ha27=>go_simp<;>rfl
        simp only[Act.put,U,Aa,Ab];refine Reg.AA 12 rfl (by kernel_rfl) (by rfl) PT 33 _ (tgA Q0 v1 v2) HT.o (by rfl) (by rfl) (by rfl) (by exact AZ) (IN _ _ _ ⟨Dv HV1.o,Dv HV2.o⟩) ?_;intro Va28 hV hg;replace HG:=I (HG.o.grown hg (fun e=>by injection e with e;exact HNEHG.o e.symm));replace HA:=I (HA.o.grown hg (fun e=>by injection e with e;exact HNEHA.o e.symm));replace HB1:=I (HB1.o.grown hg HB1.o.size (fun k hk=>by injection hk with hk;have:=HPT.o;omega));replace HV1:=I (HV1.o.keep (AX hg) (fun j _ e=>.inr e) (fun _ _ x=>x));replace HV2:=I (HV2.o.keep (AX hg) (fun j _ e=>.inr e) (fun _ _ x=>x));replace HT:=I hV;clear hV hg;refine⟨⟨HG.o,HA.o⟩,?_⟩;simp only[Act.put,U,Aa,Ab];refine Reg.tk 13 (v:=?va29) rfl ⟨HG.o,HA.o⟩ (fun w' hS=>?ha29) ?ra29
        case ha29=>go_simp<;>rfl
        simp only[Act.put,U,Aa,Ab];refine wpAnyH_done (by kernel_rfl) ?_ _
        go_wp2_with fail
        go_meet
        exact⟨PT,_,_,rfl,rfl,HPT.o,HT.o,HV1.o,HV2.o,HB1.o⟩
      ·left
       have hb:Below wla4.heap.size wla4 (wla4.alloc (.cells tgZ 33)):=Ah.alloc Ag _;have hnb:=Blk.new wla4 33 tgZ;have HNEHG:=I (show g≠wla4.heap.size from Nat.ne_of_lt HG.o.lt);have HNEHA:=I (show PA≠wla4.heap.size from Nat.ne_of_lt HA.o.lt);have HPT:=I (show W9.heap.size≤wla4.heap.size from HB1.o.size);refine⟨_,_,_,_,_,_,.pointer (some ⟨wla4.heap.size,0,none⟩),wla4.alloc (.cells tgZ 33),rfl,by rfl,(by go_simp<;>rfl),⟨(HG.o.below hb),(HA.o.below hb)⟩,?_⟩;simp only[Act.put,U,Aa,Ab];obtain⟨wta30,ewta30⟩:∃z,z=wla4.alloc (.cells tgZ 33):=⟨_,rfl⟩;rw[←ewta30] at hb hnb⊢;clear ewta30;have HT:=I hnb;clear hnb;replace HG:=I (HG.o.below hb);replace HA:=I (HA.o.below hb);replace HB1:=HB1.t hb;clear hb;obtain⟨PT,ePT⟩:∃z,z=wla4.heap.size:=⟨_,rfl⟩;rw[←ePT] at HT HPT HNEHG HNEHA⊢;clear ePT;refine Reg.Ad [3] (by kernel_rfl) (by simp) ?_;intro j0 hj0;obtain rfl:j0=3:=by simpa using hj0
       clear hj0
       right
       refine⟨_,_,_,_,_,_,9,#[.int .u8 5],rfl,by rfl,(by go_simp<;>first | rfl | exact⟨rfl,rfl⟩),?_⟩;refine Calls.mono (K5.o _) ?_;rintro e wla31 ⟨rfl,hb⟩;replace HG:=I (HG.o.below hb);replace HA:=I (HA.o.below hb);replace HB1:=HB1.t hb;replace HT:=I (HT.o.below hb);clear hb;refine⟨_,rfl,⟨HG.o,HA.o⟩,?_⟩;simp only[Act.put,U,Aa,Ab];refine Reg.tk 4 (v:=.agg cP) rfl ⟨HG.o,HA.o⟩ (fun w' hS=>?ha32) ?ra32
       case ha32=>exact Rg.AS (by simp only[List.map_toArray,List.map_cons,List.map_nil];rfl) HBP.o
       simp only[Act.put,U,Aa,Ab];refine Reg.Ad [6] (by kernel_rfl) (by simp) ?_;intro j0 hj0;obtain rfl:j0=6:=by simpa using hj0
       clear hj0
       right
       refine⟨_,_,_,_,_,_,6,#[],rfl,by rfl,(by go_simp<;>first | rfl | exact⟨rfl,rfl⟩),?_⟩;refine Calls.mono (LS.o _) ?_;rintro e wla33 ⟨rfl,hb⟩;replace HG:=I (HG.o.below hb);replace HA:=I (HA.o.below hb);replace HB1:=HB1.t hb;replace HT:=I (HT.o.below hb);clear hb;refine⟨_,rfl,⟨HG.o,HA.o⟩,?_⟩;simp only[Act.put,U,Aa,Ab];refine Reg.Ad [7] (by kernel_rfl) (by simp) ?_;intro j0 hj0;obtain rfl:j0=7:=by simpa using hj0
       clear hj0
       right
       refine⟨_,_,_,_,_,_,7,#[prV (kr rA rA),.agg c10,.agg cP,.agg cA,prV Bp,.int .i64 90],rfl,by rfl,(by go_simp<;>first | rfl | exact⟨rfl,rfl⟩),?_⟩;refine Calls.mono (CRQ.o _) ?_;rintro e wra34 ⟨v1,v2,rfl,hs1,hs2,hb⟩;have HV1:=I (hs1.mono (S':=fun j=>j<W9.heap.size∨j=PT) (fun j _ x=>by have:=HT.o.lt;have:=HB1.o.size;omega));have HV2:=I (hs2.mono (S':=fun j=>j<W9.heap.size∨j=PT) (fun j _ x=>by have:=HT.o.lt;have:=HB1.o.size;omega));replace HG:=I (HG.o.below hb);replace HA:=I (HA.o.below hb);replace HB1:=HB1.t hb;replace HT:=I (HT.o.below hb);clear hb hs1 hs2;refine⟨_,rfl,⟨HG.o,HA.o⟩,?_⟩;simp only[Act.put,U,Aa,Ab];refine Reg.tk 8 (v:=?va35) rfl ⟨HG.o,HA.o⟩ (fun w' hS=>?ha35) ?ra35
       case ha35=>go_simp<;>rfl
       simp only[Act.put,U,Aa,Ab];refine Reg.tk 9 (v:=?va36) rfl ⟨HG.o,HA.o⟩ (fun w' hS=>?ha36) ?ra36
       case ha36=>go_simp<;>rfl
       simp only[Act.put,U,Aa,Ab];refine Reg.tk 10 (v:=?va37) rfl ⟨HG.o,HA.o⟩ (fun w' hS=>?ha37) ?ra37
       case ha37=>go_simp<;>rfl
       simp only[Act.put,U,Aa,Ab];refine Reg.AA 12 rfl (by kernel_rfl) (by rfl) PT 33 _ (tgA Q0 v1 v2) HT.o (by rfl) (by rfl) (by rfl) (by exact AZ) (IN _ _ _ ⟨Dv HV1.o,Dv HV2.o⟩) ?_;intro Va38 hV hg;replace HG:=I (HG.o.grown hg (fun e=>by injection e with e;exact HNEHG.o e.symm));replace HA:=I (HA.o.grown hg (fun e=>by injection e with e;exact HNEHA.o e.symm));replace HB1:=I (HB1.o.grown hg HB1.o.size (fun k hk=>by injection hk with hk;have:=HPT.o;omega));replace HV1:=I (HV1.o.keep (AX hg) (fun j _ e=>.inr e) (fun _ _ x=>x));replace HV2:=I (HV2.o.keep (AX hg) (fun j _ e=>.inr e) (fun _ _ x=>x));replace HT:=I hV;clear hV hg;refine⟨⟨HG.o,HA.o⟩,?_⟩;simp only[Act.put,U,Aa,Ab];refine Reg.tk 13 (v:=?va39) rfl ⟨HG.o,HA.o⟩ (fun w' hS=>?ha39) ?ra39
       case ha39=>go_simp<;>rfl
       simp only[Act.put,U,Aa,Ab];refine wpAnyH_done (by kernel_rfl) ?_ _
       go_wp2_with fail
       go_meet
       exact⟨PT,_,_,rfl,rfl,HPT.o,HT.o,HV1.o,HV2.o,HB1.o⟩
     ·left
      have hb:Below wla3.heap.size wla3 (wla3.alloc (.cells tgZ 33)):=Ah.alloc Ag _;have hnb:=Blk.new wla3 33 tgZ;have HNEHG:=I (show g≠wla3.heap.size from Nat.ne_of_lt HG.o.lt);have HNEHA:=I (show PA≠wla3.heap.size from Nat.ne_of_lt HA.o.lt);have HPT:=I (show W9.heap.size≤wla3.heap.size from HB1.o.size);refine⟨_,_,_,_,_,_,.pointer (some ⟨wla3.heap.size,0,none⟩),wla3.alloc (.cells tgZ 33),rfl,by rfl,(by go_simp<;>rfl),⟨(HG.o.below hb),(HA.o.below hb)⟩,?_⟩;simp only[Act.put,U,Aa,Ab];obtain⟨wta40,ewta40⟩:∃z,z=wla3.alloc (.cells tgZ 33):=⟨_,rfl⟩;rw[←ewta40] at hb hnb⊢;clear ewta40;have HT:=I hnb;clear hnb;replace HG:=I (HG.o.below hb);replace HA:=I (HA.o.below hb);replace HB1:=HB1.t hb;clear hb;obtain⟨PT,ePT⟩:∃z,z=wla3.heap.size:=⟨_,rfl⟩;rw[←ePT] at HT HPT HNEHG HNEHA⊢;clear ePT;refine Reg.Ad [2] (by kernel_rfl) (by simp) ?_;intro j0 hj0;obtain rfl:j0=2:=by simpa using hj0
      clear hj0
      right
      refine⟨_,_,_,_,_,_,5,#[],rfl,by rfl,(by go_simp<;>first | rfl | exact⟨rfl,rfl⟩),?_⟩;refine Calls.mono (LC.o _) ?_;rintro e wla41 ⟨rfl,hb⟩;replace HG:=I (HG.o.below hb);replace HA:=I (HA.o.below hb);replace HB1:=HB1.t hb;replace HT:=I (HT.o.below hb);clear hb;refine⟨_,rfl,⟨HG.o,HA.o⟩,?_⟩;simp only[Act.put,U,Aa,Ab];refine Reg.Ad [3] (by kernel_rfl) (by simp) ?_;intro j0 hj0;obtain rfl:j0=3:=by simpa using hj0
      clear hj0
      right
      refine⟨_,_,_,_,_,_,9,#[.int .u8 5],rfl,by rfl,(by go_simp<;>first | rfl | exact⟨rfl,rfl⟩),?_⟩;refine Calls.mono (K5.o _) ?_;rintro e wla42 ⟨rfl,hb⟩;replace HG:=I (HG.o.below hb);replace HA:=I (HA.o.below hb);replace HB1:=HB1.t hb;replace HT:=I (HT.o.below hb);clear hb;refine⟨_,rfl,⟨HG.o,HA.o⟩,?_⟩;simp only[Act.put,U,Aa,Ab];refine Reg.tk 4 (v:=.agg cP) rfl ⟨HG.o,HA.o⟩ (fun w' hS=>?ha43) ?ra43
      case ha43=>exact Rg.AS (by simp only[List.map_toArray,List.map_cons,List.map_nil];rfl) HBP.o
      simp only[Act.put,U,Aa,Ab];refine Reg.Ad [6] (by kernel_rfl) (by simp) ?_;intro j0 hj0;obtain rfl:j0=6:=by simpa using hj0
      clear hj0
      right
      refine⟨_,_,_,_,_,_,6,#[],rfl,by rfl,(by go_simp<;>first | rfl | exact⟨rfl,rfl⟩),?_⟩;refine Calls.mono (LS.o _) ?_;rintro e wla44 ⟨rfl,hb⟩;replace HG:=I (HG.o.below hb);replace HA:=I (HA.o.below hb);replace HB1:=HB1.t hb;replace HT:=I (HT.o.below hb);clear hb;refine⟨_,rfl,⟨HG.o,HA.o⟩,?_⟩;simp only[Act.put,U,Aa,Ab];refine Reg.Ad [7] (by kernel_rfl) (by simp) ?_;intro j0 hj0;obtain rfl:j0=7:=by simpa using hj0
      clear hj0
      right
      refine⟨_,_,_,_,_,_,7,#[prV (kr rA rA),.agg c10,.agg cP,.agg cA,prV Bp,.int .i64 90],rfl,by rfl,(by go_simp<;>first | rfl | exact⟨rfl,rfl⟩),?_⟩;refine Calls.mono (CRQ.o _) ?_;rintro e wra45 ⟨v1,v2,rfl,hs1,hs2,hb⟩;have HV1:=I (hs1.mono (S':=fun j=>j<W9.heap.size∨j=PT) (fun j _ x=>by have:=HT.o.lt;have:=HB1.o.size;omega));have HV2:=I (hs2.mono (S':=fun j=>j<W9.heap.size∨j=PT) (fun j _ x=>by have:=HT.o.lt;have:=HB1.o.size;omega));replace HG:=I (HG.o.below hb);replace HA:=I (HA.o.below hb);replace HB1:=HB1.t hb;replace HT:=I (HT.o.below hb);clear hb hs1 hs2;refine⟨_,rfl,⟨HG.o,HA.o⟩,?_⟩;simp only[Act.put,U,Aa,Ab];refine Reg.tk 8 (v:=?va46) rfl ⟨HG.o,HA.o⟩ (fun w' hS=>?ha46) ?ra46
      case ha46=>go_simp<;>rfl
      simp only[Act.put,U,Aa,Ab];refine Reg.tk 9 (v:=?va47) rfl ⟨HG.o,HA.o⟩ (fun w' hS=>?ha47) ?ra47
      case ha47=>go_simp<;>rfl
      simp only[Act.put,U,Aa,Ab];refine Reg.tk 10 (v:=?va48) rfl ⟨HG.o,HA.o⟩ (fun w' hS=>?ha48) ?ra48
      case ha48=>go_simp<;>rfl
      simp only[Act.put,U,Aa,Ab];refine Reg.AA 12 rfl (by kernel_rfl) (by rfl) PT 33 _ (tgA Q0 v1 v2) HT.o (by rfl) (by rfl) (by rfl) (by exact AZ) (IN _ _ _ ⟨Dv HV1.o,Dv HV2.o⟩) ?_;intro Va49 hV hg;replace HG:=I (HG.o.grown hg (fun e=>by injection e with e;exact HNEHG.o e.symm));replace HA:=I (HA.o.grown hg (fun e=>by injection e with e;exact HNEHA.o e.symm));replace HB1:=I (HB1.o.grown hg HB1.o.size (fun k hk=>by injection hk with hk;have:=HPT.o;omega));replace HV1:=I (HV1.o.keep (AX hg) (fun j _ e=>.inr e) (fun _ _ x=>x));replace HV2:=I (HV2.o.keep (AX hg) (fun j _ e=>.inr e) (fun _ _ x=>x));replace HT:=I hV;clear hV hg;refine⟨⟨HG.o,HA.o⟩,?_⟩;simp only[Act.put,U,Aa,Ab];refine Reg.tk 13 (v:=?va50) rfl ⟨HG.o,HA.o⟩ (fun w' hS=>?ha50) ?ra50
      case ha50=>go_simp<;>rfl
      simp only[Act.put,U,Aa,Ab];refine wpAnyH_done (by kernel_rfl) ?_ _
      go_wp2_with fail
      go_meet
      exact⟨PT,_,_,rfl,rfl,HPT.o,HT.o,HV1.o,HV2.o,HB1.o⟩
    ·left
     have hb:Below wla2.heap.size wla2 (wla2.alloc (.cells tgZ 33)):=Ah.alloc Ag _;have hnb:=Blk.new wla2 33 tgZ;have HNEHG:=I (show g≠wla2.heap.size from Nat.ne_of_lt HG.o.lt);have HNEHA:=I (show PA≠wla2.heap.size from Nat.ne_of_lt HA.o.lt);have HPT:=I (show W9.heap.size≤wla2.heap.size from HB1.o.size);refine⟨_,_,_,_,_,_,.pointer (some ⟨wla2.heap.size,0,none⟩),wla2.alloc (.cells tgZ 33),rfl,by rfl,(by go_simp<;>rfl),⟨(HG.o.below hb),(HA.o.below hb)⟩,?_⟩;simp only[Act.put,U,Aa,Ab];obtain⟨wta51,ewta51⟩:∃z,z=wla2.alloc (.cells tgZ 33):=⟨_,rfl⟩;rw[←ewta51] at hb hnb⊢;clear ewta51;have HT:=I hnb;clear hnb;replace HG:=I (HG.o.below hb);replace HA:=I (HA.o.below hb);replace HB1:=HB1.t hb;clear hb;obtain⟨PT,ePT⟩:∃z,z=wla2.heap.size:=⟨_,rfl⟩;rw[←ePT] at HT HPT HNEHG HNEHA⊢;clear ePT;refine Reg.Ad [1] (by kernel_rfl) (by simp) ?_;intro j0 hj0;obtain rfl:j0=1:=by simpa using hj0
     clear hj0
     right
     refine⟨_,_,_,_,_,_,9,#[.int .u8 10],rfl,by rfl,(by go_simp<;>first | rfl | exact⟨rfl,rfl⟩),?_⟩;refine Calls.mono (K10.o _) ?_;rintro e wla52 ⟨rfl,hb⟩;replace HG:=I (HG.o.below hb);replace HA:=I (HA.o.below hb);replace HB1:=HB1.t hb;replace HT:=I (HT.o.below hb);clear hb;refine⟨_,rfl,⟨HG.o,HA.o⟩,?_⟩;simp only[Act.put,U,Aa,Ab];refine Reg.Ad [2] (by kernel_rfl) (by simp) ?_;intro j0 hj0;obtain rfl:j0=2:=by simpa using hj0
     clear hj0
     right
     refine⟨_,_,_,_,_,_,5,#[],rfl,by rfl,(by go_simp<;>first | rfl | exact⟨rfl,rfl⟩),?_⟩;refine Calls.mono (LC.o _) ?_;rintro e wla53 ⟨rfl,hb⟩;replace HG:=I (HG.o.below hb);replace HA:=I (HA.o.below hb);replace HB1:=HB1.t hb;replace HT:=I (HT.o.below hb);clear hb;refine⟨_,rfl,⟨HG.o,HA.o⟩,?_⟩;simp only[Act.put,U,Aa,Ab];refine Reg.Ad [3] (by kernel_rfl) (by simp) ?_;intro j0 hj0;obtain rfl:j0=3:=by simpa using hj0
     clear hj0
     right
     refine⟨_,_,_,_,_,_,9,#[.int .u8 5],rfl,by rfl,(by go_simp<;>first | rfl | exact⟨rfl,rfl⟩),?_⟩;refine Calls.mono (K5.o _) ?_;rintro e wla54 ⟨rfl,hb⟩;replace HG:=I (HG.o.below hb);replace HA:=I (HA.o.below hb);replace HB1:=HB1.t hb;replace HT:=I (HT.o.below hb);clear hb;refine⟨_,rfl,⟨HG.o,HA.o⟩,?_⟩;simp only[Act.put,U,Aa,Ab];refine Reg.tk 4 (v:=.agg cP) rfl ⟨HG.o,HA.o⟩ (fun w' hS=>?ha55) ?ra55
     case ha55=>exact Rg.AS (by simp only[List.map_toArray,List.map_cons,List.map_nil];rfl) HBP.o
     simp only[Act.put,U,Aa,Ab];refine Reg.Ad [6] (by kernel_rfl) (by simp) ?_;intro j0 hj0;obtain rfl:j0=6:=by simpa using hj0
     clear hj0
     right
     refine⟨_,_,_,_,_,_,6,#[],rfl,by rfl,(by go_simp<;>first | rfl | exact⟨rfl,rfl⟩),?_⟩;refine Calls.mono (LS.o _) ?_;rintro e wla56 ⟨rfl,hb⟩;replace HG:=I (HG.o.below hb);replace HA:=I (HA.o.below hb);replace HB1:=HB1.t hb;replace HT:=I (HT.o.below hb);clear hb;refine⟨_,rfl,⟨HG.o,HA.o⟩,?_⟩;simp only[Act.put,U,Aa,Ab];refine Reg.Ad [7] (by kernel_rfl) (by simp) ?_;intro j0 hj0;obtain rfl:j0=7:=by simpa using hj0
     clear hj0
     right
     refine⟨_,_,_,_,_,_,7,#[prV (kr rA rA),.agg c10,.agg cP,.agg cA,prV Bp,.int .i64 90],rfl,by rfl,(by go_simp<;>first | rfl | exact⟨rfl,rfl⟩),?_⟩;refine Calls.mono (CRQ.o _) ?_;rintro e wra57 ⟨v1,v2,rfl,hs1,hs2,hb⟩;have HV1:=I (hs1.mono (S':=fun j=>j<W9.heap.size∨j=PT) (fun j _ x=>by have:=HT.o.lt;have:=HB1.o.size;omega));have HV2:=I (hs2.mono (S':=fun j=>j<W9.heap.size∨j=PT) (fun j _ x=>by have:=HT.o.lt;have:=HB1.o.size;omega));replace HG:=I (HG.o.below hb);replace HA:=I (HA.o.below hb);replace HB1:=HB1.t hb;replace HT:=I (HT.o.below hb);clear hb hs1 hs2;refine⟨_,rfl,⟨HG.o,HA.o⟩,?_⟩;simp only[Act.put,U,Aa,Ab];refine Reg.tk 8 (v:=?va58) rfl ⟨HG.o,HA.o⟩ (fun w' hS=>?ha58) ?ra58
     case ha58=>go_simp<;>rfl
     simp only[Act.put,U,Aa,Ab];refine Reg.tk 9 (v:=?va59) rfl ⟨HG.o,HA.o⟩ (fun w' hS=>?ha59) ?ra59
     case ha59=>go_simp<;>rfl
     simp only[Act.put,U,Aa,Ab];refine Reg.tk 10 (v:=?va60) rfl ⟨HG.o,HA.o⟩ (fun w' hS=>?ha60) ?ra60
     case ha60=>go_simp<;>rfl
     simp only[Act.put,U,Aa,Ab];refine Reg.AA 12 rfl (by kernel_rfl) (by rfl) PT 33 _ (tgA Q0 v1 v2) HT.o (by rfl) (by rfl) (by rfl) (by exact AZ) (IN _ _ _ ⟨Dv HV1.o,Dv HV2.o⟩) ?_;intro Va61 hV hg;replace HG:=I (HG.o.grown hg (fun e=>by injection e with e;exact HNEHG.o e.symm));replace HA:=I (HA.o.grown hg (fun e=>by injection e with e;exact HNEHA.o e.symm));replace HB1:=I (HB1.o.grown hg HB1.o.size (fun k hk=>by injection hk with hk;have:=HPT.o;omega));replace HV1:=I (HV1.o.keep (AX hg) (fun j _ e=>.inr e) (fun _ _ x=>x));replace HV2:=I (HV2.o.keep (AX hg) (fun j _ e=>.inr e) (fun _ _ x=>x));replace HT:=I hV;clear hV hg;refine⟨⟨HG.o,HA.o⟩,?_⟩;simp only[Act.put,U,Aa,Ab];refine Reg.tk 13 (v:=?va62) rfl ⟨HG.o,HA.o⟩ (fun w' hS=>?ha62) ?ra62
     case ha62=>go_simp<;>rfl
     simp only[Act.put,U,Aa,Ab];refine wpAnyH_done (by kernel_rfl) ?_ _
     go_wp2_with fail
     go_meet
     exact⟨PT,_,_,rfl,rfl,HPT.o,HT.o,HV1.o,HV2.o,HB1.o⟩
   ·left
    have hb:Below W9.drew.heap.size W9.drew (W9.drew.alloc (.cells tgZ 33)):=Ah.alloc Ag _;have hnb:=Blk.new W9.drew 33 tgZ;have HNEHG:=I (show g≠W9.drew.heap.size from Nat.ne_of_lt HG.o.lt);have HNEHA:=I (show PA≠W9.drew.heap.size from Nat.ne_of_lt HA.o.lt);have HPT:=I (show W9.heap.size≤W9.drew.heap.size from HB1.o.size);refine⟨_,_,_,_,_,_,.pointer (some ⟨W9.drew.heap.size,0,none⟩),W9.drew.alloc (.cells tgZ 33),rfl,by rfl,(by go_simp<;>rfl),⟨(HG.o.below hb),(HA.o.below hb)⟩,?_⟩;simp only[Act.put,U,Aa,Ab];obtain⟨wta63,ewta63⟩:∃z,z=W9.drew.alloc (.cells tgZ 33):=⟨_,rfl⟩;rw[←ewta63] at hb hnb⊢;clear ewta63;have HT:=I hnb;clear hnb;replace HG:=I (HG.o.below hb);replace HA:=I (HA.o.below hb);replace HB1:=HB1.t hb;clear hb;obtain⟨PT,ePT⟩:∃z,z=W9.drew.heap.size:=⟨_,rfl⟩;rw[←ePT] at HT HPT HNEHG HNEHA⊢;clear ePT;refine Reg.Ad [0] (by kernel_rfl) (by simp) ?_;intro j0 hj0;obtain rfl:j0=0:=by simpa using hj0
    clear hj0
    right
    refine⟨_,_,_,_,_,_,8,#[.string ⟨rA.toArray⟩,.string ⟨rA.toArray⟩],rfl,by rfl,(by go_simp<;>first | rfl | exact⟨rfl,rfl⟩),?_⟩;refine Calls.mono (LAA.o _) ?_;rintro e wla64 ⟨rfl,hb⟩;replace HG:=I (HG.o.below hb);replace HA:=I (HA.o.below hb);replace HB1:=HB1.t hb;replace HT:=I (HT.o.below hb);clear hb;refine⟨_,rfl,⟨HG.o,HA.o⟩,?_⟩;simp only[Act.put,U,Aa,Ab];refine Reg.Ad [1] (by kernel_rfl) (by simp) ?_;intro j0 hj0;obtain rfl:j0=1:=by simpa using hj0
    clear hj0
    right
    refine⟨_,_,_,_,_,_,9,#[.int .u8 10],rfl,by rfl,(by go_simp<;>first | rfl | exact⟨rfl,rfl⟩),?_⟩;refine Calls.mono (K10.o _) ?_;rintro e wla65 ⟨rfl,hb⟩;replace HG:=I (HG.o.below hb);replace HA:=I (HA.o.below hb);replace HB1:=HB1.t hb;replace HT:=I (HT.o.below hb);clear hb;refine⟨_,rfl,⟨HG.o,HA.o⟩,?_⟩;simp only[Act.put,U,Aa,Ab];refine Reg.Ad [2] (by kernel_rfl) (by simp) ?_;intro j0 hj0;obtain rfl:j0=2:=by simpa using hj0
    clear hj0
    right
    refine⟨_,_,_,_,_,_,5,#[],rfl,by rfl,(by go_simp<;>first | rfl | exact⟨rfl,rfl⟩),?_⟩;refine Calls.mono (LC.o _) ?_;rintro e wla66 ⟨rfl,hb⟩;replace HG:=I (HG.o.below hb);replace HA:=I (HA.o.below hb);replace HB1:=HB1.t hb;replace HT:=I (HT.o.below hb);clear hb;refine⟨_,rfl,⟨HG.o,HA.o⟩,?_⟩;simp only[Act.put,U,Aa,Ab];refine Reg.Ad [3] (by kernel_rfl) (by simp) ?_;intro j0 hj0;obtain rfl:j0=3:=by simpa using hj0
    clear hj0
    right
    refine⟨_,_,_,_,_,_,9,#[.int .u8 5],rfl,by rfl,(by go_simp<;>first | rfl | exact⟨rfl,rfl⟩),?_⟩;refine Calls.mono (K5.o _) ?_;rintro e wla67 ⟨rfl,hb⟩;replace HG:=I (HG.o.below hb);replace HA:=I (HA.o.below hb);replace HB1:=HB1.t hb;replace HT:=I (HT.o.below hb);clear hb;refine⟨_,rfl,⟨HG.o,HA.o⟩,?_⟩;simp only[Act.put,U,Aa,Ab];refine Reg.tk 4 (v:=.agg cP) rfl ⟨HG.o,HA.o⟩ (fun w' hS=>?ha68) ?ra68
    case ha68=>exact Rg.AS (by simp only[List.map_toArray,List.map_cons,List.map_nil];rfl) HBP.o
    simp only[Act.put,U,Aa,Ab];refine Reg.Ad [6] (by kernel_rfl) (by simp) ?_;intro j0 hj0;obtain rfl:j0=6:=by simpa using hj0
    clear hj0
    right
    refine⟨_,_,_,_,_,_,6,#[],rfl,by rfl,(by go_simp<;>first | rfl | exact⟨rfl,rfl⟩),?_⟩;refine Calls.mono (LS.o _) ?_;rintro e wla69 ⟨rfl,hb⟩;replace HG:=I (HG.o.below hb);replace HA:=I (HA.o.below hb);replace HB1:=HB1.t hb;replace HT:=I (HT.o.below hb);clear hb;refine⟨_,rfl,⟨HG.o,HA.o⟩,?_⟩;simp only[Act.put,U,Aa,Ab];refine Reg.Ad [7] (by kernel_rfl) (by simp) ?_;intro j0 hj0;obtain rfl:j0=7:=by simpa using hj0
    clear hj0
    right
    refine⟨_,_,_,_,_,_,7,#[prV (kr rA rA),.agg c10,.agg cP,.agg cA,prV Bp,.int .i64 90],rfl,by rfl,(by go_simp<;>first | rfl | exact⟨rfl,rfl⟩),?_⟩;refine Calls.mono (CRQ.o _) ?_;rintro e wra70 ⟨v1,v2,rfl,hs1,hs2,hb⟩;have HV1:=I (hs1.mono (S':=fun j=>j<W9.heap.size∨j=PT) (fun j _ x=>by have:=HT.o.lt;have:=HB1.o.size;omega));have HV2:=I (hs2.mono (S':=fun j=>j<W9.heap.size∨j=PT) (fun j _ x=>by have:=HT.o.lt;have:=HB1.o.size;omega));replace HG:=I (HG.o.below hb);replace HA:=I (HA.o.below hb);replace HB1:=HB1.t hb;replace HT:=I (HT.o.below hb);clear hb hs1 hs2;refine⟨_,rfl,⟨HG.o,HA.o⟩,?_⟩;simp only[Act.put,U,Aa,Ab];refine Reg.tk 8 (v:=?va71) rfl ⟨HG.o,HA.o⟩ (fun w' hS=>?ha71) ?ra71
    case ha71=>go_simp<;>rfl
    simp only[Act.put,U,Aa,Ab];refine Reg.tk 9 (v:=?va72) rfl ⟨HG.o,HA.o⟩ (fun w' hS=>?ha72) ?ra72
    case ha72=>go_simp<;>rfl
    simp only[Act.put,U,Aa,Ab];refine Reg.tk 10 (v:=?va73) rfl ⟨HG.o,HA.o⟩ (fun w' hS=>?ha73) ?ra73
    case ha73=>go_simp<;>rfl
    simp only[Act.put,U,Aa,Ab];refine Reg.AA 12 rfl (by kernel_rfl) (by rfl) PT 33 _ (tgA Q0 v1 v2) HT.o (by rfl) (by rfl) (by rfl) (by exact AZ) (IN _ _ _ ⟨Dv HV1.o,Dv HV2.o⟩) ?_;intro Va74 hV hg;replace HG:=I (HG.o.grown hg (fun e=>by injection e with e;exact HNEHG.o e.symm));replace HA:=I (HA.o.grown hg (fun e=>by injection e with e;exact HNEHA.o e.symm));replace HB1:=I (HB1.o.grown hg HB1.o.size (fun k hk=>by injection hk with hk;have:=HPT.o;omega));replace HV1:=I (HV1.o.keep (AX hg) (fun j _ e=>.inr e) (fun _ _ x=>x));replace HV2:=I (HV2.o.keep (AX hg) (fun j _ e=>.inr e) (fun _ _ x=>x));replace HT:=I hV;clear hV hg;refine⟨⟨HG.o,HA.o⟩,?_⟩;simp only[Act.put,U,Aa,Ab];refine Reg.tk 13 (v:=?va75) rfl ⟨HG.o,HA.o⟩ (fun w' hS=>?ha75) ?ra75
    case ha75=>go_simp<;>rfl
    simp only[Act.put,U,Aa,Ab];refine wpAnyH_done (by kernel_rfl) ?_ _
    go_wp2_with fail
    go_meet
    exact⟨PT,_,_,rfl,rfl,HPT.o,HT.o,HV1.o,HV2.o,HB1.o⟩
  case rest=>
   obtain⟨PQ,v1,v2,rfl,rfl,hlo,hq,hv1,hv2,hb⟩:=hcut;have HOQ:=I (HKS.o.offs hlo);have HV1:=I (hv1.mono (S':=KSO p es none) (fun j _ x=>.inl (HKS.o.kso_lt x)));have HV2:=I (hv2.mono (S':=KSO p es none) (fun j _ x=>.inl (HKS.o.kso_lt x)));obtain⟨csQ,ecQ⟩:∃z,z=tgA Q0 v1 v2:=⟨_,rfl⟩;rw[←ecQ] at hq;have HEQ:=I ecQ;clear ecQ;have HQI:=I (show(Tryz.prog.info? 33).map (·.size)=some csQ.size by rw[HEQ.o];exact AZ);have HQ:=I hq;replace HKS:=I (HKS.o.below hb);replace HG:=I (HG.o.below hb);replace HA:=I (HA.o.below hb);replace HBB:=HBB.t hb;clear hlo hq hv1 hv2 hb;have CTG:=I (fun(w2:World) (h:KS w2 B p es none 0 0 0) (g1:SlN (KSO p es none) w2 v1 x1) (g2:SlN (KSO p es none) w2 v2 x2)=>TT (q:=Q0) HEQ.o (KE6.o.trans HEP.o) HPR.o HPT0.o HIT.o HER.o.symm h (by omega) (by omega) (by omega) (by decide) (by decide) QM (Nn 6) (by rw[HTQ.o];exact g1) (by rw[HTQ.o];exact g2) (by rw[HTQ.o];exact sKrA) (by rw[HTQ.o];exact YO) (by rw[HTQ.o];exact(show Bp.1=rA by decide +kernel)) (by rw[HTQ.o];exact(show(kr rA rA).1=rA by decide +kernel)))
   go_upto_region 10 with fail
   have HS0:=I HKS.o;have HG0:=I HG.o.lt
   go_cut [9,10] from 39 to 48 (fun rv ev wx=>∃(PT:Nat) (cs:Array Value) (es2:List Ent),rv = .pointer (some ⟨PT,0,none⟩)∧ev = .int .i64 rr.1∧Got wc wx B p es es2 (0+2*cnt rr.1) (0+cnt rr.1) (0+6) PT cs rr.2)
   case first=>
    have hdr:Below wc.heap.size wc wc.drew:=below_drewN Ah 1;have HK:=I (Kn.start HKS.o hdr);replace HG:=I (HG.o.below hdr);replace HQ:=I (HQ.o.below hdr);replace HV1:=I (HV1.o.below hdr);replace HV2:=I (HV2.o.below hdr);clear hdr;refine Reg.Bb (fun w'=>Blk w' g 49 (scC p.k d.x)∧Blk w' PQ 33 csQ) 13 rfl (by kernel_rfl) ⟨HG.o,HQ.o⟩ ?_;refine Reg.tk 0 (v:=?vb76) rfl ⟨HG.o,HQ.o⟩ (fun w' hS=>?hb76) ?rb76
    case hb76=>go_simp<;>rfl
    simp only[Act.put,U,Aa,Ab];refine Reg.tk 1 (v:=?vb77) rfl ⟨HG.o,HQ.o⟩ (fun w' hS=>?hb77) ?rb77
    case hb77=>go_simp<;>rfl
    simp only[Act.put,U,Aa,Ab];refine Reg.tk 2 (v:=?vb78) rfl ⟨HG.o,HQ.o⟩ (fun w' hS=>?hb78) ?rb78
    case hb78=>go_simp<;>rfl
    simp only[Act.put,U,Aa,Ab];refine Reg.tk 3 (v:=?vb79) rfl ⟨HG.o,HQ.o⟩ (fun w' hS=>?hb79) ?rb79
    case hb79=>have k0:=Blk.cell hS.1 0;go_simp<;>rfl
    simp only[Act.put,U,Aa,Ab];refine Reg.tk 4 (v:=.agg csQ) rfl ⟨HG.o,HQ.o⟩ (fun w' hS=>?hb80) ?rb80
    case hb80=>exact Wh.AR (.tmp 7) rfl rfl hS.2 Tryz.underlying33 rfl HQI.o
    simp only[Act.put,U,Aa,Ab];refine Reg.Ad [5,10] (by kernel_rfl) (by simp) ?_;intro j0 hj0;have hj0:j0=5∨j0=10:=by simpa using hj0
    rcases hj0 with rfl | rfl
    ·right
     refine⟨_,_,_,_,_,_,9,#[.int .u8 6],rfl,by rfl,(by go_simp<;>first | rfl | exact⟨rfl,rfl⟩),?_⟩;refine Calls.mono (K6.o _) ?_;rintro e wlb81 ⟨rfl,hb⟩;replace HV1:=I (HV1.o.below hb);replace HV2:=I (HV2.o.below hb);replace HG:=I (HG.o.below hb);replace HQ:=I (HQ.o.below hb);replace HK:=I (HK.o.below hb);clear hb;refine⟨_,rfl,⟨HG.o,HQ.o⟩,?_⟩;simp only[Act.put,U,Aa,Ab];refine Reg.Ad [6,10] (by kernel_rfl) (by simp) ?_;intro j0 hj0;have hj0:j0=6∨j0=10:=by simpa using hj0
     rcases hj0 with rfl | rfl
     ·right
      refine⟨_,_,_,_,_,_,10,#[.pointer (some ⟨p.k,0,none⟩),.agg csQ,.int .i64 50,.agg c6],rfl,by rfl,(by go_simp<;>first | rfl | exact⟨rfl,rfl⟩),?_⟩;refine Calls.mono (CTG.o _ HK.o.st HV1.o HV2.o) ?_;rintro e wab82 ⟨cs,es2,rfl,hre,hk⟩;have HCS:=I (Cr hre);have hnb:=hk.blk HG.o HOG.o.no;replace HOG:=I (hk.off HOG.o HG.o.lt);replace HG:=I hnb;clear hnb;have hnb:=hk.blk HQ.o HOQ.o.no;replace HOQ:=I (hk.off HOQ.o HQ.o.lt);replace HQ:=I hnb;clear hnb;have HRE:=I hre;have HRS:=I HK.o.size;replace HK:=I (HK.o.trans hk);clear hk hre;refine⟨_,rfl,⟨HG.o,HQ.o⟩,?_⟩;simp only[Act.put,U,Aa,Ab];refine Reg.tk 7 (v:=?vb83) rfl ⟨HG.o,HQ.o⟩ (fun w' hS=>?hb83) ?rb83
      case hb83=>go_simp<;>rfl
      simp only[Act.put,U,Aa,Ab];refine Reg.tk 8 (v:=?vb84) rfl ⟨HG.o,HQ.o⟩ (fun w' hS=>?hb84) ?rb84
      case hb84=>go_simp<;>rfl
      simp only[Act.put,U,Aa,Ab];refine Reg.tk 9 (v:=?vb85) rfl ⟨HG.o,HQ.o⟩ (fun w' hS=>?hb85) ?rb85
      case hb85=>go_simp<;>rfl
      simp only[Act.put,U,Aa,Ab];refine Reg.Ad [10] (by kernel_rfl) (by simp) ?_;intro j0 hj0;obtain rfl:j0=10:=by simpa using hj0
      clear hj0
      left
      have hb:Below wab82.heap.size wab82 (wab82.alloc (.cells reZ 43)):=Ah.alloc Ag _;have hnb:=Blk.new wab82 43 reZ;have HNEHG:=I (show g≠wab82.heap.size from Nat.ne_of_lt HG.o.lt);have HNEHQ:=I (show PQ≠wab82.heap.size from Nat.ne_of_lt HQ.o.lt);have HPT:=I (show wc.heap.size≤wab82.heap.size from HK.o.size);have HOT:=I (HK.o.st.offs (Nat.le_refl wab82.heap.size));refine⟨_,_,_,_,_,_,.pointer (some ⟨wab82.heap.size,0,none⟩),wab82.alloc (.cells reZ 43),rfl,by rfl,(by go_simp<;>rfl),⟨(HG.o.below hb),(HQ.o.below hb)⟩,?_⟩;simp only[Act.put,U,Aa,Ab];obtain⟨wtb86,ewtb86⟩:∃z,z=wab82.alloc (.cells reZ 43):=⟨_,rfl⟩;rw[←ewtb86] at hb hnb⊢;clear ewtb86;replace HRE:=I (RH HRE.o HRS.o Ag hb);clear HRS;have HT:=I hnb;clear hnb;replace HG:=I (HG.o.below hb);replace HQ:=I (HQ.o.below hb);replace HK:=I (HK.o.below hb);clear hb;obtain⟨PT,ePT⟩:∃z,z=wab82.heap.size:=⟨_,rfl⟩;rw[←ePT] at HT HPT HOT HNEHG HNEHQ HRE⊢;clear ePT;refine Reg.AA 11 rfl (by kernel_rfl) (by rfl) PT 43 _ cs HT.o (by rfl) (by rfl) (by rw[HCS.o.1];rfl) (by rw[HCS.o.1];exact AG) HCS.o.2 ?_;intro Vb87 hV hg;have HGT:=I (Fb HK.o HRE.o HOT.o HPT.o hV hg);replace HG:=I (HG.o.grown hg (fun e=>by injection e with e;exact HNEHG.o e.symm));replace HQ:=I (HQ.o.grown hg (fun e=>by injection e with e;exact HNEHQ.o e.symm));clear hV hg HT HK HRE HOT HPT HCS;refine⟨⟨HG.o,HQ.o⟩,?_⟩;simp only[Act.put,U,Aa,Ab];refine Reg.tk 12 (v:=?vb88) rfl ⟨HG.o,HQ.o⟩ (fun w' hS=>?hb88) ?rb88
      case hb88=>go_simp<;>rfl
      simp only[Act.put,U,Aa,Ab];refine wpAnyH_done (by kernel_rfl) ?_ _
      go_wp2_with fail
      go_meet
      exact⟨PT,_,_,rfl,rfl,HGT.o⟩
     ·left
      have hb:Below wlb81.heap.size wlb81 (wlb81.alloc (.cells reZ 43)):=Ah.alloc Ag _;have hnb:=Blk.new wlb81 43 reZ;have HNEHG:=I (show g≠wlb81.heap.size from Nat.ne_of_lt HG.o.lt);have HNEHQ:=I (show PQ≠wlb81.heap.size from Nat.ne_of_lt HQ.o.lt);have HPT:=I (show wc.heap.size≤wlb81.heap.size from HK.o.size);have HOT:=I (HK.o.st.offs (Nat.le_refl wlb81.heap.size));refine⟨_,_,_,_,_,_,.pointer (some ⟨wlb81.heap.size,0,none⟩),wlb81.alloc (.cells reZ 43),rfl,by rfl,(by go_simp<;>rfl),⟨(HG.o.below hb),(HQ.o.below hb)⟩,?_⟩;simp only[Act.put,U,Aa,Ab];obtain⟨wtb89,ewtb89⟩:∃z,z=wlb81.alloc (.cells reZ 43):=⟨_,rfl⟩;rw[←ewtb89] at hb hnb⊢;clear ewtb89;have HT:=I hnb;clear hnb;replace HV1:=I (HV1.o.below hb);replace HV2:=I (HV2.o.below hb);replace HG:=I (HG.o.below hb);replace HQ:=I (HQ.o.below hb);replace HK:=I (HK.o.below hb);clear hb;obtain⟨PT,ePT⟩:∃z,z=wlb81.heap.size:=⟨_,rfl⟩;rw[←ePT] at HT HPT HOT HNEHG HNEHQ⊢;clear ePT;refine Reg.Ad [6] (by kernel_rfl) (by simp) ?_;intro j0 hj0;obtain rfl:j0=6:=by simpa using hj0
      clear hj0
      right
      refine⟨_,_,_,_,_,_,10,#[.pointer (some ⟨p.k,0,none⟩),.agg csQ,.int .i64 50,.agg c6],rfl,by rfl,(by go_simp<;>first | rfl | exact⟨rfl,rfl⟩),?_⟩;refine Calls.mono (CTG.o _ HK.o.st HV1.o HV2.o) ?_;rintro e wab90 ⟨cs,es2,rfl,hre,hk⟩;have HCS:=I (Cr hre);have hnb:=hk.blk HG.o HOG.o.no;replace HOG:=I (hk.off HOG.o HG.o.lt);replace HG:=I hnb;clear hnb;have hnb:=hk.blk HQ.o HOQ.o.no;replace HOQ:=I (hk.off HOQ.o HQ.o.lt);replace HQ:=I hnb;clear hnb;have HRE:=I (Ha hre HK.o.size HT.o.lt);have hnb:=hk.blk HT.o HOT.o.no;replace HOT:=I (hk.off HOT.o HT.o.lt);replace HT:=I hnb;clear hnb;replace HK:=I (HK.o.trans hk);clear hk hre;refine⟨_,rfl,⟨HG.o,HQ.o⟩,?_⟩;simp only[Act.put,U,Aa,Ab];refine Reg.tk 7 (v:=?vb91) rfl ⟨HG.o,HQ.o⟩ (fun w' hS=>?hb91) ?rb91
      case hb91=>go_simp<;>rfl
      simp only[Act.put,U,Aa,Ab];refine Reg.tk 8 (v:=?vb92) rfl ⟨HG.o,HQ.o⟩ (fun w' hS=>?hb92) ?rb92
      case hb92=>go_simp<;>rfl
      simp only[Act.put,U,Aa,Ab];refine Reg.tk 9 (v:=?vb93) rfl ⟨HG.o,HQ.o⟩ (fun w' hS=>?hb93) ?rb93
      case hb93=>go_simp<;>rfl
      simp only[Act.put,U,Aa,Ab];refine Reg.AA 11 rfl (by kernel_rfl) (by rfl) PT 43 _ cs HT.o (by rfl) (by rfl) (by rw[HCS.o.1];rfl) (by rw[HCS.o.1];exact AG) HCS.o.2 ?_;intro Vb94 hV hg;have HGT:=I (Fb HK.o HRE.o HOT.o HPT.o hV hg);replace HG:=I (HG.o.grown hg (fun e=>by injection e with e;exact HNEHG.o e.symm));replace HQ:=I (HQ.o.grown hg (fun e=>by injection e with e;exact HNEHQ.o e.symm));clear hV hg HT HK HRE HOT HPT HCS;refine⟨⟨HG.o,HQ.o⟩,?_⟩;simp only[Act.put,U,Aa,Ab];refine Reg.tk 12 (v:=?vb95) rfl ⟨HG.o,HQ.o⟩ (fun w' hS=>?hb95) ?rb95
      case hb95=>go_simp<;>rfl
      simp only[Act.put,U,Aa,Ab];refine wpAnyH_done (by kernel_rfl) ?_ _
      go_wp2_with fail
      go_meet
      exact⟨PT,_,_,rfl,rfl,HGT.o⟩
    ·left
     have hb:Below wc.drew.heap.size wc.drew (wc.drew.alloc (.cells reZ 43)):=Ah.alloc Ag _;have hnb:=Blk.new wc.drew 43 reZ;have HNEHG:=I (show g≠wc.drew.heap.size from Nat.ne_of_lt HG.o.lt);have HNEHQ:=I (show PQ≠wc.drew.heap.size from Nat.ne_of_lt HQ.o.lt);have HPT:=I (show wc.heap.size≤wc.drew.heap.size from HK.o.size);have HOT:=I (HK.o.st.offs (Nat.le_refl wc.drew.heap.size));refine⟨_,_,_,_,_,_,.pointer (some ⟨wc.drew.heap.size,0,none⟩),wc.drew.alloc (.cells reZ 43),rfl,by rfl,(by go_simp<;>rfl),⟨(HG.o.below hb),(HQ.o.below hb)⟩,?_⟩;simp only[Act.put,U,Aa,Ab];obtain⟨wtb96,ewtb96⟩:∃z,z=wc.drew.alloc (.cells reZ 43):=⟨_,rfl⟩;rw[←ewtb96] at hb hnb⊢;clear ewtb96;have HT:=I hnb;clear hnb;replace HV1:=I (HV1.o.below hb);replace HV2:=I (HV2.o.below hb);replace HG:=I (HG.o.below hb);replace HQ:=I (HQ.o.below hb);replace HK:=I (HK.o.below hb);clear hb;obtain⟨PT,ePT⟩:∃z,z=wc.drew.heap.size:=⟨_,rfl⟩;rw[←ePT] at HT HPT HOT HNEHG HNEHQ⊢;clear ePT;refine Reg.Ad [5] (by kernel_rfl) (by simp) ?_;intro j0 hj0;obtain rfl:j0=5:=by simpa using hj0
     clear hj0
     right
     refine⟨_,_,_,_,_,_,9,#[.int .u8 6],rfl,by rfl,(by go_simp<;>first | rfl | exact⟨rfl,rfl⟩),?_⟩;refine Calls.mono (K6.o _) ?_;rintro e wlb97 ⟨rfl,hb⟩;replace HV1:=I (HV1.o.below hb);replace HV2:=I (HV2.o.below hb);replace HG:=I (HG.o.below hb);replace HQ:=I (HQ.o.below hb);replace HK:=I (HK.o.below hb);replace HT:=I (HT.o.below hb);clear hb;refine⟨_,rfl,⟨HG.o,HQ.o⟩,?_⟩;simp only[Act.put,U,Aa,Ab];refine Reg.Ad [6] (by kernel_rfl) (by simp) ?_;intro j0 hj0;obtain rfl:j0=6:=by simpa using hj0
     clear hj0
     right
     refine⟨_,_,_,_,_,_,10,#[.pointer (some ⟨p.k,0,none⟩),.agg csQ,.int .i64 50,.agg c6],rfl,by rfl,(by go_simp<;>first | rfl | exact⟨rfl,rfl⟩),?_⟩;refine Calls.mono (CTG.o _ HK.o.st HV1.o HV2.o) ?_;rintro e wab98 ⟨cs,es2,rfl,hre,hk⟩;have HCS:=I (Cr hre);have hnb:=hk.blk HG.o HOG.o.no;replace HOG:=I (hk.off HOG.o HG.o.lt);replace HG:=I hnb;clear hnb;have hnb:=hk.blk HQ.o HOQ.o.no;replace HOQ:=I (hk.off HOQ.o HQ.o.lt);replace HQ:=I hnb;clear hnb;have HRE:=I (Ha hre HK.o.size HT.o.lt);have hnb:=hk.blk HT.o HOT.o.no;replace HOT:=I (hk.off HOT.o HT.o.lt);replace HT:=I hnb;clear hnb;replace HK:=I (HK.o.trans hk);clear hk hre;refine⟨_,rfl,⟨HG.o,HQ.o⟩,?_⟩;simp only[Act.put,U,Aa,Ab];refine Reg.tk 7 (v:=?vb99) rfl ⟨HG.o,HQ.o⟩ (fun w' hS=>?hb99) ?rb99
     case hb99=>go_simp<;>rfl
     simp only[Act.put,U,Aa,Ab];refine Reg.tk 8 (v:=?vb100) rfl ⟨HG.o,HQ.o⟩ (fun w' hS=>?hb100) ?rb100
     case hb100=>go_simp<;>rfl
     simp only[Act.put,U,Aa,Ab];refine Reg.tk 9 (v:=?vb101) rfl ⟨HG.o,HQ.o⟩ (fun w' hS=>?hb101) ?rb101
     case hb101=>go_simp<;>rfl
     simp only[Act.put,U,Aa,Ab];refine Reg.AA 11 rfl (by kernel_rfl) (by rfl) PT 43 _ cs HT.o (by rfl) (by rfl) (by rw[HCS.o.1];rfl) (by rw[HCS.o.1];exact AG) HCS.o.2 ?_;intro Vb102 hV hg;have HGT:=I (Fb HK.o HRE.o HOT.o HPT.o hV hg);replace HG:=I (HG.o.grown hg (fun e=>by injection e with e;exact HNEHG.o e.symm));replace HQ:=I (HQ.o.grown hg (fun e=>by injection e with e;exact HNEHQ.o e.symm));clear hV hg HT HK HRE HOT HPT HCS;refine⟨⟨HG.o,HQ.o⟩,?_⟩;simp only[Act.put,U,Aa,Ab];refine Reg.tk 12 (v:=?vb103) rfl ⟨HG.o,HQ.o⟩ (fun w' hS=>?hb103) ?rb103
     case hb103=>go_simp<;>rfl
     simp only[Act.put,U,Aa,Ab];refine wpAnyH_done (by kernel_rfl) ?_ _
     go_wp2_with fail
     go_meet
     exact⟨PT,_,_,rfl,rfl,HGT.o⟩
   case rest=>
    obtain⟨PT,cs,es2,rfl,rfl,hgt⟩:=hcut;replace HKS:=I hgt.kn.st;have HIT2:=I ((JT hgt.kn.eq).trans HIT.o);replace HBB:=I (HBB.o.trans ((hgt.kn.base HS0.o).mono HWB.o));replace HG:=I (hgt.kn.blk HG.o HOG.o.no);replace HOG:=I (hgt.kn.off HOG.o HG0.o);have HRB:=I hgt.blk;have HRR:=I hgt.re;have HRO:=I hgt.off;have CI:=I (RM HKS.o.k (by have:=YR rr.1;omega));have kg0:=HG.o.cell 0;have HBF:=I HBB.o;clear HKS HG HRB HRR HRO HBB HOG CTG hgt;cases o with
    |false=>
     have EZ:=I (show rz=if 5<y∨y < -5 then 8 else 0 by
      rcases HPP.o with⟨h,_,e⟩ | ⟨h,_,e⟩
      ·exact e
      ·cases h)
     clear HPP
     by_cases g5:5<y
     ·have t3:decide (5<y)=true:=decide_eq_true g5
      have hv:=HRR0.o;rw[EZ.o] at hv;rw[if_pos (.inl g5)] at hv;rw[hv] at CI⊢;clear g5
      go_wp2_with (first
       |(go_at_call 11;refine Calls.mono CI.o ?_;rintro e wi ⟨rfl,hw⟩;clear CI;subst hw)
       |(go_at_call 12;refine Calls.mono (KN.o _) ?_;rintro e wk ⟨rfl,hb⟩;clear KN;replace HBF:=HBF.t hb;clear hb)
       |fail)
      go_ret;exact⟨rfl,HBF.o⟩
     ·have t3:decide (5<y)=false:=decide_eq_false g5
      by_cases g6:y < -5
      ·have t4:decide (y < -5)=true:=decide_eq_true g6
       have hv:=HRR0.o;rw[EZ.o] at hv;rw[if_pos (.inr g6)] at hv;rw[hv] at CI⊢;clear g6 g5
       go_wp2_with (first
        |(go_at_call 11;refine Calls.mono CI.o ?_;rintro e wi ⟨rfl,hw⟩;clear CI;subst hw)
        |(go_at_call 12;refine Calls.mono (KN.o _) ?_;rintro e wk ⟨rfl,hb⟩;clear KN;replace HBF:=HBF.t hb;clear hb)
        |fail)
       go_ret;exact⟨rfl,HBF.o⟩
      ·have t4:decide (y < -5)=false:=decide_eq_false g6
       have hv:=HRR0.o;rw[EZ.o] at hv;rw[if_neg (by omega)] at hv;rw[hv] at CI⊢;clear g6 g5
       go_wp2_with (first
        |(go_at_call 11;refine Calls.mono CI.o ?_;rintro e wi ⟨rfl,hw⟩;clear CI;subst hw)
        |(go_at_call 12;refine Calls.mono (KN.o _) ?_;rintro e wk ⟨rfl,hb⟩;clear KN;replace HBF:=HBF.t hb;clear hb)
        |fail)
       go_ret;exact⟨rfl,HBF.o⟩
    |true=>
     have EZ:=I (show rz=9 by
      rcases HPP.o with⟨h,_,e⟩ | ⟨h,_,e⟩
      ·cases h
      ·exact e)
     clear HPP
     by_cases g5:5<y
     ·have t3:decide (5<y)=true:=decide_eq_true g5
      have hv:=HRR0.o;rw[EZ.o] at hv;rw[hv] at CI⊢;clear g5
      go_wp2_with (first
       |(go_at_call 11;refine Calls.mono CI.o ?_;rintro e wi ⟨rfl,hw⟩;clear CI;subst hw)
       |(go_at_call 12;refine Calls.mono (KN.o _) ?_;rintro e wk ⟨rfl,hb⟩;clear KN;replace HBF:=HBF.t hb;clear hb)
       |fail)
      go_ret;exact⟨rfl,HBF.o⟩
     ·have t3:decide (5<y)=false:=decide_eq_false g5
      have hv:=HRR0.o;rw[EZ.o] at hv;rw[hv] at CI⊢;clear g5
      by_cases g6:y < -5
      ·have t4:decide (y < -5)=true:=decide_eq_true g6
       clear g6
       go_wp2_with (first
        |(go_at_call 11;refine Calls.mono CI.o ?_;rintro e wi ⟨rfl,hw⟩;clear CI;subst hw)
        |(go_at_call 12;refine Calls.mono (KN.o _) ?_;rintro e wk ⟨rfl,hb⟩;clear KN;replace HBF:=HBF.t hb;clear hb)
        |fail)
       go_ret;exact⟨rfl,HBF.o⟩
      ·have t4:decide (y < -5)=false:=decide_eq_false g6
       clear g6
       go_wp2_with (first
        |(go_at_call 11;refine Calls.mono CI.o ?_;rintro e wi ⟨rfl,hw⟩;clear CI;subst hw)
        |(go_at_call 12;refine Calls.mono (KN.o _) ?_;rintro e wk ⟨rfl,hb⟩;clear KN;replace HBF:=HBF.t hb;clear hb)
        |fail)
       go_ret;exact⟨rfl,HBF.o⟩
theorem WL (y:Int) (o:Bool) (w:World) (h:y < -20∨20<y):Calls Tryz.prog 3 #[.int .i64 y,.bool o] w fun e w'=>e = .returned (.bool true)∧Below w.heap.size w w':=by
 by_cases g:y < -20
 ·have t1:decide (y < -20)=true:=decide_eq_true g
  clear g h;go_enter Tryz.func3,Tryz.ntmps3
  go_wp2
  go_ret;exact⟨rfl,Below.refl _ _⟩
 ·have t1:decide (y < -20)=false:=decide_eq_false g
  have t2:decide (20<y)=true:=decide_eq_true (by omega);clear g h;go_enter Tryz.func3,Tryz.ntmps3
  go_wp2
  go_ret;exact⟨rfl,Below.refl _ _⟩
theorem skews (y:Int) (o:Bool) (w:World) (_:(Lit.int .i64 y).wf=true):Calls Tryz.prog 3 #[.int .i64 y,.bool o] w fun e w'=>e = .returned (.bool true)∧Below w.heap.size w w':=by
 by_cases h:y < -20∨20<y
 ·exact WL y o w h
 ·exact Ub y o w (by omega) (by omega)
end Kd
end Go.Proofs.YthhlieppeahjeaaGreat
