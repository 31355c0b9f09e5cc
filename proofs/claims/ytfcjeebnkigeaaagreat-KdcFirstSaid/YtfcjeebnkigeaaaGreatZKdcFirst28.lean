import Derived.Test.YtfcjeebnkigeaaaGreatZKdcFirst26
import Derived.Test.YtfcjeebnkigeaaaGreatZKdcFirst27
set_option maxHeartbeats 25600000
set_option maxRecDepth 100000
set_option linter.unusedVariables false
set_option linter.unusedSimpArgs false
namespace Go.Proofs.YtfcjeebnkigeaaaGreat
section
namespace Kd
open Go.RowKit Af Se
open Ms (Re Pt Rp reC ptB rpB ptE rpE)
open SeL (Cm)
abbrev No (_:Nat):Prop:=False
theorem YJ {w:World} {A:Option Addr} {c:Nat} {l:Nm.L} (hc:l.length≤c) (h:Rd w w.heap.size A (bvs l)):SlN No w (.slice A l.length c) l:=⟨A,c,rfl,hc,RdA.of_rd h (Nat.le_refl _) (fun _ x=>x.elim)⟩
theorem Oh {ks:Nat→UInt8} {u:Int} {x y:Nm.L} {cK:Array Value} {v:Value} {w:World} {S:Nat→Prop} (eK:cK=AP ks) (ex:Cm ks u y=(x,0)) (hv:SlN S w v y) :
  Calls Tryz.prog 29 #[.agg cK,.int .i64 u,v] w fun e w'=>∃v2,e = .returned (.tuple #[v2,.int .i64 0])∧SlN No w' v2 x∧Below w.heap.size w w':=by
 subst eK;obtain⟨A,c,rfl,hc,hr⟩:=hv.sl;refine(Yd ks u A y.length c y w rfl hc hr).mono ?_;rintro e w' ⟨A2,c2,rfl,h1,_,h2,hb⟩;rw[ex] at h1 h2⊢;exact⟨_,rfl,YJ h1 h2,hb⟩
theorem Ux {P:Pt} {cP:Array Value} {v:Value} {w:World} {S:Nat→Prop} (hk:P.ss.length=32) (hp:ptB P=true) (eP:cP=ptA P) (hv:SlN S w v (ptE P)) :
  Calls Tryz.prog 30 #[v] w fun e w'=>e = .returned (.tuple #[.agg cP,.int .i64 0])∧Below w.heap.size w w':=by
 subst eP;obtain⟨A,c,rfl,hc,hr⟩:=hv.sl;have:=Mc.Lw (ptE P) A c w hr hc (by have:=Mt hk hp;omega);have h:=Wl hk hp;rw[show Mc.ptG (ptE P)=P by rw[Mc.ptG,h];rfl,show Mc.ptI (ptE P)=0 by simp [Mc.ptI,h]] at this;exact this
theorem WZ {P:Rp} {cP:Array Value} {v:Value} {w:World} {S:Nat→Prop} (hk:P.ss.length=32) (hp:rpB P=true) (eP:cP=rpA P) (hv:SlN S w v (rpE P)) :
  Calls Tryz.prog 31 #[v] w fun e w'=>e = .returned (.tuple #[.agg cP,.int .i64 0])∧Below w.heap.size w w':=by
 subst eP;obtain⟨A,c,rfl,hc,hr⟩:=hv.sl;have:=Mc.MS (rpE P) A c w hr hc (by have:=Mu hk hp;omega);have h:=Wm hk hp;rw[show Mc.rpG (rpE P)=P by rw[Mc.rpG,h];rfl,show Mc.rpI (rpE P)=0 by simp [Mc.rpI,h]] at this;exact this
theorem re_vs {S:Nat→Prop} {w:World} {cs:Array Value} {x:Re} (h:ReN S w cs x):∃v1 v2,cs[5]? = some v1∧cs[6]? = some v2∧SlN No w v1 x.t.b∧SlN No w v2 x.b:=by
 obtain⟨b,a,rfl,h1,h2⟩:=h;exact⟨b,a,rfl,rfl,h1.mono (fun _ _ x=>x.elim),h2.mono (fun _ _ x=>x.elim)⟩
end Kd
end
section
namespace Kd
open Go.RowKit Af Se
open Rg (It Ent Ring RO DRing DO Ap its)
open Ms (Re As Pt Rp pSm ptB rpB prB tmB asB ptE rpE)
open SeL (Bz Cm)
abbrev fiX (u n o:Int) (d:Nm.L):Int×Re:=asL rA itA 0 ⟨pAnn,kr rA rA,u,o⟩ n d
theorem fi_b {u o:Int} (h1:tmB u=true) (h2:tmB o=true):asB ⟨pAnn,kr rA rA,u,o⟩=true:=by
 have g1:prB pAnn=true:=by decide +kernel
 have g2:prB (kr rA rA)=true:=by decide +kernel
 simp [asB,g1,g2,h1,h2]
theorem fi_no {u n o:Int} {d:Nm.L} (h1:tmB u=true) (h2:tmB o=true) (h3:tmB n=true) (h:u<n):fiX u n o d=(7,Ms.re0):=by
 unfold fiX asL;rw[if_pos (by rw[fi_b h1 h2,h3];rfl),if_pos (show pAnn.1=rA∧hasL itA pAnn=true by decide +kernel),if_pos (show kr rA rA=kr rA rA∧hasL itA (kr rA rA)=true by decide +kernel),if_pos h]
theorem key_a:keyL itA (kr rA rA)=kq 10:=by unfold keyL;rw[show Rg.Cc itA (kr rA rA)=some 0 by decide +kernel];rfl
theorem key_c:keyL itA pAnn=kq 13:=by unfold keyL;rw[show Rg.Cc itA pAnn=some 3 by decide +kernel];rfl
theorem YK {n e:Int} {d:Nm.L} (h1:tmB n=true) (h2:tmB e=true):ptB ⟨pAnn,d,[],n,e⟩=true:=by
 have g1:prB pAnn=true:=by decide +kernel
 simp [ptB,g1,h1,h2,Ms.txtB]
theorem YL {n e o:Int} {d:Nm.L} (h1:tmB n=true) (h2:tmB e=true) (h3:tmB o=true):rpB ⟨d,kr rA rA,n,e,o⟩=true:=by
 have g1:prB (kr rA rA)=true:=by decide +kernel
 simp [rpB,g1,h1,h2,h3]
theorem fi_ok {u n o:Int} {d:Nm.L} (hd:d.length=32) (h1:tmB u=true) (h2:tmB o=true) (h3:tmB n=true) (h:¬u<n):∃x1 x2:Nm.L,∃k:Nat,fiX u n o d=(0,⟨pAnn,⟨kr rA rA,k,x1⟩,x2⟩)∧tmB (min u (n+1000))=true∧Cm (kq 10) 2 x1=(ptE ⟨pAnn,d,[],n,min u (n+1000)⟩,0)∧Cm (kq 13) 3 x2=(rpE ⟨d,kr rA rA,n,min u (n+1000),o⟩,0):=by
 have he:tmB (min u (n+1000))=true:=by
  have g1:0≤u∧u≤1073741824:=by simpa [tmB,Ms.inB] using h1
  have g2:0≤n∧n≤1073741824:=by simpa [tmB,Ms.inB] using h3
  simp [tmB,Ms.inB];omega
 have hp:=YK (d:=d) h3 he;have hr:=YL (d:=d) h3 he h2;have l1:=Mt (p:=⟨pAnn,d,[],n,min u (n+1000)⟩) hd hp;have l2:=Mu (p:=⟨d,kr rA rA,n,min u (n+1000),o⟩) hd hr;refine⟨(Bz (keyL itA (kr rA rA)) 2 ((0+1:Nat):Int) (ptE ⟨pAnn,d,[],n,min u (n+1000)⟩)).1,(Bz (keyL itA pAnn) 3 ((0+1+1:Nat):Int) (rpE ⟨d,kr rA rA,n,min u (n+1000),o⟩)).1,Rg.BB itA (kr rA rA),?_,he,?_,?_⟩
 ·unfold fiX asL
  rw[if_pos (by rw[fi_b h1 h2,h3];rfl),if_pos (show pAnn.1=rA∧hasL itA pAnn=true by decide +kernel),if_pos (show kr rA rA=kr rA rA∧hasL itA (kr rA rA)=true by decide +kernel),if_neg h];exact XU (P:=⟨pAnn,d,[],n,min u (n+1000)⟩) (s:=kr rA rA) (no:=o) hd hp hr
 ·rw[key_a];exact Gl (by omega) (by decide) (by decide) (by decide) (by decide)
 ·rw[key_c];exact Gl (by omega) (by decide) (by decide) (by decide) (by decide)
theorem fi_x (u n o:Int) (y:UInt8) (w:World) (h:u<0∨1073741824<u∨n<0∨1073741824<n∨o<0∨1073741824<o):Calls Tryz.prog 4 #[.int .i64 u,.int .i64 n,.int .i64 o,.int .u8 (y.toNat:Int)] w fun e w'=>e = .returned (.bool true)∧Below w.heap.size w w':=by
 by_cases g0:u<0
 ·have t0:decide (u<0)=true:=decide_eq_true g0
  clear g0 h;go_enter Tryz.func4,Tryz.ntmps4
  go_wp2
  go_ret;exact⟨rfl,Below.refl _ _⟩
 have t0:decide (u<0)=false:=decide_eq_false g0
 by_cases g1:1073741824<u
 ·have t1:decide (1073741824<u)=true:=decide_eq_true g1
  clear g0 g1 h;go_enter Tryz.func4,Tryz.ntmps4
  go_wp2
  go_ret;exact⟨rfl,Below.refl _ _⟩
 have t1:decide (1073741824<u)=false:=decide_eq_false g1
 by_cases g2:n<0
 ·have t2:decide (n<0)=true:=decide_eq_true g2
  clear g0 g1 g2 h;go_enter Tryz.func4,Tryz.ntmps4
  go_wp2
  go_ret;exact⟨rfl,Below.refl _ _⟩
 have t2:decide (n<0)=false:=decide_eq_false g2
 by_cases g3:1073741824<n
 ·have t3:decide (1073741824<n)=true:=decide_eq_true g3
  clear g0 g1 g2 g3 h;go_enter Tryz.func4,Tryz.ntmps4
  go_wp2
  go_ret;exact⟨rfl,Below.refl _ _⟩
 have t3:decide (1073741824<n)=false:=decide_eq_false g3
 by_cases g4:o<0
 ·have t4:decide (o<0)=true:=decide_eq_true g4
  clear g0 g1 g2 g3 g4 h;go_enter Tryz.func4,Tryz.ntmps4
  go_wp2
  go_ret;exact⟨rfl,Below.refl _ _⟩
 have t4:decide (o<0)=false:=decide_eq_false g4
 by_cases g5:1073741824<o
 ·have t5:decide (1073741824<o)=true:=decide_eq_true g5
  clear g0 g1 g2 g3 g4 g5 h;go_enter Tryz.func4,Tryz.ntmps4
  go_wp2
  go_ret;exact⟨rfl,Below.refl _ _⟩
 have t5:decide (1073741824<o)=false:=decide_eq_false g5;omega
theorem fi_in (u n o:Int) (y:UInt8) (w:World) (h1:tmB u=true) (h2:tmB n=true) (h3:tmB o=true) (z1:0≤u∧u≤1073741824) (z2:0≤n∧n≤1073741824) (z3:0≤o∧o≤1073741824):Calls Tryz.prog 4 #[.int .i64 u,.int .i64 n,.int .i64 o,.int .u8 (y.toNat:Int)] w fun e w'=>e = .returned (.bool true)∧Below w.heap.size w w':=by
 have CB:=I (fun(w1:World)=>Gk false w1);have LC:=I (fun(w1:World)=>Hu w1);have LS:=I (fun(w1:World)=>Gy w1);have LAA:=I (fun(w1:World)=>Gz rA rA (by decide) w1);have LAE:=I (fun(w1:World)=>Gz rA rE (by decide) w1);have KN:=I (fun(w1:World)=>Ur w1);obtain⟨c10,ec10⟩:∃z,z=AP (kq 10):=⟨_,rfl⟩;have K10:=I (show ∀w1:World,Calls Tryz.prog 18 #[.int .u8 10] w1 fun e w'=>e = .returned (.agg c10)∧Below w1.heap.size w1 w' by intro w1;rw[ec10];exact MQ 10 w1);have KE10:=I ec10;clear ec10;obtain⟨c13,ec13⟩:∃z,z=AP (kq 13):=⟨_,rfl⟩;have K13:=I (show ∀w1:World,Calls Tryz.prog 18 #[.int .u8 13] w1 fun e w'=>e = .returned (.agg c13)∧Below w1.heap.size w1 w' by intro w1;rw[ec13];exact MQ 13 w1);have KE13:=I ec13;clear ec13;have t0:decide (u<0)=false:=decide_eq_false (by omega);have t1:decide (1073741824<u)=false:=decide_eq_false (by omega);have t2:decide (n<0)=false:=decide_eq_false (by omega);have t3:decide (1073741824<n)=false:=decide_eq_false (by omega);have t4:decide (o<0)=false:=decide_eq_false (by omega);have t5:decide (1073741824<o)=false:=decide_eq_false (by omega);have HBQ:=I (Ht pAnn (kr rA rA) u o);obtain⟨csQ,ecQ⟩:∃z,z=asA ⟨pAnn,kr rA rA,u,o⟩:=⟨_,rfl⟩;rw[←ecQ] at HBQ;have HEQ:=I ecQ;obtain⟨cK,ecK⟩:∃z,z=AP (kq y):=⟨_,rfl⟩;have CK:=I (show ∀w1:World,Calls Tryz.prog 18 #[.int .u8 (y.toNat:Int)] w1 fun e w'=>e = .returned (.agg cK)∧Below w1.heap.size w1 w' by intro w1;rw[ecK];exact MQ y w1);have HKE:=I (show cK=keyA (kb y) from ecK.trans (WT _));obtain⟨rr,err⟩:∃z,z=asL rA itA 0 ⟨pAnn,kr rA rA,u,o⟩ n (kb y):=⟨_,rfl⟩;have HER:=I err;have HX:=I (show rr=fiX u n o (kb y) from err);have H1:=I h1;have H2:=I h2;have H3:=I h3;have Z1:=I z1;have Z2:=I z2;have Z3:=I z3;have HB0:=I (Below.refl w.heap.size w);clear h1 h2 h3 z1 z2 z3 ecQ ecK err;go_enter Tryz.func4,Tryz.ntmps4
 go_upto_region 6 with(first
  |(go_at_call 16;refine Calls.mono (CB.o _) ?_;rintro e w1 ⟨g,p,es,d,rfl,hs⟩;clear CB;have HS:=I hs;clear hs)
  |fail)
 have HKS:=I HS.o.ks;have HG:=I (show Blk w1 g 44 (scC p.k d.x) from HS.o.blk);have HOG:=I HS.o.gk;have HIT:=I (show its es=itA from HS.o.e);have HPR:=I (show p.R=rA from HS.o.R);have HPT0:=I HS.o.T;have HBB:=I (HB0.o.trans (HS.o.b.mono HB0.o.size));clear HS;obtain⟨B,eB⟩:∃z,z=w.heap.size:=⟨_,rfl⟩;have HWB:=I (show w.heap.size≤B from eB▸Nat.le_refl _);rw[←eB] at HKS;clear eB t0 t1 t2 t3 t4 t5;have CAS:=I (fun(w2:World) (h:KS w2 B p es none 0 0 0)=>Sy HEQ.o HKE.o HPR.o HIT.o HER.o.symm h (by omega) (by omega) (by omega) (by decide) (by decide) (Rv _) sAnn sKrA);have HS0:=I HKS.o;have HG0:=I HG.o.lt
 go_cut [10,11] from 46 to 61 (fun rv ev wx=>∃(PT:Nat) (cs:Array Value) (es2:List Ent),rv = .pointer (some ⟨PT,0,none⟩)∧ev = .int .i64 rr.1∧Got w1 wx B p es es2 (0+2*cnt rr.1) (0+cnt rr.1) (0+4) PT cs rr.2)
 case first=>
  have hdr:Below w1.heap.size w1 w1.drew:=below_drewN (Below.refl _ _) 1;have HK:=I (Kn.start HKS.o hdr);replace HG:=I (HG.o.below hdr);clear hdr;refine Reg.AR (fun w'=>Blk w' g 44 (scC p.k d.x)) 19 rfl (by kernel_rfl) HG.o ?_;refine Reg.tk 0 (v:=?va1) rfl HG.o (fun w' hS=>?ha1) ?ra1
  case ha1=>go_simp<;>rfl
  simp only[Act.put,U,Aa,Ab];refine Reg.tk 1 (v:=?va2) rfl HG.o (fun w' hS=>?ha2) ?ra2
  case ha2=>go_simp<;>rfl
  simp only[Act.put,U,Aa,Ab];refine Reg.tk 2 (v:=?va3) rfl HG.o (fun w' hS=>?ha3) ?ra3
  case ha3=>go_simp<;>rfl
  simp only[Act.put,U,Aa,Ab];refine Reg.tk 3 (v:=?va4) rfl HG.o (fun w' hS=>?ha4) ?ra4
  case ha4=>have k0:=Blk.cell hS 0;go_simp<;>rfl
  simp only[Act.put,U,Aa,Ab];refine Reg.tk 6 (v:=?va5) rfl HG.o (fun w' hS=>?ha5) ?ra5
  case ha5=>go_simp<;>rfl
  simp only[Act.put,U,Aa,Ab];refine Reg.tk 7 (v:=?va6) rfl HG.o (fun w' hS=>?ha6) ?ra6
  case ha6=>go_simp<;>rfl
  simp only[Act.put,U,Aa,Ab];refine Reg.tk 9 (v:=?va7) rfl HG.o (fun w' hS=>?ha7) ?ra7
  case ha7=>go_simp<;>rfl
  simp only[Act.put,U,Aa,Ab];refine Reg.tk 10 (v:=?va8) rfl HG.o (fun w' hS=>?ha8) ?ra8
  case ha8=>go_simp<;>rfl
  simp only[Act.put,U,Aa,Ab];refine Reg.Ad [4,16] (by kernel_rfl) (by simp) ?_;intro j0 hj0;have hj0:j0=4∨j0=16:=by simpa using hj0
  rcases hj0 with rfl | rfl
  ·right
   refine⟨_,_,_,_,_,_,27,#[],rfl,by rfl,(by go_simp<;>first | rfl | exact⟨rfl,rfl⟩),?_⟩;refine Calls.mono (LC.o _) ?_;rintro e wla9 ⟨rfl,hb⟩;replace HG:=I (HG.o.below hb);replace HK:=I (HK.o.below hb);clear hb;refine⟨_,rfl,HG.o,?_⟩;simp only[Act.put,U,Aa,Ab];refine Reg.Ad [5,16] (by kernel_rfl) (by simp) ?_;intro j0 hj0;have hj0:j0=5∨j0=16:=by simpa using hj0
   rcases hj0 with rfl | rfl
   ·right
    refine⟨_,_,_,_,_,_,28,#[.string ⟨rA.toArray⟩,.string ⟨rA.toArray⟩],rfl,by rfl,(by go_simp<;>first | rfl | exact⟨rfl,rfl⟩),?_⟩;refine Calls.mono (LAA.o _) ?_;rintro e wla10 ⟨rfl,hb⟩;replace HG:=I (HG.o.below hb);replace HK:=I (HK.o.below hb);clear hb;refine⟨_,rfl,HG.o,?_⟩;simp only[Act.put,U,Aa,Ab];refine Reg.tk 8 (v:=.agg csQ) rfl HG.o (fun w' hS=>?ha11) ?ra11
    case ha11=>exact Rg.AU (by simp only[List.map_toArray,List.map_cons,List.map_nil];rfl) HBQ.o
    simp only[Act.put,U,Aa,Ab];refine Reg.Ad [11,16] (by kernel_rfl) (by simp) ?_;intro j0 hj0;have hj0:j0=11∨j0=16:=by simpa using hj0
    rcases hj0 with rfl | rfl
    ·right
     refine⟨_,_,_,_,_,_,18,#[.int .u8 (y.toNat:Int)],rfl,by rfl,(by go_simp<;>first | rfl | exact⟨rfl,rfl⟩),?_⟩;refine Calls.mono (CK.o _) ?_;rintro e wla12 ⟨rfl,hb⟩;replace HG:=I (HG.o.below hb);replace HK:=I (HK.o.below hb);clear hb;refine⟨_,rfl,HG.o,?_⟩;simp only[Act.put,U,Aa,Ab];refine Reg.Ad [12,16] (by kernel_rfl) (by simp) ?_;intro j0 hj0;have hj0:j0=12∨j0=16:=by simpa using hj0
     rcases hj0 with rfl | rfl
     ·right
      refine⟨_,_,_,_,_,_,17,#[.pointer (some ⟨p.k,0,none⟩),.agg csQ,.int .i64 n,.agg cK],rfl,by rfl,(by go_simp<;>first | rfl | exact⟨rfl,rfl⟩),?_⟩;refine Calls.mono (CAS.o _ HK.o.st) ?_;rintro e waa13 ⟨cs,es2,rfl,hre,hk⟩;have HCS:=I (BO hre);have hnb:=hk.blk HG.o HOG.o.no;replace HOG:=I (hk.off HOG.o HG.o.lt);replace HG:=I hnb;clear hnb;have HRE:=I hre;have HRS:=I HK.o.size;replace HK:=I (HK.o.trans hk);clear hk hre;refine⟨_,rfl,HG.o,?_⟩;simp only[Act.put,U,Aa,Ab];refine Reg.tk 13 (v:=?va14) rfl HG.o (fun w' hS=>?ha14) ?ra14
      case ha14=>go_simp<;>rfl
      simp only[Act.put,U,Aa,Ab];refine Reg.tk 14 (v:=?va15) rfl HG.o (fun w' hS=>?ha15) ?ra15
      case ha15=>go_simp<;>rfl
      simp only[Act.put,U,Aa,Ab];refine Reg.tk 15 (v:=?va16) rfl HG.o (fun w' hS=>?ha16) ?ra16
      case ha16=>go_simp<;>rfl
      simp only[Act.put,U,Aa,Ab];refine Reg.Ad [16] (by kernel_rfl) (by simp) ?_;intro j0 hj0;obtain rfl:j0=16:=by simpa using hj0
      clear hj0
      left
      have hb:Below waa13.heap.size waa13 (waa13.alloc (.cells reZ 38)):=(Below.refl _ _).alloc (Nat.le_refl _) _;have hnb:=Blk.new waa13 38 reZ;have HNEHG:=I (show g≠waa13.heap.size from Nat.ne_of_lt HG.o.lt);have HPT:=I (show w1.heap.size≤waa13.heap.size from HK.o.size);have HOT:=I (HK.o.st.offs (Nat.le_refl waa13.heap.size));refine⟨_,_,_,_,_,_,.pointer (some ⟨waa13.heap.size,0,none⟩),waa13.alloc (.cells reZ 38),rfl,by rfl,(by go_simp<;>rfl),(HG.o.below hb),?_⟩;simp only[Act.put,U,Aa,Ab];obtain⟨wta17,ewta17⟩:∃z,z=waa13.alloc (.cells reZ 38):=⟨_,rfl⟩;rw[←ewta17] at hb hnb⊢;clear ewta17;replace HRE:=I (Sx HRE.o HRS.o (Nat.le_refl _) hb);clear HRS;have HT:=I hnb;clear hnb;replace HG:=I (HG.o.below hb);replace HK:=I (HK.o.below hb);clear hb;obtain⟨PT,ePT⟩:∃z,z=waa13.heap.size:=⟨_,rfl⟩;rw[←ePT] at HT HPT HOT HNEHG HRE⊢;clear ePT;refine Reg.AE 17 rfl (by kernel_rfl) (by rfl) PT 38 _ cs HT.o (by rfl) (by rfl) (by rw[HCS.o.1];rfl) (by rw[HCS.o.1];exact AI) HCS.o.2 ?_;intro Va18 hV hg;have HGT:=I (DI HK.o HRE.o HOT.o HPT.o hV hg);replace HG:=I (HG.o.grown hg (fun e=>by injection e with e;exact HNEHG.o e.symm));clear hV hg HT HK HRE HOT HPT HCS;refine⟨HG.o,?_⟩;simp only[Act.put,U,Aa,Ab];refine Reg.tk 18 (v:=?va19) rfl HG.o (fun w' hS=>?ha19) ?ra19
      case ha19=>go_simp<;>rfl
      simp only[Act.put,U,Aa,Ab];refine wpAnyH_done (by kernel_rfl) ?_ _
      go_wp2_with fail
      go_meet
      exact⟨PT,_,_,rfl,rfl,HGT.o⟩
     ·left
      have hb:Below wla12.heap.size wla12 (wla12.alloc (.cells reZ 38)):=(Below.refl _ _).alloc (Nat.le_refl _) _;have hnb:=Blk.new wla12 38 reZ;have HNEHG:=I (show g≠wla12.heap.size from Nat.ne_of_lt HG.o.lt);have HPT:=I (show w1.heap.size≤wla12.heap.size from HK.o.size);have HOT:=I (HK.o.st.offs (Nat.le_refl wla12.heap.size));refine⟨_,_,_,_,_,_,.pointer (some ⟨wla12.heap.size,0,none⟩),wla12.alloc (.cells reZ 38),rfl,by rfl,(by go_simp<;>rfl),(HG.o.below hb),?_⟩;simp only[Act.put,U,Aa,Ab];obtain⟨wta20,ewta20⟩:∃z,z=wla12.alloc (.cells reZ 38):=⟨_,rfl⟩;rw[←ewta20] at hb hnb⊢;clear ewta20;have HT:=I hnb;clear hnb;replace HG:=I (HG.o.below hb);replace HK:=I (HK.o.below hb);clear hb;obtain⟨PT,ePT⟩:∃z,z=wla12.heap.size:=⟨_,rfl⟩;rw[←ePT] at HT HPT HOT HNEHG⊢;clear ePT;refine Reg.Ad [12] (by kernel_rfl) (by simp) ?_;intro j0 hj0;obtain rfl:j0=12:=by simpa using hj0
      clear hj0
      right
      refine⟨_,_,_,_,_,_,17,#[.pointer (some ⟨p.k,0,none⟩),.agg csQ,.int .i64 n,.agg cK],rfl,by rfl,(by go_simp<;>first | rfl | exact⟨rfl,rfl⟩),?_⟩;refine Calls.mono (CAS.o _ HK.o.st) ?_;rintro e waa21 ⟨cs,es2,rfl,hre,hk⟩;have HCS:=I (BO hre);have hnb:=hk.blk HG.o HOG.o.no;replace HOG:=I (hk.off HOG.o HG.o.lt);replace HG:=I hnb;clear hnb;have HRE:=I (FD hre HK.o.size HT.o.lt);have hnb:=hk.blk HT.o HOT.o.no;replace HOT:=I (hk.off HOT.o HT.o.lt);replace HT:=I hnb;clear hnb;replace HK:=I (HK.o.trans hk);clear hk hre;refine⟨_,rfl,HG.o,?_⟩;simp only[Act.put,U,Aa,Ab];refine Reg.tk 13 (v:=?va22) rfl HG.o (fun w' hS=>?ha22) ?ra22
      case ha22=>go_simp<;>rfl
      simp only[Act.put,U,Aa,Ab];refine Reg.tk 14 (v:=?va23) rfl HG.o (fun w' hS=>?ha23) ?ra23
      case ha23=>go_simp<;>rfl
      simp only[Act.put,U,Aa,Ab];refine Reg.tk 15 (v:=?va24) rfl HG.o (fun w' hS=>?ha24) ?ra24
      case ha24=>go_simp<;>rfl
      simp only[Act.put,U,Aa,Ab];refine Reg.AE 17 rfl (by kernel_rfl) (by rfl) PT 38 _ cs HT.o (by rfl) (by rfl) (by rw[HCS.o.1];rfl) (by rw[HCS.o.1];exact AI) HCS.o.2 ?_;intro Va25 hV hg;have HGT:=I (DI HK.o HRE.o HOT.o HPT.o hV hg);replace HG:=I (HG.o.grown hg (fun e=>by injection e with e;exact HNEHG.o e.symm));clear hV hg HT HK HRE HOT HPT HCS;refine⟨HG.o,?_⟩;simp only[Act.put,U,Aa,Ab];refine Reg.tk 18 (v:=?va26) rfl HG.o (fun w' hS=>?ha26) ?ra26
      case ha26=>go_simp<;>rfl
      simp only[Act.put,U,Aa,Ab];refine wpAnyH_done (by kernel_rfl) ?_ _
      go_wp2_with fail
      go_meet
      exact⟨PT,_,_,rfl,rfl,HGT.o⟩
    ·left
     have hb:Below wla10.heap.size wla10 (wla10.alloc (.cells reZ 38)):=(Below.refl _ _).alloc (Nat.le_refl _) _;have hnb:=Blk.new wla10 38 reZ;have HNEHG:=I (show g≠wla10.heap.size from Nat.ne_of_lt HG.o.lt);have HPT:=I (show w1.heap.size≤wla10.heap.size from HK.o.size);have HOT:=I (HK.o.st.offs (Nat.le_refl wla10.heap.size));refine⟨_,_,_,_,_,_,.pointer (some ⟨wla10.heap.size,0,none⟩),wla10.alloc (.cells reZ 38),rfl,by rfl,(by go_simp<;>rfl),(HG.o.below hb),?_⟩;simp only[Act.put,U,Aa,Ab];obtain⟨wta27,ewta27⟩:∃z,z=wla10.alloc (.cells reZ 38):=⟨_,rfl⟩;rw[←ewta27] at hb hnb⊢;clear ewta27;have HT:=I hnb;clear hnb;replace HG:=I (HG.o.below hb);replace HK:=I (HK.o.below hb);clear hb;obtain⟨PT,ePT⟩:∃z,z=wla10.heap.size:=⟨_,rfl⟩;rw[←ePT] at HT HPT HOT HNEHG⊢;clear ePT;refine Reg.Ad [11] (by kernel_rfl) (by simp) ?_;intro j0 hj0;obtain rfl:j0=11:=by simpa using hj0
     clear hj0
     right
     refine⟨_,_,_,_,_,_,18,#[.int .u8 (y.toNat:Int)],rfl,by rfl,(by go_simp<;>first | rfl | exact⟨rfl,rfl⟩),?_⟩;refine Calls.mono (CK.o _) ?_;rintro e wla28 ⟨rfl,hb⟩;replace HG:=I (HG.o.below hb);replace HK:=I (HK.o.below hb);replace HT:=I (HT.o.below hb);clear hb;refine⟨_,rfl,HG.o,?_⟩;simp only[Act.put,U,Aa,Ab];refine Reg.Ad [12] (by kernel_rfl) (by simp) ?_;intro j0 hj0;obtain rfl:j0=12:=by simpa using hj0
     clear hj0
     right
     refine⟨_,_,_,_,_,_,17,#[.pointer (some ⟨p.k,0,none⟩),.agg csQ,.int .i64 n,.agg cK],rfl,by rfl,(by go_simp<;>first | rfl | exact⟨rfl,rfl⟩),?_⟩;refine Calls.mono (CAS.o _ HK.o.st) ?_;rintro e waa29 ⟨cs,es2,rfl,hre,hk⟩;have HCS:=I (BO hre);have hnb:=hk.blk HG.o HOG.o.no;replace HOG:=I (hk.off HOG.o HG.o.lt);replace HG:=I hnb;clear hnb;have HRE:=I (FD hre HK.o.size HT.o.lt);have hnb:=hk.blk HT.o HOT.o.no;replace HOT:=I (hk.off HOT.o HT.o.lt);replace HT:=I hnb;clear hnb;replace HK:=I (HK.o.trans hk);clear hk hre;refine⟨_,rfl,HG.o,?_⟩;simp only[Act.put,U,Aa,Ab];refine Reg.tk 13 (v:=?va30) rfl HG.o (fun w' hS=>?ha30) ?ra30
     case ha30=>go_simp<;>rfl
     simp only[Act.put,U,Aa,Ab];refine Reg.tk 14 (v:=?va31) rfl HG.o (fun w' hS=>?ha31) ?ra31
     case ha31=>go_simp<;>rfl
     simp only[Act.put,U,Aa,Ab];refine Reg.tk 15 (v:=?va32) rfl HG.o (fun w' hS=>?ha32) ?ra32
     case ha32=>go_simp<;>rfl
     simp only[Act.put,U,Aa,Ab];refine Reg.AE 17 rfl (by kernel_rfl) (by rfl) PT 38 _ cs HT.o (by rfl) (by rfl) (by rw[HCS.o.1];rfl) (by rw[HCS.o.1];exact AI) HCS.o.2 ?_;intro Va33 hV hg;have HGT:=I (DI HK.o HRE.o HOT.o HPT.o hV hg);replace HG:=I (HG.o.grown hg (fun e=>by injection e with e;exact HNEHG.o e.symm));clear hV hg HT HK HRE HOT HPT HCS;refine⟨HG.o,?_⟩;simp only[Act.put,U,Aa,Ab];refine Reg.tk 18 (v:=?va34) rfl HG.o (fun w' hS=>?ha34) ?ra34
     case ha34=>go_simp<;>rfl
     simp only[Act.put,U,Aa,Ab];refine wpAnyH_done (by kernel_rfl) ?_ _
     go_wp2_with fail
     go_meet
     exact⟨PT,_,_,rfl,rfl,HGT.o⟩
   ·left
    have hb:Below wla9.heap.size wla9 (wla9.alloc (.cells reZ 38)):=(Below.refl _ _).alloc (Nat.le_refl _) _;have hnb:=Blk.new wla9 38 reZ;have HNEHG:=I (show g≠wla9.heap.size from Nat.ne_of_lt HG.o.lt);have HPT:=I (show w1.heap.size≤wla9.heap.size from HK.o.size);have HOT:=I (HK.o.st.offs (Nat.le_refl wla9.heap.size));refine⟨_,_,_,_,_,_,.pointer (some ⟨wla9.heap.size,0,none⟩),wla9.alloc (.cells reZ 38),rfl,by rfl,(by go_simp<;>rfl),(HG.o.below hb),?_⟩;simp only[Act.put,U,Aa,Ab];obtain⟨wta35,ewta35⟩:∃z,z=wla9.alloc (.cells reZ 38):=⟨_,rfl⟩;rw[←ewta35] at hb hnb⊢;clear ewta35;have HT:=I hnb;clear hnb;replace HG:=I (HG.o.below hb);replace HK:=I (HK.o.below hb);clear hb;obtain⟨PT,ePT⟩:∃z,z=wla9.heap.size:=⟨_,rfl⟩;rw[←ePT] at HT HPT HOT HNEHG⊢;clear ePT;refine Reg.Ad [5] (by kernel_rfl) (by simp) ?_;intro j0 hj0;obtain rfl:j0=5:=by simpa using hj0
    clear hj0
    right
    refine⟨_,_,_,_,_,_,28,#[.string ⟨rA.toArray⟩,.string ⟨rA.toArray⟩],rfl,by rfl,(by go_simp<;>first | rfl | exact⟨rfl,rfl⟩),?_⟩;refine Calls.mono (LAA.o _) ?_;rintro e wla36 ⟨rfl,hb⟩;replace HG:=I (HG.o.below hb);replace HK:=I (HK.o.below hb);replace HT:=I (HT.o.below hb);clear hb;refine⟨_,rfl,HG.o,?_⟩;simp only[Act.put,U,Aa,Ab];refine Reg.tk 8 (v:=.agg csQ) rfl HG.o (fun w' hS=>?ha37) ?ra37
    case ha37=>exact Rg.AU (by simp only[List.map_toArray,List.map_cons,List.map_nil];rfl) HBQ.o
    simp only[Act.put,U,Aa,Ab];refine Reg.Ad [11] (by kernel_rfl) (by simp) ?_;intro j0 hj0;obtain rfl:j0=11:=by simpa using hj0
    clear hj0
    right
    refine⟨_,_,_,_,_,_,18,#[.int .u8 (y.toNat:Int)],rfl,by rfl,(by go_simp<;>first | rfl | exact⟨rfl,rfl⟩),?_⟩;refine Calls.mono (CK.o _) ?_;rintro e wla38 ⟨rfl,hb⟩;replace HG:=I (HG.o.below hb);replace HK:=I (HK.o.below hb);replace HT:=I (HT.o.below hb);clear hb;refine⟨_,rfl,HG.o,?_⟩;simp only[Act.put,U,Aa,Ab];refine Reg.Ad [12] (by kernel_rfl) (by simp) ?_;intro j0 hj0;obtain rfl:j0=12:=by simpa using hj0
    clear hj0
    right
    refine⟨_,_,_,_,_,_,17,#[.pointer (some ⟨p.k,0,none⟩),.agg csQ,.int .i64 n,.agg cK],rfl,by rfl,(by go_simp<;>first | rfl | exact⟨rfl,rfl⟩),?_⟩;refine Calls.mono (CAS.o _ HK.o.st) ?_;rintro e waa39 ⟨cs,es2,rfl,hre,hk⟩;have HCS:=I (BO hre);have hnb:=hk.blk HG.o HOG.o.no;replace HOG:=I (hk.off HOG.o HG.o.lt);replace HG:=I hnb;clear hnb;have HRE:=I (FD hre HK.o.size HT.o.lt);have hnb:=hk.blk HT.o HOT.o.no;replace HOT:=I (hk.off HOT.o HT.o.lt);replace HT:=I hnb;clear hnb;replace HK:=I (HK.o.trans hk);clear hk hre;refine⟨_,rfl,HG.o,?_⟩;simp only[Act.put,U,Aa,Ab];refine Reg.tk 13 (v:=?va40) rfl HG.o (fun w' hS=>?ha40) ?ra40
    case ha40=>go_simp<;>rfl
    simp only[Act.put,U,Aa,Ab];refine Reg.tk 14 (v:=?va41) rfl HG.o (fun w' hS=>?ha41) ?ra41
    case ha41=>go_simp<;>rfl
    simp only[Act.put,U,Aa,Ab];refine Reg.tk 15 (v:=?va42) rfl HG.o (fun w' hS=>?ha42) ?ra42
    case ha42=>go_simp<;>rfl
    simp only[Act.put,U,Aa,Ab];refine Reg.AE 17 rfl (by kernel_rfl) (by rfl) PT 38 _ cs HT.o (by rfl) (by rfl) (by rw[HCS.o.1];rfl) (by rw[HCS.o.1];exact AI) HCS.o.2 ?_;intro Va43 hV hg;have HGT:=I (DI HK.o HRE.o HOT.o HPT.o hV hg);replace HG:=I (HG.o.grown hg (fun e=>by injection e with e;exact HNEHG.o e.symm));clear hV hg HT HK HRE HOT HPT HCS;refine⟨HG.o,?_⟩;simp only[Act.put,U,Aa,Ab];refine Reg.tk 18 (v:=?va44) rfl HG.o (fun w' hS=>?ha44) ?ra44
    case ha44=>go_simp<;>rfl
    simp only[Act.put,U,Aa,Ab];refine wpAnyH_done (by kernel_rfl) ?_ _
    go_wp2_with fail
    go_meet
    exact⟨PT,_,_,rfl,rfl,HGT.o⟩
  ·left
   have hb:Below w1.drew.heap.size w1.drew (w1.drew.alloc (.cells reZ 38)):=(Below.refl _ _).alloc (Nat.le_refl _) _;have hnb:=Blk.new w1.drew 38 reZ;have HNEHG:=I (show g≠w1.drew.heap.size from Nat.ne_of_lt HG.o.lt);have HPT:=I (show w1.heap.size≤w1.drew.heap.size from HK.o.size);have HOT:=I (HK.o.st.offs (Nat.le_refl w1.drew.heap.size));refine⟨_,_,_,_,_,_,.pointer (some ⟨w1.drew.heap.size,0,none⟩),w1.drew.alloc (.cells reZ 38),rfl,by rfl,(by go_simp<;>rfl),(HG.o.below hb),?_⟩;simp only[Act.put,U,Aa,Ab];obtain⟨wta45,ewta45⟩:∃z,z=w1.drew.alloc (.cells reZ 38):=⟨_,rfl⟩;rw[←ewta45] at hb hnb⊢;clear ewta45;have HT:=I hnb;clear hnb;replace HG:=I (HG.o.below hb);replace HK:=I (HK.o.below hb);clear hb;obtain⟨PT,ePT⟩:∃z,z=w1.drew.heap.size:=⟨_,rfl⟩;rw[←ePT] at HT HPT HOT HNEHG⊢;clear ePT;refine Reg.Ad [4] (by kernel_rfl) (by simp) ?_;intro j0 hj0;obtain rfl:j0=4:=by simpa using hj0
   clear hj0
   right
   refine⟨_,_,_,_,_,_,27,#[],rfl,by rfl,(by go_simp<;>first | rfl | exact⟨rfl,rfl⟩),?_⟩;refine Calls.mono (LC.o _) ?_;rintro e wla46 ⟨rfl,hb⟩;replace HG:=I (HG.o.below hb);replace HK:=I (HK.o.below hb);replace HT:=I (HT.o.below hb);clear hb;refine⟨_,rfl,HG.o,?_⟩;simp only[Act.put,U,Aa,Ab];refine Reg.Ad [5] (by kernel_rfl) (by simp) ?_;intro j0 hj0;obtain rfl:j0=5:=by simpa using hj0
   clear hj0
   right
   refine⟨_,_,_,_,_,_,28,#[.string ⟨rA.toArray⟩,.string ⟨rA.toArray⟩],rfl,by rfl,(by go_simp<;>first | rfl | exact⟨rfl,rfl⟩),?_⟩;refine Calls.mono (LAA.o _) ?_;rintro e wla47 ⟨rfl,hb⟩;replace HG:=I (HG.o.below hb);replace HK:=I (HK.o.below hb);replace HT:=I (HT.o.below hb);clear hb;refine⟨_,rfl,HG.o,?_⟩;simp only[Act.put,U,Aa,Ab];refine Reg.tk 8 (v:=.agg csQ) rfl HG.o (fun w' hS=>?ha48) ?ra48
   case ha48=>exact Rg.AU (by simp only[List.map_toArray,List.map_cons,List.map_nil];rfl) HBQ.o
   simp only[Act.put,U,Aa,Ab];refine Reg.Ad [11] (by kernel_rfl) (by simp) ?_;intro j0 hj0;obtain rfl:j0=11:=by simpa using hj0
   clear hj0
   right
   refine⟨_,_,_,_,_,_,18,#[.int .u8 (y.toNat:Int)],rfl,by rfl,(by go_simp<;>first | rfl | exact⟨rfl,rfl⟩),?_⟩;refine Calls.mono (CK.o _) ?_;rintro e wla49 ⟨rfl,hb⟩;replace HG:=I (HG.o.below hb);replace HK:=I (HK.o.below hb);replace HT:=I (HT.o.below hb);clear hb;refine⟨_,rfl,HG.o,?_⟩;simp only[Act.put,U,Aa,Ab];refine Reg.Ad [12] (by kernel_rfl) (by simp) ?_;intro j0 hj0;obtain rfl:j0=12:=by simpa using hj0
   clear hj0
   right
   refine⟨_,_,_,_,_,_,17,#[.pointer (some ⟨p.k,0,none⟩),.agg csQ,.int .i64 n,.agg cK],rfl,by rfl,(by go_simp<;>first | rfl | exact⟨rfl,rfl⟩),?_⟩;refine Calls.mono (CAS.o _ HK.o.st) ?_;rintro e waa50 ⟨cs,es2,rfl,hre,hk⟩;have HCS:=I (BO hre);have hnb:=hk.blk HG.o HOG.o.no;replace HOG:=I (hk.off HOG.o HG.o.lt);replace HG:=I hnb;clear hnb;have HRE:=I (FD hre HK.o.size HT.o.lt);have hnb:=hk.blk HT.o HOT.o.no;replace HOT:=I (hk.off HOT.o HT.o.lt);replace HT:=I hnb;clear hnb;replace HK:=I (HK.o.trans hk);clear hk hre;refine⟨_,rfl,HG.o,?_⟩;simp only[Act.put,U,Aa,Ab];refine Reg.tk 13 (v:=?va51) rfl HG.o (fun w' hS=>?ha51) ?ra51
   case ha51=>go_simp<;>rfl
   simp only[Act.put,U,Aa,Ab];refine Reg.tk 14 (v:=?va52) rfl HG.o (fun w' hS=>?ha52) ?ra52
   case ha52=>go_simp<;>rfl
   simp only[Act.put,U,Aa,Ab];refine Reg.tk 15 (v:=?va53) rfl HG.o (fun w' hS=>?ha53) ?ra53
   case ha53=>go_simp<;>rfl
   simp only[Act.put,U,Aa,Ab];refine Reg.AE 17 rfl (by kernel_rfl) (by rfl) PT 38 _ cs HT.o (by rfl) (by rfl) (by rw[HCS.o.1];rfl) (by rw[HCS.o.1];exact AI) HCS.o.2 ?_;intro Va54 hV hg;have HGT:=I (DI HK.o HRE.o HOT.o HPT.o hV hg);replace HG:=I (HG.o.grown hg (fun e=>by injection e with e;exact HNEHG.o e.symm));clear hV hg HT HK HRE HOT HPT HCS;refine⟨HG.o,?_⟩;simp only[Act.put,U,Aa,Ab];refine Reg.tk 18 (v:=?va55) rfl HG.o (fun w' hS=>?ha55) ?ra55
   case ha55=>go_simp<;>rfl
   simp only[Act.put,U,Aa,Ab];refine wpAnyH_done (by kernel_rfl) ?_ _
   go_wp2_with fail
   go_meet
   exact⟨PT,_,_,rfl,rfl,HGT.o⟩
 case rest=>
  obtain⟨PT,cs,es2,rfl,rfl,hgt⟩:=hcut;replace HBB:=I (HBB.o.trans ((hgt.kn.base HS0.o).mono HWB.o))
  by_cases hlt:u<n
  ·have hz:rr=(7,Ms.re0):=by rw[HX.o];exact fi_no H1.o H3.o H2.o hlt
   have hst:KS wc B p es2 none 0 0 4:=by have:=hgt.kn.st;rw[hz] at this;exact this
   have CI:=I (SA hst.k (by omega));replace HG:=I (hgt.kn.blk HG.o HOG.o.no);have kg0:=HG.o.cell 0;rw[hz];have tl:decide (u<n)=true:=decide_eq_true hlt;clear hst hz hgt hlt HKS HOG HIT HPR HPT0 HS0 HG0 CAS HX HER HEQ HKE CK HBQ H1 H2 H3
   go_wp2_with (first
    |(go_at_call 25;refine Calls.mono CI.o ?_;rintro e wi ⟨rfl,hw⟩;clear CI;subst hw)
    |(go_at_call 26;refine Calls.mono (KN.o _) ?_;rintro e wk ⟨rfl,hb⟩;clear KN;replace HBB:=HBB.t hb;clear hb)
    |fail)
   go_ret;exact⟨rfl,HBB.o⟩
  ·obtain⟨x1,x2,kv,hz,hmin,ho1,ho2⟩:=fi_ok (Rv y) H1.o H3.o H2.o hlt
   rw[←HX.o] at hz;have hre:=hgt.re;rw[hz] at hre;obtain⟨v1,v2,h5,h6,hv1,hv2⟩:=re_vs hre;have HSC:=I (show cs[0]? = some (.string ⟨pAnn.1.toArray⟩)∧cs[1]? = some (.string ⟨pAnn.2.toArray⟩) by obtain⟨b,a,rfl,_,_⟩:=hre;exact⟨rfl,rfl⟩);have HRB:=I hgt.blk;have HRO:=I hgt.off;have H5:=I h5;have H6:=I h6;have HV1:=I hv1;have HV2:=I hv2;have tl:decide (u<n)=false:=decide_eq_false hlt;obtain⟨en,een⟩:∃z,z=min u (n+1000):=⟨_,rfl⟩;rw[←een] at hmin ho1 ho2;have hp:ptB ⟨pAnn,kb y,[],n,en⟩=true:=YK H2.o hmin;have hr:rpB ⟨kb y,kr rA rA,n,en,o⟩=true:=YL H2.o hmin H3.o;have hkk:=Rv y;obtain⟨cP,ecP⟩:∃z,z=ptA ⟨pAnn,kb y,[],n,en⟩:=⟨_,rfl⟩;obtain⟨cR,ecR⟩:∃z,z=rpA ⟨kb y,kr rA rA,n,en,o⟩:=⟨_,rfl⟩;have HO1:=I ho1;have HO2:=I ho2;obtain⟨b1,eb1⟩:∃z,z=ptE ⟨pAnn,kb y,[],n,en⟩:=⟨_,rfl⟩;obtain⟨b2,eb2⟩:∃z,z=rpE ⟨kb y,kr rA rA,n,en,o⟩:=⟨_,rfl⟩;rw[←eb1] at HO1;rw[←eb2] at HO2;have CP:=I (fun(w2:World) (v:Value) (hv:SlN No w2 v b1)=>Ux (cP:=cP) hkk hp ecP (eb1▸hv));have CR:=I (fun(w2:World) (v:Value) (hv:SlN No w2 v b2)=>WZ (cP:=cR) hkk hr ecR (eb2▸hv));have HBP:=I (Gs hkk pAnn n en);have HBR:=I (NQ hkk (kr rA rA) n en o);rw[←ecP,←HKE.o] at HBP;rw[←ecR,←HKE.o] at HBR;have HPS:=I (show cP.size=37 by rw[ecP];exact Km hkk);have HPI:=I (show(Tryz.prog.info? 71).map (·.size)=some cP.size by rw[ecP];exact MA hkk);have HPO:=I (show cP.all (·.oneCell')=true by rw[ecP];exact RJ _);have HRS:=I (show cR.size=37 by rw[ecR];exact Ko hkk);have HRI:=I (show(Tryz.prog.info? 75).map (·.size)=some cR.size by rw[ecR];exact RL hkk);have HRO2:=I (show cR.all (·.oneCell')=true by rw[ecR];exact RK _);have QP:=I (show ∀w2,(Op.equalIn 10000 71 (.agg cP) (.agg cP)).run Tryz.prog w2 = .ok true w2 from fun w2=>ecP▸Mc.Ys _ hkk w2);have QR:=I (show ∀w2,(Op.equalIn 10000 75 (.agg cR) (.agg cR)).run Tryz.prog w2 = .ok true w2 from fun w2=>ecR▸Mc.Yt _ hkk w2);have QC:=I (Rg.Co (show pAnn=pAnn from rfl));have een3:min u (n+1000)=en:=een.symm;rw[hz];clear hz hmin ho1 ho2 hre h5 h6 hv1 hv2 hlt hp hr hkk ecP ecR eb1 eb2 hgt HKS HOG HIT HPR HPT0 HS0 HG0 CAS HX HER HEQ HBQ H1 H2 H3 HG een
   go_upto_region 9 with fail
   have hdr:Below wc.heap.size wc wc.drew:=below_drewN (Below.refl _ _) 1;replace HRB:=I (HRB.o.below hdr);replace HV1:=I (HV1.o.below hdr);replace HV2:=I (HV2.o.below hdr);replace HBB:=HBB.t hdr;clear hdr;refine Reg.AR (fun w'=>Blk w' PT 38 cs) 10 rfl (by kernel_rfl) HRB.o ?_;refine Reg.tk 1 (v:=?vb56) rfl HRB.o (fun w' hS=>?hb56) ?rb56
   case hb56=>go_simp<;>rfl
   simp only[Act.put,U,Aa,Ab];refine Reg.tk 2 (v:=?vb57) rfl HRB.o (fun w' hS=>?hb57) ?rb57
   case hb57=>go_simp<;>rfl
   simp only[Act.put,U,Aa,Ab];refine Reg.tk 3 (v:=v1) rfl HRB.o (fun w' hS=>?hb58) ?rb58
   case hb58=>have k0:=(Blk.cell hS 5).trans H5.o;go_simp<;>rfl
   simp only[Act.put,U,Aa,Ab];refine Reg.Ad [0] (by kernel_rfl) (by simp) ?_;intro j0 hj0;obtain rfl:j0=0:=by simpa using hj0
   clear hj0
   right
   refine⟨_,_,_,_,_,_,18,#[.int .u8 10],rfl,by rfl,(by go_simp<;>first | rfl | exact⟨rfl,rfl⟩),?_⟩;refine Calls.mono (K10.o _) ?_;rintro e wlb59 ⟨rfl,hb⟩;replace HRB:=I (HRB.o.below hb);replace HV1:=I (HV1.o.below hb);replace HV2:=I (HV2.o.below hb);replace HBB:=HBB.t hb;clear hb;refine⟨_,rfl,HRB.o,?_⟩;simp only[Act.put,U,Aa,Ab];refine Reg.Ad [4] (by kernel_rfl) (by simp) ?_;intro j0 hj0;obtain rfl:j0=4:=by simpa using hj0
   clear hj0
   right
   refine⟨_,_,_,_,_,_,29,#[.agg c10,.int .i64 2,v1],rfl,by rfl,(by go_simp<;>first | rfl | exact⟨rfl,rfl⟩),?_⟩;refine Calls.mono (Oh KE10.o HO1.o HV1.o) ?_;rintro e wlb60 ⟨v9,rfl,hs9,hb⟩;have HV9:=I hs9;clear hs9;replace HRB:=I (HRB.o.below hb);replace HV1:=I (HV1.o.below hb);replace HV2:=I (HV2.o.below hb);replace HBB:=HBB.t hb;clear hb;refine⟨_,rfl,HRB.o,?_⟩;simp only[Act.put,U,Aa,Ab];refine Reg.tk 5 (v:=?vb61) rfl HRB.o (fun w' hS=>?hb61) ?rb61
   case hb61=>go_simp<;>rfl
   simp only[Act.put,U,Aa,Ab];refine Reg.tk 6 (v:=?vb62) rfl HRB.o (fun w' hS=>?hb62) ?rb62
   case hb62=>go_simp<;>rfl
   simp only[Act.put,U,Aa,Ab];refine Reg.tk 7 (v:=?vb63) rfl HRB.o (fun w' hS=>?hb63) ?rb63
   case hb63=>go_simp<;>rfl
   simp only[Act.put,U,Aa,Ab];refine Reg.tk 8 (v:=?vb64) rfl HRB.o (fun w' hS=>?hb64) ?rb64
   case hb64=>go_simp<;>rfl
   simp only[Act.put,U,Aa,Ab];refine Reg.tk 9 (v:=?vb65) rfl HRB.o (fun w' hS=>?hb65) ?rb65
   case hb65=>go_simp<;>rfl
   simp only[Act.put,U,Aa,Ab];refine wpAnyH_done (by kernel_rfl) ?_ _
   go_upto_region 11 with(first
    |(go_at_call 30;refine Calls.mono (CP.o _ _ HV9.o) ?_;rintro e wp ⟨rfl,hb⟩;clear CP HV9;replace HRB:=I (HRB.o.below hb);replace HV2:=I (HV2.o.below hb);replace HBB:=HBB.t hb;clear hb)
    |(refine Wh.BY (by rfl) 71 (.tmp 14) (.tmp 89) (by rfl) 71 rfl cP (by rfl) (by rfl) (by rw[HPS.o];rfl) HPI.o HPO.o ?_;rintro V14 hV hb;have HP:=I hV;replace HRB:=I (HRB.o.below hb);replace HV2:=I (HV2.o.below hb);replace HBB:=HBB.t hb;clear hb hV)
    |fail)
   obtain⟨PP,ePP⟩:∃z,z=wp.heap.size:=⟨_,rfl⟩;rw[←ePP] at HP⊢;clear ePP;have HOP:=I True.intro;have hdr:Below V14.heap.size V14 V14.drew:=below_drewN (Below.refl _ _) 1;replace HRB:=I (HRB.o.below hdr);replace HV2:=I (HV2.o.below hdr);replace HP:=I (HP.o.below hdr);replace HBB:=HBB.t hdr;clear hdr;refine Reg.AR (fun w'=>Blk w' PT 38 cs) 9 rfl (by kernel_rfl) HRB.o ?_;refine Reg.tk 1 (v:=?vc66) rfl HRB.o (fun w' hS=>?hc66) ?rc66
   case hc66=>go_simp<;>rfl
   simp only[Act.put,U,Aa,Ab];refine Reg.tk 2 (v:=v2) rfl HRB.o (fun w' hS=>?hc67) ?rc67
   case hc67=>have k0:=(Blk.cell hS 6).trans H6.o;go_simp<;>rfl
   simp only[Act.put,U,Aa,Ab];refine Reg.Ad [0] (by kernel_rfl) (by simp) ?_;intro j0 hj0;obtain rfl:j0=0:=by simpa using hj0
   clear hj0
   right
   refine⟨_,_,_,_,_,_,18,#[.int .u8 13],rfl,by rfl,(by go_simp<;>first | rfl | exact⟨rfl,rfl⟩),?_⟩;refine Calls.mono (K13.o _) ?_;rintro e wlc68 ⟨rfl,hb⟩;replace HRB:=I (HRB.o.below hb);replace HV2:=I (HV2.o.below hb);replace HP:=I (HP.o.below hb);replace HBB:=HBB.t hb;clear hb;refine⟨_,rfl,HRB.o,?_⟩;simp only[Act.put,U,Aa,Ab];refine Reg.Ad [3] (by kernel_rfl) (by simp) ?_;intro j0 hj0;obtain rfl:j0=3:=by simpa using hj0
   clear hj0
   right
   refine⟨_,_,_,_,_,_,29,#[.agg c13,.int .i64 3,v2],rfl,by rfl,(by go_simp<;>first | rfl | exact⟨rfl,rfl⟩),?_⟩;refine Calls.mono (Oh KE13.o HO2.o HV2.o) ?_;rintro e wlc69 ⟨v9,rfl,hs9,hb⟩;have HV9:=I hs9;clear hs9;replace HRB:=I (HRB.o.below hb);replace HV2:=I (HV2.o.below hb);replace HP:=I (HP.o.below hb);replace HBB:=HBB.t hb;clear hb;refine⟨_,rfl,HRB.o,?_⟩;simp only[Act.put,U,Aa,Ab];refine Reg.tk 4 (v:=?vc70) rfl HRB.o (fun w' hS=>?hc70) ?rc70
   case hc70=>go_simp<;>rfl
   simp only[Act.put,U,Aa,Ab];refine Reg.tk 5 (v:=?vc71) rfl HRB.o (fun w' hS=>?hc71) ?rc71
   case hc71=>go_simp<;>rfl
   simp only[Act.put,U,Aa,Ab];refine Reg.tk 6 (v:=?vc72) rfl HRB.o (fun w' hS=>?hc72) ?rc72
   case hc72=>go_simp<;>rfl
   simp only[Act.put,U,Aa,Ab];refine Reg.tk 7 (v:=?vc73) rfl HRB.o (fun w' hS=>?hc73) ?rc73
   case hc73=>go_simp<;>rfl
   simp only[Act.put,U,Aa,Ab];refine Reg.tk 8 (v:=?vc74) rfl HRB.o (fun w' hS=>?hc74) ?rc74
   case hc74=>go_simp<;>rfl
   simp only[Act.put,U,Aa,Ab];refine wpAnyH_done (by kernel_rfl) ?_ _
   go_upto_region 13 with(first
    |(go_at_call 31;refine Calls.mono (CR.o _ _ HV9.o) ?_;rintro e wp ⟨rfl,hb⟩;clear CR HV9;replace HRB:=I (HRB.o.below hb);replace HP:=I (HP.o.below hb);replace HBB:=HBB.t hb;clear hb)
    |(refine Wh.BY (by rfl) 75 (.tmp 18) (.tmp 101) (by rfl) 75 rfl cR (by rfl) (by rfl) (by rw[HRS.o];rfl) HRI.o HRO2.o ?_;rintro V18 hV hb;have HR:=I hV;replace HRB:=I (HRB.o.below hb);replace HP:=I (HP.o.below hb);replace HBB:=HBB.t hb;clear hb hV)
    |fail)
   obtain⟨PR,ePR⟩:∃z,z=wp.heap.size:=⟨_,rfl⟩;rw[←ePR] at HR⊢;clear ePR;have HOR:=I True.intro;have g1:=Z1.o.1;have g2:=Z1.o.2;have g3:=Z2.o.1;have g4:=Z2.o.2
   go_upto_region 14 with fail
   clear g1 g2 g3 g4 een3;have hdr:Below V18.heap.size V18 V18.drew:=below_drewN (Below.refl _ _) 1;replace HRB:=I (HRB.o.below hdr);replace HP:=I (HP.o.below hdr);replace HR:=I (HR.o.below hdr);replace HBB:=HBB.t hdr;clear hdr;refine Reg.AR (fun w'=>Blk w' PT 38 cs∧Blk w' PP 71 cP∧Blk w' PR 75 cR) 43 rfl (by kernel_rfl) ⟨HRB.o,HP.o,HR.o⟩ ?_;refine Reg.tk 0 (v:=?vd75) rfl ⟨HRB.o,HP.o,HR.o⟩ (fun w' hS=>?hd75) ?rd75
   case hd75=>go_simp<;>rfl
   simp only[Act.put,U,Aa,Ab];refine Reg.tk 1 (v:=?vd76) rfl ⟨HRB.o,HP.o,HR.o⟩ (fun w' hS=>?hd76) ?rd76
   case hd76=>go_simp<;>rfl
   simp only[Act.put,U,Aa,Ab];refine Reg.tk 2 (v:=?vd77) rfl ⟨HRB.o,HP.o,HR.o⟩ (fun w' hS=>?hd77) ?rd77
   case hd77=>go_simp<;>rfl
   simp only[Act.put,U,Aa,Ab];refine Reg.tk 3 (v:=?vd78) rfl ⟨HRB.o,HP.o,HR.o⟩ (fun w' hS=>?hd78) ?rd78
   case hd78=>go_simp<;>rfl
   simp only[Act.put,U,Aa,Ab];refine Reg.tk 4 (v:=?vd79) rfl ⟨HRB.o,HP.o,HR.o⟩ (fun w' hS=>?hd79) ?rd79
   case hd79=>go_simp<;>rfl
   simp only[Act.put,U,Aa,Ab];refine Reg.tk 5 (v:=?vd80) rfl ⟨HRB.o,HP.o,HR.o⟩ (fun w' hS=>?hd80) ?rd80
   case hd80=>go_simp<;>rfl
   simp only[Act.put,U,Aa,Ab];refine Reg.tk 6 (v:=?vd81) rfl ⟨HRB.o,HP.o,HR.o⟩ (fun w' hS=>?hd81) ?rd81
   case hd81=>go_simp<;>rfl
   simp only[Act.put,U,Aa,Ab];refine Reg.tk 7 (v:=?vd82) rfl ⟨HRB.o,HP.o,HR.o⟩ (fun w' hS=>?hd82) ?rd82
   case hd82=>go_simp<;>rfl
   simp only[Act.put,U,Aa,Ab];refine Reg.tk 8 (v:=?vd83) rfl ⟨HRB.o,HP.o,HR.o⟩ (fun w' hS=>?hd83) ?rd83
   case hd83=>go_simp<;>rfl
   simp only[Act.put,U,Aa,Ab];refine Reg.tk 9 (v:=?vd84) rfl ⟨HRB.o,HP.o,HR.o⟩ (fun w' hS=>?hd84) ?rd84
   case hd84=>go_simp<;>rfl
   simp only[Act.put,U,Aa,Ab];refine Reg.tk 10 (v:=?vd85) rfl ⟨HRB.o,HP.o,HR.o⟩ (fun w' hS=>?hd85) ?rd85
   case hd85=>go_simp<;>rfl
   simp only[Act.put,U,Aa,Ab];refine Reg.tk 11 (v:=?vd86) rfl ⟨HRB.o,HP.o,HR.o⟩ (fun w' hS=>?hd86) ?rd86
   case hd86=>go_simp<;>rfl
   simp only[Act.put,U,Aa,Ab];refine Reg.tk 12 (v:=?vd87) rfl ⟨HRB.o,HP.o,HR.o⟩ (fun w' hS=>?hd87) ?rd87
   case hd87=>go_simp<;>rfl
   simp only[Act.put,U,Aa,Ab];refine Reg.tk 13 (v:=.agg cP) rfl ⟨HRB.o,HP.o,HR.o⟩ (fun w' hS=>?hd88) ?rd88
   case hd88=>exact Wh.AS (.tmp 14) rfl rfl hS.2.1 Tryz.underlying71 rfl HPI.o
   simp only[Act.put,U,Aa,Ab];refine Reg.tk 15 (v:=?vd89) rfl ⟨HRB.o,HP.o,HR.o⟩ (fun w' hS=>?hd89) ?rd89
   case hd89=>go_simp<;>rfl
   simp only[Act.put,U,Aa,Ab];refine Reg.tk 17 (v:=?vd90) rfl ⟨HRB.o,HP.o,HR.o⟩ (fun w' hS=>?hd90) ?rd90
   case hd90=>go_simp<;>rfl
   simp only[Act.put,U,Aa,Ab];refine Reg.tk 18 (v:=?vd91) rfl ⟨HRB.o,HP.o,HR.o⟩ (fun w' hS=>?hd91) ?rd91
   case hd91=>go_simp<;>rfl
   simp only[Act.put,U,Aa,Ab];refine Reg.Ad [14] (by kernel_rfl) (by simp) ?_;intro j0 hj0;obtain rfl:j0=14:=by simpa using hj0
   clear hj0
   right
   refine⟨_,_,_,_,_,_,27,#[],rfl,by rfl,(by go_simp<;>first | rfl | exact⟨rfl,rfl⟩),?_⟩;refine Calls.mono (LC.o _) ?_;rintro e wld92 ⟨rfl,hb⟩;replace HRB:=I (HRB.o.below hb);replace HP:=I (HP.o.below hb);replace HR:=I (HR.o.below hb);replace HBB:=HBB.t hb;clear hb;refine⟨_,rfl,⟨HRB.o,HP.o,HR.o⟩,?_⟩;simp only[Act.put,U,Aa,Ab];refine Reg.Ad [16] (by kernel_rfl) (by simp) ?_;intro j0 hj0;obtain rfl:j0=16:=by simpa using hj0
   clear hj0
   right
   refine⟨_,_,_,_,_,_,18,#[.int .u8 (y.toNat:Int)],rfl,by rfl,(by go_simp<;>first | rfl | exact⟨rfl,rfl⟩),?_⟩;refine Calls.mono (CK.o _) ?_;rintro e wld93 ⟨rfl,hb⟩;replace HRB:=I (HRB.o.below hb);replace HP:=I (HP.o.below hb);replace HR:=I (HR.o.below hb);replace HBB:=HBB.t hb;clear hb;refine⟨_,rfl,⟨HRB.o,HP.o,HR.o⟩,?_⟩;simp only[Act.put,U,Aa,Ab];refine Reg.tk 19 (v:=.agg cP) rfl ⟨HRB.o,HP.o,HR.o⟩ (fun w' hS=>?hd94) ?rd94
   case hd94=>exact Rg.AU (by simp only[List.map_toArray,List.map_cons,List.map_nil];rfl) HBP.o
   simp only[Act.put,U,Aa,Ab];refine Reg.tk 20 (v:=.bool true) rfl ⟨HRB.o,HP.o,HR.o⟩ (fun w' hS=>?hd95) ?rd95
   case hd95=>have h1:=QP.o;go_simp<;>rfl
   simp only[Act.put,U,Aa,Ab];refine Reg.tk 21 (v:=?vd96) rfl ⟨HRB.o,HP.o,HR.o⟩ (fun w' hS=>?hd96) ?rd96
   case hd96=>go_simp<;>rfl
   simp only[Act.put,U,Aa,Ab];refine Reg.tk 22 (v:=?vd97) rfl ⟨HRB.o,HP.o,HR.o⟩ (fun w' hS=>?hd97) ?rd97
   case hd97=>go_simp<;>rfl
   simp only[Act.put,U,Aa,Ab];refine Reg.tk 23 (v:=.agg cR) rfl ⟨HRB.o,HP.o,HR.o⟩ (fun w' hS=>?hd98) ?rd98
   case hd98=>exact Wh.AS (.tmp 18) rfl rfl hS.2.2 Tryz.underlying75 rfl HRI.o
   simp only[Act.put,U,Aa,Ab];refine Reg.tk 24 (v:=?vd99) rfl ⟨HRB.o,HP.o,HR.o⟩ (fun w' hS=>?hd99) ?rd99
   case hd99=>go_simp<;>rfl
   simp only[Act.put,U,Aa,Ab];refine Reg.tk 27 (v:=?vd100) rfl ⟨HRB.o,HP.o,HR.o⟩ (fun w' hS=>?hd100) ?rd100
   case hd100=>go_simp<;>rfl
   simp only[Act.put,U,Aa,Ab];refine Reg.tk 28 (v:=?vd101) rfl ⟨HRB.o,HP.o,HR.o⟩ (fun w' hS=>?hd101) ?rd101
   case hd101=>go_simp<;>rfl
   simp only[Act.put,U,Aa,Ab];refine Reg.tk 29 (v:=?vd102) rfl ⟨HRB.o,HP.o,HR.o⟩ (fun w' hS=>?hd102) ?rd102
   case hd102=>go_simp<;>rfl
   simp only[Act.put,U,Aa,Ab];refine Reg.Ad [25] (by kernel_rfl) (by simp) ?_;intro j0 hj0;obtain rfl:j0=25:=by simpa using hj0
   clear hj0
   right
   refine⟨_,_,_,_,_,_,18,#[.int .u8 (y.toNat:Int)],rfl,by rfl,(by go_simp<;>first | rfl | exact⟨rfl,rfl⟩),?_⟩;refine Calls.mono (CK.o _) ?_;rintro e wld103 ⟨rfl,hb⟩;replace HRB:=I (HRB.o.below hb);replace HP:=I (HP.o.below hb);replace HR:=I (HR.o.below hb);replace HBB:=HBB.t hb;clear hb;refine⟨_,rfl,⟨HRB.o,HP.o,HR.o⟩,?_⟩;simp only[Act.put,U,Aa,Ab];refine Reg.Ad [26] (by kernel_rfl) (by simp) ?_;intro j0 hj0;obtain rfl:j0=26:=by simpa using hj0
   clear hj0
   right
   refine⟨_,_,_,_,_,_,28,#[.string ⟨rA.toArray⟩,.string ⟨rA.toArray⟩],rfl,by rfl,(by go_simp<;>first | rfl | exact⟨rfl,rfl⟩),?_⟩;refine Calls.mono (LAA.o _) ?_;rintro e wld104 ⟨rfl,hb⟩;replace HRB:=I (HRB.o.below hb);replace HP:=I (HP.o.below hb);replace HR:=I (HR.o.below hb);replace HBB:=HBB.t hb;clear hb;refine⟨_,rfl,⟨HRB.o,HP.o,HR.o⟩,?_⟩;simp only[Act.put,U,Aa,Ab];refine Reg.tk 30 (v:=.agg cR) rfl ⟨HRB.o,HP.o,HR.o⟩ (fun w' hS=>?hd105) ?rd105
   case hd105=>exact Rg.AU (by simp only[List.map_toArray,List.map_cons,List.map_nil];rfl) HBR.o
   simp only[Act.put,U,Aa,Ab];refine Reg.tk 31 (v:=.bool true) rfl ⟨HRB.o,HP.o,HR.o⟩ (fun w' hS=>?hd106) ?rd106
   case hd106=>have h1:=QR.o;go_simp<;>rfl
   simp only[Act.put,U,Aa,Ab];refine Reg.tk 32 (v:=?vd107) rfl ⟨HRB.o,HP.o,HR.o⟩ (fun w' hS=>?hd107) ?rd107
   case hd107=>go_simp<;>rfl
   simp only[Act.put,U,Aa,Ab];refine Reg.tk 33 (v:=?vd108) rfl ⟨HRB.o,HP.o,HR.o⟩ (fun w' hS=>?hd108) ?rd108
   case hd108=>go_simp<;>rfl
   simp only[Act.put,U,Aa,Ab];refine Reg.tk 34 (v:=?vd109) rfl ⟨HRB.o,HP.o,HR.o⟩ (fun w' hS=>?hd109) ?rd109
   case hd109=>go_simp<;>rfl
   simp only[Act.put,U,Aa,Ab];refine Reg.tk 35 (v:=prV pAnn) rfl ⟨HRB.o,HP.o,HR.o⟩ (fun w' hS=>?hd110) ?rd110
   case hd110=>have k0:=(Blk.cell hS.1 0).trans HSC.o.1;have k1:=(Blk.cell hS.1 1).trans HSC.o.2;go_simp<;>rfl
   simp only[Act.put,U,Aa,Ab];refine Reg.Ad [36] (by kernel_rfl) (by simp) ?_;intro j0 hj0;obtain rfl:j0=36:=by simpa using hj0
   clear hj0
   right
   refine⟨_,_,_,_,_,_,27,#[],rfl,by rfl,(by go_simp<;>first | rfl | exact⟨rfl,rfl⟩),?_⟩;refine Calls.mono (LC.o _) ?_;rintro e wld111 ⟨rfl,hb⟩;replace HRB:=I (HRB.o.below hb);replace HP:=I (HP.o.below hb);replace HR:=I (HR.o.below hb);replace HBB:=HBB.t hb;clear hb;refine⟨_,rfl,⟨HRB.o,HP.o,HR.o⟩,?_⟩;simp only[Act.put,U,Aa,Ab];refine Reg.tk 37 (v:=.bool true) rfl ⟨HRB.o,HP.o,HR.o⟩ (fun w' hS=>?hd112) ?rd112
   case hd112=>have h1:=QC.o;go_simp<;>rfl
   simp only[Act.put,U,Aa,Ab];refine Reg.tk 38 (v:=?vd113) rfl ⟨HRB.o,HP.o,HR.o⟩ (fun w' hS=>?hd113) ?rd113
   case hd113=>go_simp<;>rfl
   simp only[Act.put,U,Aa,Ab];refine Reg.tk 39 (v:=?vd114) rfl ⟨HRB.o,HP.o,HR.o⟩ (fun w' hS=>?hd114) ?rd114
   case hd114=>go_simp<;>rfl
   simp only[Act.put,U,Aa,Ab];refine Reg.Ad [40] (by kernel_rfl) (by simp) ?_;intro j0 hj0;obtain rfl:j0=40:=by simpa using hj0
   clear hj0
   right
   refine⟨_,_,_,_,_,_,26,#[],rfl,by rfl,(by go_simp<;>first | rfl | exact⟨rfl,rfl⟩),?_⟩;refine Calls.mono (KN.o _) ?_;rintro e wld115 ⟨rfl,hb⟩;replace HRB:=I (HRB.o.below hb);replace HP:=I (HP.o.below hb);replace HR:=I (HR.o.below hb);replace HBB:=HBB.t hb;clear hb;refine⟨_,rfl,⟨HRB.o,HP.o,HR.o⟩,?_⟩;simp only[Act.put,U,Aa,Ab];refine Reg.tk 41 (v:=?vd116) rfl ⟨HRB.o,HP.o,HR.o⟩ (fun w' hS=>?hd116) ?rd116
   case hd116=>go_simp<;>rfl
   simp only[Act.put,U,Aa,Ab];refine Reg.tk 42 (v:=?vd117) rfl ⟨HRB.o,HP.o,HR.o⟩ (fun w' hS=>?hd117) ?rd117
   case hd117=>go_simp<;>rfl
   simp only[Act.put,U,Aa,Ab];refine wpAnyH_done (by kernel_rfl) ?_ _
   go_wp2_with fail
   go_ret;exact⟨rfl,HBB.o⟩
theorem fi (u n o:Int) (y:UInt8) (w:World) {P1 P2 P3 P4:Prop} (_:P1) (_:P2) (_:P3) (_:P4):Calls Tryz.prog 4 #[.int .i64 u,.int .i64 n,.int .i64 o,.int .u8 (y.toNat:Int)] w fun e w'=>e = .returned (.bool true)∧Below w.heap.size w w':=by
 by_cases h:u<0∨1073741824<u∨n<0∨1073741824<n∨o<0∨1073741824<o
 ·exact fi_x u n o y w h
 ·have g:∀z:Int,0≤z∧z≤1073741824→tmB z=true:=fun z hz=>by simp [tmB,Ms.inB];omega
  exact fi_in u n o y w (g u (by omega)) (g n (by omega)) (g o (by omega)) (by omega) (by omega) (by omega)
end Kd
end
end Go.Proofs.YtfcjeebnkigeaaaGreat
