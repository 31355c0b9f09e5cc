import Derived.Test.YtlchkbpffaclmaaGreatZKdcTills22
import Derived.Test.YtlchkbpffaclmaaGreatZKdcTills23
set_option maxHeartbeats 25600000
set_option maxRecDepth 100000
set_option linter.unusedVariables false
set_option linter.unusedSimpArgs false
namespace Go.Proofs.YtlchkbpffaclmaaGreat
namespace Kd
open Go.RowKit Af Se
open Ms (Re Pt Rp reC ptB rpB ptE rpE)
open SeL (AN)
abbrev No (_:Nat):Prop:=False
theorem aJ {w:World} {A:Option Addr} {c:Nat} {l:Nm.L} (hc:l.length<=c) (h:Rd w w.heap.size A (bvs l)):SlN No w (.slice A l.length c) l:=⟨A,c,rfl,hc,RdA.of_rd h Ag (fun _ x=>x.elim)⟩
theorem Vz {ks:Nat->UInt8} {u:Int} {x y:Nm.L} {cK:Array Value} {v:Value} {w:World} {S:Nat->Prop} (eK:cK=AO ks) (ex:AN ks u y=(x,0)) (hv:SlN S w v y) :
  Calls Tryz.prog 12 #[.agg cK,.int .i64 u,v] w fun e w'=>∃v2,e=.returned (.tuple #[v2,.int .i64 0])/\SlN No w' v2 x/\Below w.heap.size w w':=by
 subst eK;obtain⟨A,c,rfl,hc,hr⟩:=hv.sl;refine(ZF ks u A y.length c y w rfl hc hr).mono ?_;rintro e w' ⟨A2,c2,rfl,h1,_,h2,hb⟩;rw[ex] at h1 h2⊢;exact⟨_,rfl,aJ h1 h2,hb⟩
theorem VA {P:Pt} {cP:Array Value} {v:Value} {w:World} {S:Nat->Prop} (hk:P.ss.length=32) (hp:ptB P=true) (eP:cP=ptA P) (hv:SlN S w v (ptE P)) :
  Calls Tryz.prog 13 #[v] w fun e w'=>e=.returned (.tuple #[.agg cP,.int .i64 0])/\Below w.heap.size w w':=by
 subst eP;obtain⟨A,c,rfl,hc,hr⟩:=hv.sl;have:=Mc.Mq (ptE P) A c w hr hc (by have:=Hr hk hp;omega);have h:=Sw hk hp;rw[show Mc.ptG (ptE P)=P by rw[Mc.ptG,h];rfl,show Mc.ptI (ptE P)=0 by simp [Mc.ptI,h]] at this;exact this
theorem re_vs {S:Nat->Prop} {w:World} {cs:Array Value} {x:Re} (h:ReN S w cs x):∃v1 v2,cs[5]? = some v1/\cs[6]? = some v2/\SlN No w v1 x.t.b/\SlN No w v2 x.b:=by
 obtain⟨b,a,rfl,h1,h2⟩:=h;exact⟨b,a,rfl,rfl,h1.mono (fun _ _ x=>x.elim),h2.mono (fun _ _ x=>x.elim)⟩
end Kd
namespace Kd
open Go.RowKit Af Se
open Rg (It Ent Ring RO DRing DO Ap its)
open Ms (Re As Tg Pt An Rp pSm reC ptB anB prB tmB ptE)
open SeL (Bd AN)
abbrev tlX (st en u nw:Int):Int×Re:=tgsL rA tT itA 0 (reqQ (kr rA rA) (kq 10) ⟨pAnn,kb 5,[],st,en⟩ ⟨pAnn,nw,0⟩ BU u) nw (kb 6)
theorem aK {nw:Int} (h:tmB nw=true):anB ⟨pAnn,nw,0⟩=true:=by
 have h3:prB pAnn=true:=by decide +kernel
 simp [anB,h3,h];decide
theorem key_m:keyL itA BU=kq 14:=by unfold keyL;rw[show Rg.Bz itA BU=some 4 by decide +kernel];rfl
theorem aL {st en u nw:Int} (h1:tmB st=true) (h2:tmB en=true) (h3:tmB u=true) (h4:tmB nw=true) :
  tlX st en u nw=if en<nw then (7,Ms.re0) else if nw+5<st then (8,Ms.re0) else if u<nw then (7,Ms.re0) else ansL itA 0 pAnn BU ⟨pAnn,kb 6,[],nw,min u en⟩ 4 (ksOf (kb 5)) 8:=by
 rw[tlX,Yq h1 h2 (aK h4) (by decide +kernel) h3 h4,show tarL rA tT itA BU=(0,BU) by decide +kernel,if_pos (show pAnn=pAnn from rfl),if_neg (show ¬(nw<nw - 5\/nw+5<nw) by omega),if_pos rfl]
theorem aM {n e:Int} (h1:tmB n=true) (h2:tmB e=true):ptB ⟨pAnn,kb 6,[],n,e⟩=true:=by
 have g1:prB pAnn=true:=by decide +kernel
 simp [ptB,g1,h1,h2,Ms.txtB]
theorem tl_ok {st en u nw:Int} (h1:tmB st=true) (h2:tmB en=true) (h3:tmB u=true) (h4:tmB nw=true) (g1:¬en<nw) (g2:¬nw+5<st) (g3:¬u<nw):∃y1 y2:Nm.L,∃k:Nat,tlX st en u nw=(0,⟨pAnn,⟨BU,k,y1⟩,y2⟩)/\tmB (min u en)=true/\AN (kq 14) 2 y1=(ptE ⟨pAnn,kb 6,[],nw,min u en⟩,0):=by
 have he:tmB (min u en)=true:=by
  rcases Int.le_total u en with g | g
  ·rw[Int.min_eq_left g];exact h3
  ·rw[Int.min_eq_right g];exact h2
 have hp:=aM h4 he;have hr:Ms.rpB (rpOf ⟨pAnn,kb 6,[],nw,min u en⟩ BU 4)=true:=by
  have g1:prB BU=true:=by decide +kernel
  simp [rpOf,Ms.rpB,g1,h4,he];decide
 have l1:=Hr (p:=⟨pAnn,kb 6,[],nw,min u en⟩) (Kb 6) hp;have hans:=Zy (l:=itA) (n:=0) (c:=pAnn) (s:=BU) (no:=4) (ks:=ksOf (kb 5)) (u:=8) (Kb 6) hp hr;refine⟨_,_,_,(show tlX st en u nw=_ by rw[aL h1 h2 h3 h4,if_neg g1,if_neg g2,if_neg g3];exact hans),he,?_⟩;rw[key_m];exact Fu (by omega) (by decide) (by decide) (by decide) (by decide)
theorem VB (p:Nm.L×Nm.L) (t:Int):Tryz.prog.built 41 [(0,prV p),(1,.int .i64 t)]=some (anA ⟨p,t,0⟩):=by kernel_rfl
theorem OR {P:Program} {ops:Array Oper} {rest:List Oper} {o:Oper} {a:Act} {w:World} {Q:Exit->Act->World->Prop} (hg:o.guard=none) (t:TypeId) (parts:Array (Nat×Operand)) (ho:o.op=.build t parts) {vs:List (Nat×Value)} {cells:Array Value}
  (hv:(parts.map fun x=>(x.1,a.eval x.2)).toList=vs) (h:P.built t vs=some cells) (hk:wpList P ops Q rest (a.put o.dst (.agg cells)) w):wpList P ops Q (o :: rest) a w:=by
 refine wpList_plain hg fun _ hK=>?_
 have:=run_build (P:=P) w t (parts.map fun x=>(x.1,a.eval x.2)) cells (by rw[hv];exact h);unfold Oper.wp execOp;simp only[ho,Sem.run_bind,this,Result.andThen_ok];exact hK _ _ hk
theorem VC {P:Pt} (h:P.ss.length=32):(ptA P)[35]? = some (.int .i64 P.st)/\(ptA P)[36]? = some (.int .i64 P.en):=by
 have e:(ptA P)=(Ms.prC P.c++(bvs P.ss++([.string ⟨P.tr.toArray⟩,.int .i64 P.st,.int .i64 P.en]:List Value))).toArray:=rfl;rw[e];constructor
 ·rw[List.getElem?_toArray,List.getElem?_append_right (by simp [Ms.prC]),List.getElem?_append_right (by simp [Ms.prC,bvs,h])];simp [Ms.prC,bvs,h]
 ·rw[List.getElem?_toArray,List.getElem?_append_right (by simp [Ms.prC]),List.getElem?_append_right (by simp [Ms.prC,bvs,h])];simp [Ms.prC,bvs,h]
theorem Ys (st en u nw:Int) (w:World) (h:st<0\/200<st\/en<0\/200<en\/u<0\/200<u\/nw<0\/200<nw):Calls Tryz.prog 3 #[.int .i64 st,.int .i64 en,.int .i64 u,.int .i64 nw] w fun e w'=>e=.returned (.bool true)/\Below w.heap.size w w':=by
 by_cases g0:st<0
 ·have t0:decide (st<0)=true:=decide_eq_true g0
  clear g0 h;go_enter Tryz.func3,Tryz.ntmps3
  go_wp2
  go_ret;exact⟨rfl,Below.refl _ _⟩
 have t0:decide (st<0)=false:=decide_eq_false g0
 by_cases g1:200<st
 ·have t1:decide (200<st)=true:=decide_eq_true g1
  clear g0 g1 h;go_enter Tryz.func3,Tryz.ntmps3
  go_wp2
  go_ret;exact⟨rfl,Below.refl _ _⟩
 have t1:decide (200<st)=false:=decide_eq_false g1
 by_cases g2:en<0
 ·have t2:decide (en<0)=true:=decide_eq_true g2
  clear g0 g1 g2 h;go_enter Tryz.func3,Tryz.ntmps3
  go_wp2
  go_ret;exact⟨rfl,Below.refl _ _⟩
 have t2:decide (en<0)=false:=decide_eq_false g2
 by_cases g3:200<en
 ·have t3:decide (200<en)=true:=decide_eq_true g3
  clear g0 g1 g2 g3 h;go_enter Tryz.func3,Tryz.ntmps3
  go_wp2
  go_ret;exact⟨rfl,Below.refl _ _⟩
 have t3:decide (200<en)=false:=decide_eq_false g3
 by_cases g4:u<0
 ·have t4:decide (u<0)=true:=decide_eq_true g4
  clear g0 g1 g2 g3 g4 h;go_enter Tryz.func3,Tryz.ntmps3
  go_wp2
  go_ret;exact⟨rfl,Below.refl _ _⟩
 have t4:decide (u<0)=false:=decide_eq_false g4
 by_cases g5:200<u
 ·have t5:decide (200<u)=true:=decide_eq_true g5
  clear g0 g1 g2 g3 g4 g5 h;go_enter Tryz.func3,Tryz.ntmps3
  go_wp2
  go_ret;exact⟨rfl,Below.refl _ _⟩
 have t5:decide (200<u)=false:=decide_eq_false g5
 by_cases g6:nw<0
 ·have t6:decide (nw<0)=true:=decide_eq_true g6
  clear g0 g1 g2 g3 g4 g5 g6 h;go_enter Tryz.func3,Tryz.ntmps3
  go_wp2
  go_ret;exact⟨rfl,Below.refl _ _⟩
 have t6:decide (nw<0)=false:=decide_eq_false g6
 by_cases g7:200<nw
 ·have t7:decide (200<nw)=true:=decide_eq_true g7
  clear g0 g1 g2 g3 g4 g5 g6 g7 h;go_enter Tryz.func3,Tryz.ntmps3
  go_wp2
  go_ret;exact⟨rfl,Below.refl _ _⟩
 have t7:decide (200<nw)=false:=decide_eq_false g7;omega
theorem VD (st en u nw:Int) (w:World) (h0:¬st<0) (h1:¬200<st) (h2:¬en<0) (h3:¬200<en) (h4:¬u<0) (h5:¬200<u) (h6:¬nw<0) (h7:¬200<nw):Calls Tryz.prog 3 #[.int .i64 st,.int .i64 en,.int .i64 u,.int .i64 nw] w fun e w'=>e=.returned (.bool true)/\Below w.heap.size w w':=by
 have tm:∀z:Int,¬z<0->¬200<z->tmB z=true:=fun z a b=>by simp [tmB,Ms.inB];omega
 have b1:=tm st h0 h1;have b2:=tm en h2 h3;have b3:=tm u h4 h5;have b4:=tm nw h6 h7;have CB:=I (fun(w1:World)=>TC w1);have LC:=I (fun(w1:World)=>Lh w1);have LS:=I (fun(w1:World)=>JC w1);have LAA:=I (fun(w1:World)=>NH rA rA (by decide) w1);have LAE:=I (fun(w1:World)=>NH rA rE (by decide) w1);have KN:=I (fun(w1:World)=>Vt w1);obtain⟨c10,ec10⟩:=Ak (AO (kq 10));have K10:=I (show ∀w1:World,Calls Tryz.prog 7 #[.int .u8 10] w1 fun e w'=>e=.returned (.agg c10)/\Below w1.heap.size w1 w' by intro w1;rw[ec10];exact Qq 10 w1);have KE10:=I ec10;clear ec10;obtain⟨c5,ec5⟩:=Ak (AO (kq 5));have K5:=I (show ∀w1:World,Calls Tryz.prog 7 #[.int .u8 5] w1 fun e w'=>e=.returned (.agg c5)/\Below w1.heap.size w1 w' by intro w1;rw[ec5];exact Qq 5 w1);have KE5:=I ec5;clear ec5;obtain⟨c6,ec6⟩:=Ak (AO (kq 6));have K6:=I (show ∀w1:World,Calls Tryz.prog 7 #[.int .u8 6] w1 fun e w'=>e=.returned (.agg c6)/\Below w1.heap.size w1 w' by intro w1;rw[ec6];exact Qq 6 w1);have KE6:=I ec6;clear ec6;obtain⟨c14,ec14⟩:=Ak (AO (kq 14));have K14:=I (show ∀w1:World,Calls Tryz.prog 7 #[.int .u8 14] w1 fun e w'=>e=.returned (.agg c14)/\Below w1.heap.size w1 w' by intro w1;rw[ec14];exact Qq 14 w1);have KE14:=I ec14;clear ec14;have t0:decide (st<0)=false:=decide_eq_false h0;have t1:decide (200<st)=false:=decide_eq_false h1;have t2:decide (en<0)=false:=decide_eq_false h2;have t3:decide (200<en)=false:=decide_eq_false h3;have t4:decide (u<0)=false:=decide_eq_false h4;have t5:decide (200<u)=false:=decide_eq_false h5;have t6:decide (nw<0)=false:=decide_eq_false h6;have t7:decide (200<nw)=false:=decide_eq_false h7;have ha:=aK b4;have hk5:=Kb 5;have hp:ptB ⟨pAnn,kb 5,[],st,en⟩=true:=by
  have g1:prB pAnn=true:=by decide +kernel
  simp [ptB,g1,b1,b2,Ms.txtB]
 obtain⟨x1,x2,hq0,hrq⟩:=Yp (kr rA rA) BU (kq 10) ⟨pAnn,kb 5,[],st,en⟩ ⟨pAnn,nw,0⟩ u hk5 hp ha;obtain⟨Q0,eQ0⟩:∃z:Tg,z=⟨⟨kr rA rA,1,x1⟩,x2,BU,u,4⟩:=⟨_,rfl⟩;rw[<-eQ0] at hq0;simp only[<-eQ0] at hrq;obtain⟨cP,ecP⟩:=Ak (ptA ⟨pAnn,kb 5,[],st,en⟩);obtain⟨cA,ecA⟩:=Ak (anA ⟨pAnn,nw,0⟩);have CRQ:=I (fun w1=>hrq w1 c10 cP cA KE10.o ecP ecA);have HBP:=I (GU hk5 pAnn st en);rw[<-ecP,<-Tx,<-KE5.o] at HBP;have HBA:=I (VB pAnn nw);rw[<-ecA] at HBA;obtain⟨rr,err⟩:=Ak (tgsL rA tT itA 0 Q0 nw (kb 6));have HX:=I (show rr=tlX st en u nw by rw[err,<-hq0]);have HER:=I err;have HTQ:=I eQ0;have HEP:=I (Tx 6);have B1:=I b1;have B2:=I b2;have B3:=I b3;have B4:=I b4;have R1:=I (show 0<=st/\st<=200/\0<=en/\en<=200/\0<=u/\u<=200/\0<=nw/\nw<=200 by omega);have HB0:=I (Below.refl w.heap.size w);clear ha hk5 hp hq0 hrq eQ0 ecP ecA err tm b1 b2 b3 b4 h0 h1 h2 h3 h4 h5 h6 h7;go_enter Tryz.func3,Tryz.ntmps3
 go_upto_region 6 with(first
  |(go_at_call 4;refine Calls.mono (CB.o _) ?_;rintro e w1 ⟨g,p,es,d,rfl,hs⟩;clear CB;have HS:=I hs;clear hs)
  |fail)
 have HKS:=I HS.o.ks;have HG:=I (show Blk w1 g 49 (scC p.k d.x) from HS.o.blk);have HOG:=I HS.o.gk;have HIT:=I (show its es=itA from HS.o.e);have HPR:=I (show p.R=rA from HS.o.R);have HPT0:=I HS.o.T;have HBB:=I (HB0.o.trans (HS.o.b.mono HB0.o.size));clear HS;obtain⟨B,eB⟩:=Ak (w.heap.size);have HWB:=I (show w.heap.size<=B from eB▸Nat.le_refl _);rw[<-eB] at HKS;clear eB t0 t1 t2 t3 t4 t5 t6 t7
 go_upto_region 7 with(first
  |(go_at_call 6;refine Aj (LAA.o _) ?_;rintro wa hb;replace HKS:=I (HKS.o.below hb);replace HG:=I (HG.o.below hb);replace HBB:=HBB.t hb;clear hb)
  |(go_at_call 7;(with_reducible refine Calls.mono (K10.o _) ?_);rintro e wb ⟨rfl,hb⟩;replace HKS:=I (HKS.o.below hb);replace HG:=I (HG.o.below hb);replace HBB:=HBB.t hb;clear hb)
  |(go_at_call 8;refine Aj (LC.o _) ?_;rintro wd hb;replace HKS:=I (HKS.o.below hb);replace HG:=I (HG.o.below hb);replace HBB:=HBB.t hb;clear hb)
  |(go_at_call 7;(with_reducible refine Calls.mono (K5.o _) ?_);rintro e wf ⟨rfl,hb⟩;replace HKS:=I (HKS.o.below hb);replace HG:=I (HG.o.below hb);replace HBB:=HBB.t hb;clear hb)
  |(go_at_call 9;refine Aj (LS.o _) ?_;rintro wg hb;replace HKS:=I (HKS.o.below hb);replace HG:=I (HG.o.below hb);replace HBB:=HBB.t hb;clear hb)
  |(refine OR (by rfl) 39 #[(0,.tmp 54),(1,.tmp 55),(3,.tmp 56),(4,.tmp 57)] (by rfl) (vs:=[(0,prV pAnn),(1,.agg c5),(3,.int .i64 st),(4,.int .i64 en)]) (by go_simp) HBP.o ?_)
  |(refine OR (by rfl) 41 #[(0,.tmp 59),(1,.tmp 60)] (by rfl) (vs:=[(0,prV pAnn),(1,.int .i64 nw)]) (by go_simp) HBA.o ?_)
  |(go_at_call 5;refine Calls.mono (CRQ.o _) ?_;rintro e wr ⟨v1,v2,rfl,hs1,hs2,hb⟩;have HV1:=I (hs1.mono (S':=KSO p es none) (fun j _ x=>HKS.o.kso_lt x));have HV2:=I (hs2.mono (S':=KSO p es none) (fun j _ x=>HKS.o.kso_lt x));replace HKS:=I (HKS.o.below hb);replace HG:=I (HG.o.below hb);replace HBB:=HBB.t hb;clear hb hs1 hs2;obtain⟨csQ,ecQ⟩:∃z,z=tgA Q0 v1 v2:=⟨_,rfl⟩;rw[<-ecQ];have HEQ:=I ecQ;clear ecQ)
  |(refine Wh.Bg (by rfl) 30 (.tmp 10) (.tmp 65) (by rfl) 30 rfl csQ (by rfl) (by rfl) (by rw[HEQ.o];rfl) (by rw[HEQ.o];exact Bs) (by rw[HEQ.o];exact aH _ _ _ ⟨Wp HV1.o,Wp HV2.o⟩) ?_;rintro W6 hV hb;have HQ:=I hV;have HOQ:=I (HKS.o.offs (Nat.le_refl wr.heap.size));replace HKS:=I (HKS.o.below hb);replace HG:=I (HG.o.below hb);replace HBB:=HBB.t hb;replace HV1:=I (HV1.o.below hb);replace HV2:=I (HV2.o.below hb);clear hV hb)
  |fail)
 obtain⟨PQ,ePQ⟩:=Ak (wr.heap.size);rw[<-ePQ] at HQ HOQ⊢;clear ePQ;have HQI:=I (show(Tryz.prog.info? 30).map (·.size)=some csQ.size by rw[HEQ.o];exact Bs);have CTG:=I (fun(w2:World) (h:KS w2 B p es none 0 0 0) (g1:SlN (KSO p es none) w2 v1 x1) (g2:SlN (KSO p es none) w2 v2 x2)=>Vp (q:=Q0) HEQ.o (KE6.o.trans HEP.o) HPR.o HPT0.o HIT.o HER.o.symm h (by omega) (by omega) (by omega) (by decide) (by decide) Xx (Kb 6) (by rw[HTQ.o];exact g1) (by rw[HTQ.o];exact g2) (by rw[HTQ.o];exact sKrA) (by rw[HTQ.o];exact aE) (by rw[HTQ.o];exact(show BU.1=rA by decide +kernel)) (by rw[HTQ.o];exact(show(kr rA rA).1=rA by decide +kernel)));have HS0:=I HKS.o;have HG0:=I HG.o.lt
 go_cut [12,13] from 67 to 77 (fun rv ev wx=>∃(PT:Nat) (cs:Array Value) (es2:List Ent),rv=.pointer (some ⟨PT,0,none⟩)/\ev=.int .i64 rr.1/\Got W6 wx B p es es2 (0+2*cnt rr.1) (0+cnt rr.1) (0+6) PT cs rr.2)
 case first=>
  have hdr:Below W6.heap.size W6 W6.drew:=below_drewN Ah 1;have HK:=I (Kn.start HKS.o hdr);replace HG:=I (HG.o.below hdr);replace HQ:=I (HQ.o.below hdr);replace HV1:=I (HV1.o.below hdr);replace HV2:=I (HV2.o.below hdr);clear hdr;refine Reg.Bx (fun w'=>Blk w' g 49 (scC p.k d.x)/\Blk w' PQ 30 csQ) 14 rfl (by kernel_rfl) ⟨HG.o,HQ.o⟩ ?_;refine Reg.ty 0 rfl ⟨HG.o,HQ.o⟩ ?_;refine Reg.ty 1 rfl ⟨HG.o,HQ.o⟩ ?_;refine Reg.ty 2 rfl ⟨HG.o,HQ.o⟩ ?_;refine Reg.tw 3 rfl ⟨HG.o,HQ.o⟩ (fun w' hS=>by have k0:=Blk.cell hS.1 0;go_simp<;>rfl) ?_;refine Reg.tw 4 (v:=.agg csQ) rfl ⟨HG.o,HQ.o⟩ (fun w' hS=>by exact Wh.Bq (.tmp 10) rfl rfl hS.2 Tryz.underlying30 rfl HQI.o) ?_;refine Reg.ty 5 rfl ⟨HG.o,HQ.o⟩ ?_;refine Reg.b2 6 11 ?_ ?_
  ·right
   refine⟨_,_,_,_,_,_,7,#[.int .u8 6],rfl,by rfl,(by go_simp<;>first | rfl | exact⟨rfl,rfl⟩),?_⟩;refine Aj (K6.o _) ?_;rintro wlb7 hb;replace HV1:=I (HV1.o.below hb);replace HV2:=I (HV2.o.below hb);replace HG:=I (HG.o.below hb);replace HQ:=I (HQ.o.below hb);replace HK:=I (HK.o.below hb);clear hb;refine⟨_,rfl,⟨HG.o,HQ.o⟩,?_⟩;simp only[Act.put,U,Aa,Ab];refine Reg.b2 7 11 ?_ ?_
   ·right
    refine⟨_,_,_,_,_,_,10,#[.pointer (some ⟨p.k,0,none⟩),.agg csQ,.int .i64 nw,.agg c6],rfl,by rfl,(by go_simp<;>first | rfl | exact⟨rfl,rfl⟩),?_⟩;refine Calls.mono (CTG.o _ HK.o.st HV1.o HV2.o) ?_;rintro e wab8 ⟨cs,es2,rfl,hre,hk⟩;have HCS:=I (CH hre);have hnb:=hk.blk HG.o HOG.o.no;replace HOG:=I (hk.off HOG.o HG.o.lt);replace HG:=I hnb;clear hnb;have hnb:=hk.blk HQ.o HOQ.o.no;replace HOQ:=I (hk.off HOQ.o HQ.o.lt);replace HQ:=I hnb;clear hnb;have HRE:=I hre;have HRS:=I HK.o.size;replace HK:=I (HK.o.trans hk);clear hk hre;refine⟨_,rfl,⟨HG.o,HQ.o⟩,?_⟩;simp only[Act.put,U,Aa,Ab];refine Reg.ty 8 rfl ⟨HG.o,HQ.o⟩ ?_;refine Reg.ty 9 rfl ⟨HG.o,HQ.o⟩ ?_;refine Reg.ty 10 rfl ⟨HG.o,HQ.o⟩ ?_;refine Reg.b1 11 ?_
    left
    have hb:Below wab8.heap.size wab8 (wab8.alloc (.cells reZ 43)):=Ah.alloc Ag _;have hnb:=Blk.new wab8 43 reZ;have HNEHG:=I (show g≠wab8.heap.size from Nat.ne_of_lt HG.o.lt);have HNEHQ:=I (show PQ≠wab8.heap.size from Nat.ne_of_lt HQ.o.lt);have HPT:=I (show W6.heap.size<=wab8.heap.size from HK.o.size);have HOT:=I (HK.o.st.offs (Nat.le_refl wab8.heap.size));refine⟨_,_,_,_,_,_,.pointer (some ⟨wab8.heap.size,0,none⟩),wab8.alloc (.cells reZ 43),rfl,by rfl,(by go_simp<;>rfl),⟨(HG.o.below hb),(HQ.o.below hb)⟩,?_⟩;simp only[Act.put,U,Aa,Ab];obtain⟨wtb12,ewtb12⟩:=Ak (wab8.alloc (.cells reZ 43));rw[<-ewtb12] at hb hnb⊢;clear ewtb12;replace HRE:=I (Tv HRE.o HRS.o Ag hb);clear HRS;have HT:=I hnb;clear hnb;replace HG:=I (HG.o.below hb);replace HQ:=I (HQ.o.below hb);replace HK:=I (HK.o.below hb);clear hb;obtain⟨PT,ePT⟩:=Ak (wab8.heap.size);rw[<-ePT] at HT HPT HOT HNEHG HNEHQ HRE⊢;clear ePT;refine Reg.AP 12 rfl (by kernel_rfl) (by rfl) PT 43 _ cs HT.o (by rfl) (by rfl) (by rw[HCS.o.1];rfl) (by rw[HCS.o.1];exact AK) HCS.o.2 ?_;intro Vb13 hV hg;have HGT:=I (FG HK.o HRE.o HOT.o HPT.o hV hg);replace HG:=I (HG.o.grown hg (fun e=>by injection e with e;exact HNEHG.o e.symm));replace HQ:=I (HQ.o.grown hg (fun e=>by injection e with e;exact HNEHQ.o e.symm));clear hV hg HT HK HRE HOT HPT HCS;refine⟨⟨HG.o,HQ.o⟩,?_⟩;simp only[Act.put,U,Aa,Ab];refine Reg.ty 13 rfl ⟨HG.o,HQ.o⟩ ?_;refine wpAnyH_done (by kernel_rfl) ?_ _
    go_wp2_with fail
    go_meet
    exact⟨PT,_,_,rfl,rfl,HGT.o⟩
   ·left
    have hb:Below wlb7.heap.size wlb7 (wlb7.alloc (.cells reZ 43)):=Ah.alloc Ag _;have hnb:=Blk.new wlb7 43 reZ;have HNEHG:=I (show g≠wlb7.heap.size from Nat.ne_of_lt HG.o.lt);have HNEHQ:=I (show PQ≠wlb7.heap.size from Nat.ne_of_lt HQ.o.lt);have HPT:=I (show W6.heap.size<=wlb7.heap.size from HK.o.size);have HOT:=I (HK.o.st.offs (Nat.le_refl wlb7.heap.size));refine⟨_,_,_,_,_,_,.pointer (some ⟨wlb7.heap.size,0,none⟩),wlb7.alloc (.cells reZ 43),rfl,by rfl,(by go_simp<;>rfl),⟨(HG.o.below hb),(HQ.o.below hb)⟩,?_⟩;simp only[Act.put,U,Aa,Ab];obtain⟨wtb15,ewtb15⟩:=Ak (wlb7.alloc (.cells reZ 43));rw[<-ewtb15] at hb hnb⊢;clear ewtb15;have HT:=I hnb;clear hnb;replace HV1:=I (HV1.o.below hb);replace HV2:=I (HV2.o.below hb);replace HG:=I (HG.o.below hb);replace HQ:=I (HQ.o.below hb);replace HK:=I (HK.o.below hb);clear hb;obtain⟨PT,ePT⟩:=Ak (wlb7.heap.size);rw[<-ePT] at HT HPT HOT HNEHG HNEHQ⊢;clear ePT;refine Reg.b1 7 ?_
    right
    refine⟨_,_,_,_,_,_,10,#[.pointer (some ⟨p.k,0,none⟩),.agg csQ,.int .i64 nw,.agg c6],rfl,by rfl,(by go_simp<;>first | rfl | exact⟨rfl,rfl⟩),?_⟩;refine Calls.mono (CTG.o _ HK.o.st HV1.o HV2.o) ?_;rintro e wab16 ⟨cs,es2,rfl,hre,hk⟩;have HCS:=I (CH hre);have hnb:=hk.blk HG.o HOG.o.no;replace HOG:=I (hk.off HOG.o HG.o.lt);replace HG:=I hnb;clear hnb;have hnb:=hk.blk HQ.o HOQ.o.no;replace HOQ:=I (hk.off HOQ.o HQ.o.lt);replace HQ:=I hnb;clear hnb;have HRE:=I (Ij hre HK.o.size HT.o.lt);have hnb:=hk.blk HT.o HOT.o.no;replace HOT:=I (hk.off HOT.o HT.o.lt);replace HT:=I hnb;clear hnb;replace HK:=I (HK.o.trans hk);clear hk hre;refine⟨_,rfl,⟨HG.o,HQ.o⟩,?_⟩;simp only[Act.put,U,Aa,Ab];refine Reg.ty 8 rfl ⟨HG.o,HQ.o⟩ ?_;refine Reg.ty 9 rfl ⟨HG.o,HQ.o⟩ ?_;refine Reg.ty 10 rfl ⟨HG.o,HQ.o⟩ ?_;refine Reg.AP 12 rfl (by kernel_rfl) (by rfl) PT 43 _ cs HT.o (by rfl) (by rfl) (by rw[HCS.o.1];rfl) (by rw[HCS.o.1];exact AK) HCS.o.2 ?_;intro Vb20 hV hg;have HGT:=I (FG HK.o HRE.o HOT.o HPT.o hV hg);replace HG:=I (HG.o.grown hg (fun e=>by injection e with e;exact HNEHG.o e.symm));replace HQ:=I (HQ.o.grown hg (fun e=>by injection e with e;exact HNEHQ.o e.symm));clear hV hg HT HK HRE HOT HPT HCS;refine⟨⟨HG.o,HQ.o⟩,?_⟩;simp only[Act.put,U,Aa,Ab];refine Reg.ty 13 rfl ⟨HG.o,HQ.o⟩ ?_;refine wpAnyH_done (by kernel_rfl) ?_ _
    go_wp2_with fail
    go_meet
    exact⟨PT,_,_,rfl,rfl,HGT.o⟩
  ·left
   have hb:Below W6.drew.heap.size W6.drew (W6.drew.alloc (.cells reZ 43)):=Ah.alloc Ag _;have hnb:=Blk.new W6.drew 43 reZ;have HNEHG:=I (show g≠W6.drew.heap.size from Nat.ne_of_lt HG.o.lt);have HNEHQ:=I (show PQ≠W6.drew.heap.size from Nat.ne_of_lt HQ.o.lt);have HPT:=I (show W6.heap.size<=W6.drew.heap.size from HK.o.size);have HOT:=I (HK.o.st.offs (Nat.le_refl W6.drew.heap.size));refine⟨_,_,_,_,_,_,.pointer (some ⟨W6.drew.heap.size,0,none⟩),W6.drew.alloc (.cells reZ 43),rfl,by rfl,(by go_simp<;>rfl),⟨(HG.o.below hb),(HQ.o.below hb)⟩,?_⟩;simp only[Act.put,U,Aa,Ab];obtain⟨wtb22,ewtb22⟩:=Ak (W6.drew.alloc (.cells reZ 43));rw[<-ewtb22] at hb hnb⊢;clear ewtb22;have HT:=I hnb;clear hnb;replace HV1:=I (HV1.o.below hb);replace HV2:=I (HV2.o.below hb);replace HG:=I (HG.o.below hb);replace HQ:=I (HQ.o.below hb);replace HK:=I (HK.o.below hb);clear hb;obtain⟨PT,ePT⟩:=Ak (W6.drew.heap.size);rw[<-ePT] at HT HPT HOT HNEHG HNEHQ⊢;clear ePT;refine Reg.b1 6 ?_
   right
   refine⟨_,_,_,_,_,_,7,#[.int .u8 6],rfl,by rfl,(by go_simp<;>first | rfl | exact⟨rfl,rfl⟩),?_⟩;refine Aj (K6.o _) ?_;rintro wlb23 hb;replace HV1:=I (HV1.o.below hb);replace HV2:=I (HV2.o.below hb);replace HG:=I (HG.o.below hb);replace HQ:=I (HQ.o.below hb);replace HK:=I (HK.o.below hb);replace HT:=I (HT.o.below hb);clear hb;refine⟨_,rfl,⟨HG.o,HQ.o⟩,?_⟩;simp only[Act.put,U,Aa,Ab];refine Reg.b1 7 ?_
   right
   refine⟨_,_,_,_,_,_,10,#[.pointer (some ⟨p.k,0,none⟩),.agg csQ,.int .i64 nw,.agg c6],rfl,by rfl,(by go_simp<;>first | rfl | exact⟨rfl,rfl⟩),?_⟩;refine Calls.mono (CTG.o _ HK.o.st HV1.o HV2.o) ?_;rintro e wab24 ⟨cs,es2,rfl,hre,hk⟩;have HCS:=I (CH hre);have hnb:=hk.blk HG.o HOG.o.no;replace HOG:=I (hk.off HOG.o HG.o.lt);replace HG:=I hnb;clear hnb;have hnb:=hk.blk HQ.o HOQ.o.no;replace HOQ:=I (hk.off HOQ.o HQ.o.lt);replace HQ:=I hnb;clear hnb;have HRE:=I (Ij hre HK.o.size HT.o.lt);have hnb:=hk.blk HT.o HOT.o.no;replace HOT:=I (hk.off HOT.o HT.o.lt);replace HT:=I hnb;clear hnb;replace HK:=I (HK.o.trans hk);clear hk hre;refine⟨_,rfl,⟨HG.o,HQ.o⟩,?_⟩;simp only[Act.put,U,Aa,Ab];refine Reg.ty 8 rfl ⟨HG.o,HQ.o⟩ ?_;refine Reg.ty 9 rfl ⟨HG.o,HQ.o⟩ ?_;refine Reg.ty 10 rfl ⟨HG.o,HQ.o⟩ ?_;refine Reg.AP 12 rfl (by kernel_rfl) (by rfl) PT 43 _ cs HT.o (by rfl) (by rfl) (by rw[HCS.o.1];rfl) (by rw[HCS.o.1];exact AK) HCS.o.2 ?_;intro Vb28 hV hg;have HGT:=I (FG HK.o HRE.o HOT.o HPT.o hV hg);replace HG:=I (HG.o.grown hg (fun e=>by injection e with e;exact HNEHG.o e.symm));replace HQ:=I (HQ.o.grown hg (fun e=>by injection e with e;exact HNEHQ.o e.symm));clear hV hg HT HK HRE HOT HPT HCS;refine⟨⟨HG.o,HQ.o⟩,?_⟩;simp only[Act.put,U,Aa,Ab];refine Reg.ty 13 rfl ⟨HG.o,HQ.o⟩ ?_;refine wpAnyH_done (by kernel_rfl) ?_ _
   go_wp2_with fail
   go_meet
   exact⟨PT,_,_,rfl,rfl,HGT.o⟩
 case rest=>
  obtain⟨PT,cs,es2,rfl,rfl,hgt⟩:=hcut;replace HKS:=I hgt.kn.st;have HIT2:=I ((KZ hgt.kn.eq).trans HIT.o);replace HBB:=I (HBB.o.trans ((hgt.kn.base HS0.o).mono HWB.o));replace HG:=I (hgt.kn.blk HG.o HOG.o.no);replace HOG:=I (hgt.kn.off HOG.o HG0.o);have HRB:=I hgt.blk;have HRR:=I hgt.re;have HRO:=I hgt.off;have rg:=R1.o;have hw5:IntKind.i64.wrap (nw+5)=nw+5:=by rw[IntKind.wrap_i64];omega
  have hx:=HX.o;rw[aL B1.o B2.o B3.o B4.o] at hx
  by_cases g1:en<nw
  ·have d1:decide (en<nw)=true:=decide_eq_true g1
   rw[if_pos g1] at hx;rw[hx];clear hx g1 rg HKS HG HRB HRR HRO HOG CTG hgt
   go_wp2_with (first
    |(go_at_call 11;refine Aj (KN.o _) ?_;rintro wk hb;clear KN;replace HBB:=HBB.t hb;clear hb)
    |fail)
   go_ret;exact⟨rfl,HBB.o⟩
  have d1:decide (en<nw)=false:=decide_eq_false g1;rw[if_neg g1] at hx
  by_cases g2:nw+5<st
  ·have d2:decide (nw+5<st)=true:=decide_eq_true g2
   rw[if_pos g2] at hx;rw[hx];clear hx g1 g2 rg HKS HG HRB HRR HRO HOG CTG hgt
   go_wp2_with (first
    |(go_at_call 11;refine Aj (KN.o _) ?_;rintro wk hb;clear KN;replace HBB:=HBB.t hb;clear hb)
    |fail)
   go_ret;exact⟨rfl,HBB.o⟩
  have d2:decide (nw+5<st)=false:=decide_eq_false g2;rw[if_neg g2] at hx
  by_cases g3:u<nw
  ·have d3:decide (u<nw)=true:=decide_eq_true g3
   rw[if_pos g3] at hx;rw[hx];clear hx g1 g2 g3 rg HKS HG HRB HRR HRO HOG CTG hgt
   go_wp2_with (first
    |(go_at_call 11;refine Aj (KN.o _) ?_;rintro wk hb;clear KN;replace HBB:=HBB.t hb;clear hb)
    |fail)
   go_ret;exact⟨rfl,HBB.o⟩
  have d3:decide (u<nw)=false:=decide_eq_false g3;clear hx;obtain⟨y1,y2,kv,hz,hmin,ho1⟩:=tl_ok B1.o B2.o B3.o B4.o g1 g2 g3;rw[<-HX.o] at hz;have hre:=hgt.re;rw[hz] at hre;obtain⟨u1,u2,h5,h6,hv1,hv2⟩:=re_vs hre;have H5:=I h5;have HU1:=I hv1;have HO1:=I ho1;obtain⟨me,eme⟩:=Ak (min u en);rw[<-eme] at hmin HO1;have hpp:ptB ⟨pAnn,kb 6,[],nw,me⟩=true:=aM B4.o hmin;have hkk:=Kb 6;obtain⟨cR,ecR⟩:=Ak (ptA ⟨pAnn,kb 6,[],nw,me⟩);obtain⟨z1,ez1⟩:=Ak (ptE ⟨pAnn,kb 6,[],nw,me⟩);rw[<-ez1] at HO1;have CP:=I (fun(w2:World) (v:Value) (hv:SlN No w2 v z1)=>VA (cP:=cR) hkk hpp ecR (ez1▸hv));have HPS:=I (show cR.size=37 by rw[ecR];exact DG hkk);have HPI:=I (show(Tryz.prog.info? 39).map (·.size)=some cR.size by rw[ecR];exact FA hkk);have HPO:=I (show cR.all (·.oneCell')=true by rw[ecR];exact Gt _);have HCE:=I (show cR[35]? = some (.int .i64 nw)/\cR[36]? = some (.int .i64 me) by rw[ecR];exact VC hkk);have eme3:min u en=me:=eme.symm;have HRX:=I True.intro;rw[hz];clear hz hmin ho1 hre h5 h6 hv1 hv2 g1 g2 g3 hpp hkk ecR ez1 eme HKS HOG CTG hgt HG HRR
  go_upto_region 16 with fail
  have hdr:Below wc.heap.size wc wc.drew:=below_drewN Ah 1;replace HRB:=I (HRB.o.below hdr);replace HU1:=I (HU1.o.below hdr);replace HBB:=HBB.t hdr;clear hdr;refine Reg.Bx (fun w'=>Blk w' PT 43 cs) 10 rfl (by kernel_rfl) HRB.o ?_;refine Reg.ty 1 rfl HRB.o ?_;refine Reg.ty 2 rfl HRB.o ?_;refine Reg.tw 3 (v:=u1) rfl HRB.o (fun w' hS=>by have k0:=(Blk.cell hS 5).trans H5.o;go_simp<;>rfl) ?_;refine Reg.b1 0 ?_
  right
  refine⟨_,_,_,_,_,_,7,#[.int .u8 14],rfl,by rfl,(by go_simp<;>first | rfl | exact⟨rfl,rfl⟩),?_⟩;refine Aj (K14.o _) ?_;rintro wlt33 hb;replace HRB:=I (HRB.o.below hb);replace HU1:=I (HU1.o.below hb);replace HBB:=HBB.t hb;clear hb;refine⟨_,rfl,HRB.o,?_⟩;simp only[Act.put,U,Aa,Ab];refine Reg.b1 4 ?_
  right
  refine⟨_,_,_,_,_,_,12,#[.agg c14,.int .i64 2,u1],rfl,by rfl,(by go_simp<;>first | rfl | exact⟨rfl,rfl⟩),?_⟩;refine Calls.mono (Vz KE14.o HO1.o HU1.o) ?_;rintro e wlt34 ⟨v9,rfl,hs9,hb⟩;have HV9:=I hs9;clear hs9;replace HRB:=I (HRB.o.below hb);replace HU1:=I (HU1.o.below hb);replace HBB:=HBB.t hb;clear hb;refine⟨_,rfl,HRB.o,?_⟩;simp only[Act.put,U,Aa,Ab];refine Reg.ty 5 rfl HRB.o ?_;refine Reg.ty 6 rfl HRB.o ?_;refine Reg.ty 7 rfl HRB.o ?_;refine Reg.ty 8 rfl HRB.o ?_;refine Reg.ty 9 rfl HRB.o ?_;refine wpAnyH_done (by kernel_rfl) ?_ _
  go_wp2_with (first
   |(go_at_call 13;refine Aj (CP.o _ _ HV9.o) ?_;rintro wp hb;clear CP HV9;replace HBB:=HBB.t hb;clear hb)
   |(refine Wh.Bg (by rfl) 39 (.tmp 16) (.tmp 119) (by rfl) 39 rfl cR (by rfl) (by rfl) (by rw[HPS.o];rfl) HPI.o HPO.o ?_;rintro V14 hV hb;have kE:=(Blk.cell hV 36).trans HCE.o.2;have kS:=(Blk.cell hV 35).trans HCE.o.1;replace HBB:=HBB.t hb;clear hV hb)
   |(go_at_call 11;refine Aj (KN.o _) ?_;rintro wk hb;clear KN;replace HBB:=HBB.t hb;clear hb)
   |fail)
  go_ret;exact⟨rfl,HBB.o⟩
theorem tills (st en u nw:Int) (w:World) {P1 P2 P3 P4:Prop} (_:P1) (_:P2) (_:P3) (_:P4):Calls Tryz.prog 3 #[.int .i64 st,.int .i64 en,.int .i64 u,.int .i64 nw] w fun e w'=>e=.returned (.bool true)/\Below w.heap.size w w':=by
 by_cases h:st<0\/200<st\/en<0\/200<en\/u<0\/200<u\/nw<0\/200<nw
 ·exact Ys st en u nw w h
 ·exact VD st en u nw w (by omega) (by omega) (by omega) (by omega) (by omega) (by omega) (by omega) (by omega)
end Kd
end Go.Proofs.YtlchkbpffaclmaaGreat
