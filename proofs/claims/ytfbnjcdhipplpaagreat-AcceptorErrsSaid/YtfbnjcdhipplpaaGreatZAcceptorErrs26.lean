/-
  The statement of AcceptorErrs: the walk's contract carried to the row: for every input the call answers true, and each argument reads as it did.
-/
import Derived.Test.YtfbnjcdhipplpaaGreatZAcceptorErrs25
set_option maxHeartbeats 25600000
set_option maxRecDepth 100000
set_option linter.unusedVariables false
set_option linter.unusedSimpArgs false
namespace Go.Proofs.YtfbnjcdhipplpaaGreat
namespace Ac
open Go.RowKit Af Se Kd
open Nm (L Own)
open Rg (It Ent Ring RO its)
open Ms (Pt An Mg pSm tmB ptB anB)
open Rp (seeE seeL Tm)
structure ErW (kv want:Int) (P:Pt) (A:An) (n:UInt8) (r:Lk) (l':List An):Prop where
 wr:IntKind.u8.wrap kv=(n.toNat:Int)
 ok:rqOk kv n P A=true
 ss:P.ss.length=32
 pc:pSm P.c
 ac:pSm A.c
 tr:P.tr.length<=1000000
 lok:lokL pSv tT itS (rqL kv n P A) 50=r
 tak:takE r false 0 [] 50=want
 see:takS r false 0 [] 50=l'
def ptQ (c:Nm.L×Nm.L) (tr:L) (st en:Int):Pt:=⟨c,k1L 7,tr,st,en⟩
theorem eH (c:Nm.L×Nm.L) (tr:L) (st en M:Int):(ptA (ptQ c tr st en)).setIfInBounds 36 (.int .i64 M)=ptA (ptQ c tr st M):=by kernel_rfl
theorem eI (c:Nm.L×Nm.L) (tr:L) (st en s2:Int):(ptA (ptQ c tr st en)).setIfInBounds 35 (.int .i64 s2)=ptA (ptQ c tr s2 en):=by kernel_rfl
theorem Yp (c:Nm.L×Nm.L) (tr M:L) (st en:Int):(ptA (ptQ c tr st en)).setIfInBounds 34 (.string ⟨M.toArray⟩)=ptA (ptQ c M st en):=by kernel_rfl
theorem eO (c c2:Nm.L×Nm.L) (tr:L) (st en:Int):((ptA (ptQ c tr st en)).setIfInBounds 0 (.string ⟨c2.1.toArray⟩)).setIfInBounds 1 (.string ⟨c2.2.toArray⟩)=ptA (ptQ c2 tr st en):=by kernel_rfl
def pXc:Nm.L×Nm.L:=([67,79,77],[120])
def tEC:L:=[69,68,85,44,67,79,77]
def teu:L:=[101,100,117]
theorem q_ok {kv:Int} {n:UInt8} {c c2:Nm.L×Nm.L} {tr:L} {st en t q:Int} (h1:1<=kv) (O:kv<=255) (hc:Ms.prB c=true) (M:Ms.prB c2=true) (ht:Ms.txtB tr=true) (Z:tr.length<=300) (hs:tmB st=true) (he:tmB en=true) (h3:tmB t=true) (h4:tmB q=true):rqOk kv n (ptQ c tr st en) ⟨c2,t,q⟩=true:=
 TV (Bf 7) (eD hc ht Z hs he) (eG M h3 h4) h1 O
theorem Nc {c c2:Nm.L×Nm.L} {tr:L} {st en t q:Int}:lkD (ptQ c tr st en) ⟨c2,t,q⟩ 50=if en<50 then lk0 7 else if 55<st then lk0 8 else if c2=c then lokC tT rB (ptQ c tr st en) ⟨c2,t,q⟩ else lk0 9:=rfl
theorem prX:Ms.prB pXc=true:=by decide +kernel
theorem prS:Ms.prB pSv=true:=by decide +kernel
theorem smX:pSm pXc:=⟨by decide,by decide⟩
theorem Yq:seeE false 0 [] ⟨pAnn,44,1⟩ 50=8/\seeL false 0 [] ⟨pAnn,44,1⟩ 50 = []:=by decide +kernel
theorem Yr:seeE false 0 [] ⟨pAnn,50,1⟩ 50=0/\seeL false 0 [] ⟨pAnn,50,1⟩ 50 = [⟨pAnn,50,1⟩]:=by decide +kernel
theorem pas_6:pasL tT rB (ptQ pAnn tEC 0 100)=(11,[]):=by decide +kernel
theorem pas_7:pasL tT rB (ptQ pAnn teu 0 100)=(2,[]):=by decide +kernel
theorem pas_8:pasL tT rB (ptQ pXc rE1 0 100)=(1,[]):=by decide +kernel
theorem OS {P:Pt} {a:An} {e:Int} (h:pasL tT rB P=(e,[])) (he:e≠0):lokC tT rB P a=lk0 e:=by unfold lokC;rw[h];exact if_neg he
theorem er_0:ErW 2 0 (ptQ pAnn rE1 0 100) ⟨pAnn,50,1⟩ 2 (⟨0,ptQ pAnn rE1 0 100,⟨pAnn,50,1⟩,[rE1]⟩) [⟨pAnn,50,1⟩]:=by
 have M:rqOk 2 2 (ptQ pAnn rE1 0 100) ⟨pAnn,50,1⟩=true:=q_ok (by decide) (by decide) CG CG (by decide) (by decide) (by decide) (by decide) (by decide) (by decide);exact⟨rfl,M,Bf 7,sAnn,sAnn,(show List.length rE1<=1000000 by decide),(Lq (Bf 7) M (by decide)).trans ((((Nc.trans (if_neg (by decide))).trans (if_neg (by decide))).trans (if_pos rfl)).trans (aY rfl rfl)),Yr.1,Yr.2⟩
theorem er_1:ErW 2 7 (ptQ pAnn rE1 0 49) ⟨pAnn,50,1⟩ 2 (lk0 7) []:=by
 have M:rqOk 2 2 (ptQ pAnn rE1 0 49) ⟨pAnn,50,1⟩=true:=q_ok (by decide) (by decide) CG CG (by decide) (by decide) (by decide) (by decide) (by decide) (by decide);exact⟨rfl,M,Bf 7,sAnn,sAnn,(show List.length rE1<=1000000 by decide),(Lq (Bf 7) M (by decide)).trans (Nc.trans (if_pos (by decide))),rfl,rfl⟩
theorem er_2:ErW 2 8 (ptQ pAnn rE1 56 100) ⟨pAnn,50,1⟩ 2 (lk0 8) []:=by
 have M:rqOk 2 2 (ptQ pAnn rE1 56 100) ⟨pAnn,50,1⟩=true:=q_ok (by decide) (by decide) CG CG (by decide) (by decide) (by decide) (by decide) (by decide) (by decide);exact⟨rfl,M,Bf 7,sAnn,sAnn,(show List.length rE1<=1000000 by decide),(Lq (Bf 7) M (by decide)).trans ((Nc.trans (if_neg (by decide))).trans (if_pos (by decide))),rfl,rfl⟩
theorem er_3:ErW 2 8 (ptQ pAnn rE1 0 100) ⟨pAnn,44,1⟩ 2 (⟨0,ptQ pAnn rE1 0 100,⟨pAnn,44,1⟩,[rE1]⟩) []:=by
 have M:rqOk 2 2 (ptQ pAnn rE1 0 100) ⟨pAnn,44,1⟩=true:=q_ok (by decide) (by decide) CG CG (by decide) (by decide) (by decide) (by decide) (by decide) (by decide);exact⟨rfl,M,Bf 7,sAnn,sAnn,(show List.length rE1<=1000000 by decide),(Lq (Bf 7) M (by decide)).trans ((((Nc.trans (if_neg (by decide))).trans (if_neg (by decide))).trans (if_pos rfl)).trans (aY rfl rfl)),Yq.1,Yq.2⟩
theorem er_4:ErW 2 9 (ptQ pAnn rE1 0 100) ⟨pSv,50,1⟩ 2 (lk0 9) []:=by
 have M:rqOk 2 2 (ptQ pAnn rE1 0 100) ⟨pSv,50,1⟩=true:=q_ok (by decide) (by decide) CG prS (by decide) (by decide) (by decide) (by decide) (by decide) (by decide);exact⟨rfl,M,Bf 7,sAnn,sSv,(show List.length rE1<=1000000 by decide),(Lq (Bf 7) M (by decide)).trans (((Nc.trans (if_neg (by decide))).trans (if_neg (by decide))).trans (if_neg (by decide))),rfl,rfl⟩
theorem er_5:ErW 3 4 (ptQ pAnn rE1 0 100) ⟨pAnn,50,1⟩ 3 (lk0 4) []:=by
 have M:rqOk 3 3 (ptQ pAnn rE1 0 100) ⟨pAnn,50,1⟩=true:=q_ok (by decide) (by decide) CG CG (by decide) (by decide) (by decide) (by decide) (by decide) (by decide);exact⟨rfl,M,Bf 7,sAnn,sAnn,(show List.length rE1<=1000000 by decide),lok_n (Bf 7) M (by decide) (by decide) (by decide),rfl,rfl⟩
theorem er_6:ErW 2 11 (ptQ pAnn tEC 0 100) ⟨pAnn,50,1⟩ 2 (lk0 11) []:=by
 have M:rqOk 2 2 (ptQ pAnn tEC 0 100) ⟨pAnn,50,1⟩=true:=q_ok (by decide) (by decide) CG CG (by decide) (by decide) (by decide) (by decide) (by decide) (by decide);exact⟨rfl,M,Bf 7,sAnn,sAnn,(show List.length tEC<=1000000 by decide),(Lq (Bf 7) M (by decide)).trans ((((Nc.trans (if_neg (by decide))).trans (if_neg (by decide))).trans (if_pos rfl)).trans (OS pas_6 (by decide))),rfl,rfl⟩
theorem er_7:ErW 2 2 (ptQ pAnn teu 0 100) ⟨pAnn,50,1⟩ 2 (lk0 2) []:=by
 have M:rqOk 2 2 (ptQ pAnn teu 0 100) ⟨pAnn,50,1⟩=true:=q_ok (by decide) (by decide) CG CG (by decide) (by decide) (by decide) (by decide) (by decide) (by decide);exact⟨rfl,M,Bf 7,sAnn,sAnn,(show List.length teu<=1000000 by decide),(Lq (Bf 7) M (by decide)).trans ((((Nc.trans (if_neg (by decide))).trans (if_neg (by decide))).trans (if_pos rfl)).trans (OS pas_7 (by decide))),rfl,rfl⟩
theorem er_8:ErW 2 1 (ptQ pXc rE1 0 100) ⟨pXc,50,1⟩ 2 (lk0 1) []:=by
 have M:rqOk 2 2 (ptQ pXc rE1 0 100) ⟨pXc,50,1⟩=true:=q_ok (by decide) (by decide) prX prX (by decide) (by decide) (by decide) (by decide) (by decide) (by decide);exact⟨rfl,M,Bf 7,smX,smX,(show List.length rE1<=1000000 by decide),(Lq (Bf 7) M (by decide)).trans ((((Nc.trans (if_neg (by decide))).trans (if_neg (by decide))).trans (if_pos rfl)).trans (OS pas_8 (by decide))),rfl,rfl⟩
theorem Xz (tr:L) (en:Int):Tryz.prog.built 31 [(0,Kd.prV pAnn),(1,.agg (Be (k1 7))),(2,.string ⟨tr.toArray⟩),(4,.int .i64 en)]=some (ptA (ptQ pAnn tr 0 en)):=Vd tr en
theorem Ve (now q:Int):Tryz.prog.built 33 [(0,Kd.prV pAnn),(1,.int .i64 now),(2,.int .i64 q)]=some (anA ⟨pAnn,now,q⟩):=by kernel_rfl
theorem ok_no (k:Int):k=0/\okN k=1/\noN k=0\/k≠0/\okN k=0/\noN k=1:=by
 by_cases h:k=0
 ·exact .inl ⟨h,if_pos h,if_pos h⟩
 ·exact .inr ⟨h,if_neg h,if_neg h⟩
theorem eS (M:Int) (w:World) (h:M<0\/8<M):Calls Tryz.prog 7 #[.int .i64 M] w fun e w'=>e=.returned (.bool true)/\Below w.heap.size w w':=by
 have O:=I (fun(w1:World)=>PW w1);have Z:=I (Below.refl w.heap.size w)
 by_cases g0:M<0
 ·have t0:decide (M<0)=true:=decide_eq_true g0
  clear g0 h;go_enter Tryz.func7,Tryz.ntmps7
  go_wp2_with (first
   |(go_at_call 21;refine Aj (O.o _) ?_;rintro wk hb;replace Z:=Z.t hb;clear hb O)
   |fail)
  go_ret;exact⟨rfl,Z.o⟩
 ·have t0:decide (M<0)=false:=decide_eq_false g0
  have t1:decide (8<M)=true:=decide_eq_true (by omega);clear g0 h;go_enter Tryz.func7,Tryz.ntmps7
  go_wp2_with (first
   |(go_at_call 21;refine Aj (O.o _) ?_;rintro wk hb;replace Z:=Z.t hb;clear hb O)
   |fail)
  go_ret;exact⟨rfl,Z.o⟩
theorem FM {w:World} {B:Nat} {p:SP} {es:List Ent} {u:Value} {on:Bool} {st:Int} {l:List An} {n m c g:Nat} (h:Sv w B p es u on st l n m c) (M:¬AA p es u g) (o:Nat) (v:Value):Sv (w.setCell ⟨g,o,none⟩ v) B p es u on st l n m c:=
 ⟨h.ad.chg (Ee w g o v) (fun j O e=>M (e▸O)),h.e,h.P,h.T⟩
theorem bd (aw:Int) (w:World) (h:0<=aw/\aw<=8):Calls Tryz.prog 7 #[.int .i64 aw] w fun e w'=>e=.returned (.bool true)/\Below w.heap.size w w':=by
 have t0:decide (aw<0)=false:=decide_eq_false (by omega);have t1:decide (8<aw)=false:=decide_eq_false (by omega);obtain⟨cK,ck⟩:=Ak (Be (k1 7));obtain⟨cP,bb⟩:=Ak (ptA (ptQ pAnn rE1 0 100));obtain⟨cA,bn⟩:=Ak (anA ⟨pAnn,50,1⟩);have cw:=I (show Tryz.prog.built 29 [(0,.int .u8 7)]=some cK by rw[ck];exact Hl 7);have cB:=I (show Tryz.prog.built 31 [(0,Kd.prV pAnn),(1,.agg cK),(2,.string ⟨#[69,68,85]⟩),(4,.int .i64 100)]=some cP by rw[ck,bb];exact Xz rE1 100);have cr:=I (show Tryz.prog.built 33 [(0,Kd.prV pAnn),(1,.int .i64 50),(2,.int .i64 1)]=some cA by rw[bn];exact Ve 50 1);have cT:=I (show cP.size=37 by rw[bb];exact FY (Bf 7));have cc:=I (show(Tryz.prog.info? 31).map (·.size)=some cP.size by rw[bb];exact Ii (Bf 7));have cx:=I (show cP.all (·.oneCell')=true by rw[bb];exact JM _);have cq:=I (show cA.size=4 by rw[bn];rfl);have cd:=I (show(Tryz.prog.info? 33).map (·.size)=some cA.size by rw[bn];exact LK _);have cu:=I (show cA.all (·.oneCell')=true by rw[bn];exact Rp.Oz _);have EP:=I bb;have EA:=I bn;have HW:=I h;have CB:=I (fun(w1:World)=>Hd 0 w1);have CN:=I (fun(w1:World)=>aR w1);have CM:=I (fun(w1:World)=>UL w1);have cg:=I (fun(w1:World)=>PW w1);clear ck bb bn h;go_enter Tryz.func7,Tryz.ntmps7
 go_upto_region 7 with(first
  |(go_at_call 13;refine Calls.mono (CB.o _) ?_;rintro e w1 ⟨g,p,es,u,rfl,hs⟩;clear CB;have HV:=I (show Sv w1 w.heap.size p es u false 0 [] 0 0 0 from hs.sv);have O:=I hs.b;obtain⟨x,hg⟩:=hs.blk;have HG:=I hg;have NG:=I hs.ng;clear hs hg)
  |(go_at_call 22;refine Aj (CN.o _) ?_;rintro wa M;replace HV:=I (HV.o.below M);replace HG:=I (HG.o.below M);replace O:=O.t M;clear M)
  |(refine Mc.Ae (by rfl) 29 #[(0,.const (.int .u8 7))] (by rfl) cK (by simp only[List.map_toArray,List.map_cons,List.map_nil];exact cw.o) ?_)
  |(refine Mc.Ae (by rfl) 31 #[(0,.tmp 24),(1,.tmp 25),(2,.const (.string ⟨#[69,68,85]⟩)),(4,.const (.int .i64 100))] (by rfl) cP (by simp only[List.map_toArray,List.map_cons,List.map_nil];exact cB.o) ?_)
  |(refine Wh.Bc (by rfl) 31 (.tmp 4) (.tmp 26) (by rfl) 31 rfl cP (by rfl) (by rfl) (by rw[cT.o];rfl) cc.o cx.o ?_;rintro V hV M;have Z:=I hV;have ct:=I (And.intro HG.o.lt O.o.size);have NP:=I (HV.o.ad.fresh (Nat.le_refl wa.heap.size));replace HV:=I (HV.o.below M);replace HG:=I (HG.o.below M);replace O:=O.t M;clear hV M)
  |fail)
 go_upto_region 8 with(first
  |(go_at_call 22;refine Aj (CN.o _) ?_;rintro cj M;replace HV:=I (HV.o.below M);replace HG:=I (HG.o.below M);replace Z:=I (Z.o.below M);replace O:=O.t M;clear M)
  |(refine Mc.Ae (by rfl) 33 #[(0,.tmp 27),(1,.const (.int .i64 50)),(2,.const (.int .i64 1))] (by rfl) cA (by simp only[List.map_toArray,List.map_cons,List.map_nil];exact cr.o) ?_)
  |(refine Wh.Bc (by rfl) 33 (.tmp 5) (.tmp 28) (by rfl) 33 rfl cA (by rfl) (by rfl) (by rw[cq.o];rfl) cd.o cu.o ?_;rintro V2 hV M;have HA:=I hV;have NA:=I (HV.o.ad.fresh (Nat.le_refl cj.heap.size));have av:=I (Nat.ne_of_lt Z.o.lt);have bz:=I (show g<wa.heap.size/\g<cj.heap.size/\w.heap.size<=wa.heap.size/\wa.heap.size<cj.heap.size from⟨ct.o.1,HG.o.lt,ct.o.2,Z.o.lt⟩);replace HV:=I (HV.o.below M);replace HG:=I (HG.o.below M);replace Z:=I (Z.o.below M);replace O:=O.t M;clear hV M)
  |fail)
 obtain⟨PT,cQ⟩:=Ak (wa.heap.size);obtain⟨PA,cy⟩:=Ak (cj.heap.size);rw[<-cQ] at Z NP av bz⊢;rw[<-cy] at HA NA av bz⊢;clear cQ cy;have bB:=I (show PT≠g from fun e=>by have:=bz.o.1;omega);have cb:=I (show PA≠g from fun e=>by have:=bz.o.2.1;omega);have bx:=I (show w.heap.size<=PT from bz.o.2.2.1);have ca:=I (show w.heap.size<=PA from Nat.le_trans bz.o.2.2.1 (Nat.le_of_lt bz.o.2.2.2))
 go_upto_block 0 with fail
 go_cut [6,7] from 29 to 56 (fun kz wz wx=>∃(kv want:Int) (P:Pt) (A:An) (n:UInt8) (r:Lk) (l':List An),kz=.int .i64 kv/\wz=.int .i64 want/\ErW kv want P A n r l'/\Blk wx PT 31 (ptA P)/\Blk wx PA 33 (anA A)/\Sv wx w.heap.size p es u false 0 [] 0 0 0/\Blk wx g 40 #[.pointer (some ⟨p.a,0,none⟩),.pointer (some ⟨x,0,none⟩)]/\Below w.heap.size w wx)
 case first=>
  have hw:aw=0\/aw=1\/aw=2\/aw=3\/aw=4\/aw=5\/aw=6\/aw=7\/aw=8:=by have:=HW.o;omega
  have eb:=Z.o.frozen;have cn:=HA.o.frozen;have cM:=av.o;have ea:PA≠PT:=fun e=>av.o e.symm
  have p0:V2.cell? ⟨PT,0,none⟩=some (.string ⟨pAnn.1.toArray⟩):=by rw[EP.o] at Z;exact Z.o.cell 0
  have p1:V2.cell? ⟨PT,1,none⟩=some (.string ⟨pAnn.2.toArray⟩):=by rw[EP.o] at Z;exact Z.o.cell 1
  have ef:V2.cell? ⟨PT,34,none⟩=some (.string ⟨rE1.toArray⟩):=by rw[EP.o] at Z;exact di (Bf 7) Z.o
  have ec:V2.cell? ⟨PT,35,none⟩=some (.int .i64 0):=by rw[EP.o] at Z;exact ai (Bf 7) Z.o
  have ed:V2.cell? ⟨PT,36,none⟩=some (.int .i64 100):=by rw[EP.o] at Z;exact aj (Bf 7) Z.o
  have a0:V2.cell? ⟨PA,0,none⟩=some (.string ⟨pAnn.1.toArray⟩):=by rw[EA.o] at HA;exact HA.o.cell 0
  have a1:V2.cell? ⟨PA,1,none⟩=some (.string ⟨pAnn.2.toArray⟩):=by rw[EA.o] at HA;exact HA.o.cell 1
  have a2:V2.cell? ⟨PA,2,none⟩=some (.int .i64 50):=by rw[EA.o] at HA;exact HA.o.cell 2
  rw[EP.o] at Z;rw[EA.o] at HA;rcases hw with rfl | rfl | rfl | rfl | rfl | rfl | rfl | rfl | rfl
  ·clear HW t0 t1
   go_wp2_with fail
   go_meet
   exact⟨_,_,_,_,_,_,_,rfl,rfl,er_0,Z.o,HA.o,HV.o,HG.o,O.o⟩
  ·clear HW t0 t1
   go_wp2_with fail
   go_meet
   exact⟨_,_,_,_,_,_,_,rfl,rfl,er_1,(eH pAnn rE1 0 100 49▸Z.o.set 36 (.int .i64 49)),(Si.Blk.far HA.o ⟨PT,36,none⟩ (.int .i64 49) av.o),(FM HV.o NP.o 36 (.int .i64 49)),(Si.Blk.far HG.o ⟨PT,36,none⟩ (.int .i64 49) bB.o),(Si.AI O.o bx.o _)⟩
  ·clear HW t0 t1
   go_wp2_with fail
   go_meet
   exact⟨_,_,_,_,_,_,_,rfl,rfl,er_2,(eI pAnn rE1 0 100 56▸Z.o.set 35 (.int .i64 56)),(Si.Blk.far HA.o ⟨PT,35,none⟩ (.int .i64 56) av.o),(FM HV.o NP.o 35 (.int .i64 56)),(Si.Blk.far HG.o ⟨PT,35,none⟩ (.int .i64 56) bB.o),(Si.AI O.o bx.o _)⟩
  ·clear HW t0 t1
   go_wp2_with fail
   go_meet
   exact⟨_,_,_,_,_,_,_,rfl,rfl,er_3,(Si.Blk.far Z.o ⟨PA,2,none⟩ (.int .i64 44) (fun e=>av.o e.symm)),(HA.o.set 2 (.int .i64 44)),(FM HV.o NA.o 2 (.int .i64 44)),(Si.Blk.far HG.o ⟨PA,2,none⟩ (.int .i64 44) cb.o),(Si.AI O.o ca.o _)⟩
  ·clear HW t0 t1
   clear p0 p1 ef ec ed a0 a1 a2 eb cn cM ea
   go_wp2_with (first
    |(go_at_call 23;refine Aj (CM.o _) ?_;rintro wm M;clear CM;replace HV:=I (HV.o.below M);replace HG:=I (HG.o.below M);replace Z:=I (Z.o.below M);replace HA:=I (HA.o.below M);replace O:=O.t M;clear M;have cn:=HA.o.frozen;have a0:=HA.c0;have a1:=HA.c1)
    |fail)
   go_meet
   exact⟨_,_,_,_,_,_,_,rfl,rfl,er_4,(Si.Blk.far (Si.Blk.far Z.o ⟨PA,0,none⟩ (.string ⟨pSv.1.toArray⟩) (fun e=>av.o e.symm)) ⟨PA,1,none⟩ (.string ⟨pSv.2.toArray⟩) (fun e=>av.o e.symm)),((HA.o.set 0 (.string ⟨pSv.1.toArray⟩)).set 1 (.string ⟨pSv.2.toArray⟩)),(FM (FM HV.o NA.o 0 (.string ⟨pSv.1.toArray⟩)) NA.o 1 (.string ⟨pSv.2.toArray⟩)),(Si.Blk.far (Si.Blk.far HG.o ⟨PA,0,none⟩ (.string ⟨pSv.1.toArray⟩) cb.o) ⟨PA,1,none⟩ (.string ⟨pSv.2.toArray⟩) cb.o),(Si.AI (Si.AI O.o ca.o _) ca.o _)⟩
  ·clear HW t0 t1
   go_wp2_with fail
   go_meet
   exact⟨_,_,_,_,_,_,_,rfl,rfl,er_5,Z.o,HA.o,HV.o,HG.o,O.o⟩
  ·clear HW t0 t1
   go_wp2_with fail
   go_meet
   exact⟨_,_,_,_,_,_,_,rfl,rfl,er_6,(Yp pAnn rE1 tEC 0 100▸Z.o.set 34 (.string ⟨tEC.toArray⟩)),(Si.Blk.far HA.o ⟨PT,34,none⟩ (.string ⟨tEC.toArray⟩) av.o),(FM HV.o NP.o 34 (.string ⟨tEC.toArray⟩)),(Si.Blk.far HG.o ⟨PT,34,none⟩ (.string ⟨tEC.toArray⟩) bB.o),(Si.AI O.o bx.o _)⟩
  ·clear HW t0 t1
   go_wp2_with fail
   go_meet
   exact⟨_,_,_,_,_,_,_,rfl,rfl,er_7,(Yp pAnn rE1 teu 0 100▸Z.o.set 34 (.string ⟨teu.toArray⟩)),(Si.Blk.far HA.o ⟨PT,34,none⟩ (.string ⟨teu.toArray⟩) av.o),(FM HV.o NP.o 34 (.string ⟨teu.toArray⟩)),(Si.Blk.far HG.o ⟨PT,34,none⟩ (.string ⟨teu.toArray⟩) bB.o),(Si.AI O.o bx.o _)⟩
  ·clear HW t0 t1
   go_wp2_with fail
   go_meet
   exact⟨_,_,_,_,_,_,_,rfl,rfl,er_8,(Si.Blk.far (Si.Blk.far (eO pAnn pXc rE1 0 100▸(Z.o.set 0 (.string ⟨pXc.1.toArray⟩)).set 1 (.string ⟨pXc.2.toArray⟩)) ⟨PA,0,none⟩ (.string ⟨pXc.1.toArray⟩) (fun e=>av.o e.symm)) ⟨PA,1,none⟩ (.string ⟨pXc.2.toArray⟩) (fun e=>av.o e.symm)),(((Si.Blk.far (Si.Blk.far HA.o ⟨PT,0,none⟩ (.string ⟨pXc.1.toArray⟩) av.o) ⟨PT,1,none⟩ (.string ⟨pXc.2.toArray⟩) av.o).set 0 (.string ⟨pXc.1.toArray⟩)).set 1 (.string ⟨pXc.2.toArray⟩)),(FM (FM (FM (FM HV.o NP.o 0 (.string ⟨pXc.1.toArray⟩)) NP.o 1 (.string ⟨pXc.2.toArray⟩)) NA.o 0 (.string ⟨pXc.1.toArray⟩)) NA.o 1 (.string ⟨pXc.2.toArray⟩)),(Si.Blk.far (Si.Blk.far (Si.Blk.far (Si.Blk.far HG.o ⟨PT,0,none⟩ (.string ⟨pXc.1.toArray⟩) bB.o) ⟨PT,1,none⟩ (.string ⟨pXc.2.toArray⟩) bB.o) ⟨PA,0,none⟩ (.string ⟨pXc.1.toArray⟩) cb.o) ⟨PA,1,none⟩ (.string ⟨pXc.2.toArray⟩) cb.o),(Si.AI (Si.AI (Si.AI (Si.AI O.o bx.o _) bx.o _) ca.o _) ca.o _)⟩
 case rest=>
  obtain⟨kv,want,P,A,n,r,l',rfl,rfl,bq,hp,ha,hv,hg,M⟩:=hcut;replace Z:=I hp;replace HA:=I ha;replace HV:=I hv;replace HG:=I hg;replace O:=I M;clear hp ha hv hg M cT cc cx cq cd cu cB cr cw EP EA CN CM HW;obtain⟨cP,bb⟩:=Ak (ptA P);obtain⟨cA,bn⟩:=Ak (anA A);have cc:=I (show(Tryz.prog.info? 31).map (·.size)=some cP.size by rw[bb];exact Ii bq.ss);have cd:=I (show(Tryz.prog.info? 33).map (·.size)=some cA.size by rw[bn];exact LK _);rw[<-bb] at Z;rw[<-bn] at HA;have CR:=I (show ∀w1:World,Calls Tryz.prog 16 #[.int .i64 kv,.agg cP,.agg cA] w1 fun e w'=>∃v,e=.returned (.tuple #[v,.bool true])/\SlN (fun j=>j<w1.heap.size) w' v (rqL kv n P A)/\Below w1.heap.size w1 w' from fun w1=>by
   have h:=UP (kv:=kv) (n:=n) (p:=P) (a:=A) w1 bq.ss bq.pc bq.tr bq.ac bq.wr;rw[bq.ok] at h;rw[bb,bn];exact h)
  have cf:=I bq;clear bb bn bq
  go_upto_region 28 with(first
   |(refine Wh.AF (by rfl) 31 (.tmp 4) (by rfl) PT 0 (by rfl) cP _ (Wh.Ad Z.o) Tryz.underlying31 (by rfl) cc.o ?_)
   |(refine Wh.AF (by rfl) 33 (.tmp 5) (by rfl) PA 0 (by rfl) cA _ (Wh.Ad HA.o) Tryz.underlying33 (by rfl) cd.o ?_)
   |(go_at_call 16;refine Calls.mono (CR.o _) ?_;rintro e w2 ⟨v,rfl,hs,M⟩;clear CR;have SV:=I (hs.mono (S':=AO p es u) (fun j _ x=>HV.o.ad.ao_lt x));replace HV:=I (HV.o.below M);replace HG:=I (HG.o.below M);replace O:=O.t M;clear hs M)
   |fail)
  have T1:=I (OQ (k:=want) (n':=0+okN want) (m':=0+noN want) HV.o (by omega) (by omega) (by omega) (by decide) (by simp) SV.o (fun j x=>x) cf.o.lok cf.o.tak rfl cf.o.see rfl rfl);clear Z HA NP NA av cc cd bB cb bx ca;have kg:=HG.c0;have cR:=I HV.o.ad
  go_upto_region 29 with(first
   |(go_at_call 17;refine Calls.mono T1.o ?_;rintro e w3 ⟨cX,eg,u1,rfl,h1,h2,h3,h4,h5,hk⟩;clear T1 kg;have cL:=I h1;have cm:=I h2;have cY:=I h3;replace HV:=I h5;have cp:=hk.blk HG.o (fun y=>NG.o (.inl y));replace NG:=I (hk.notA NG.o HG.o.lt);replace HG:=I cp;clear cp;replace O:=I (O.o.trans (hk.base cR.o));clear h1 h2 h3 h4 h5 hk cR)
   |(refine Wh.Bc (by rfl) 54 (.tmp 10) (.tmp 71) (by rfl) 54 rfl cX (by rfl) (by rfl) (by rw[cL.o];rfl) cY.o cm.o ?_;rintro V3 hV M;replace HV:=I (HV.o.below M);replace HG:=I (HG.o.below M);replace O:=O.t M;clear hV M cL cY cm)
   |fail)
  have CC:=I (Ix HV.o.ad);have kg:=HG.c0;rcases ok_no want with⟨hw,h1,h2⟩ | ⟨hw,h1,h2⟩
  ·rw[h1,h2] at CC
   subst hw;clear h1 h2 cf
   go_wp2_with (first
    |(go_at_call 20;refine Aj CC.o ?_;rintro w6 M;clear CC kg;replace O:=O.t M;clear M)
    |(go_at_call 21;refine Aj (cg.o _) ?_;rintro wk M;replace O:=O.t M;clear M cg)
    |fail)
   go_ret;exact⟨rfl,O.o⟩
  ·rw[h1,h2] at CC
   have t5:(want==0)=false:=by simpa using hw
   have t6:decide (want=0)=false:=decide_eq_false hw;clear h1 h2 cf
   go_wp2_with (first
    |(go_at_call 20;refine Aj CC.o ?_;rintro w6 M;clear CC kg;replace O:=O.t M;clear M)
    |(go_at_call 21;refine Aj (cg.o _) ?_;rintro wk M;replace O:=O.t M;clear M cg)
    |fail)
   go_ret;exact⟨rfl,O.o⟩
theorem XA (M:Int) (w:World) (w0:(Lit.int .i64 M).wf=true):Calls Tryz.prog 7 #[.int .i64 M] w fun e w'=>e=.returned (.bool true)/\Below w.heap.size w w':=by
 by_cases h:M<0\/8<M
 ·exact eS M w h
 ·exact bd M w (by omega)
end Ac
end Go.Proofs.YtfbnjcdhipplpaaGreat
section
namespace Go.Proofs.YtfbnjcdhipplpaaGreat.acceptorErrs
open Go.ChangeShapes Go.WideShapes Go.ChangeAt Go.RowKit
open Go.ChangeMaps (open_string shut_string)
theorem own:ownKnob Tryz.prog.godebug=none:=by kernel_rfl
theorem laidOut:laidOutB Tryz.prog=true:=by kernel_rfl
theorem lifted (os:Os) (started:os.Started) (H:Type) (enc:TypeId×Value->H) :
  ReturnsInHanded {} Tryz.checked os 7 .any (Rows.acceptorErrsSpec.pre6 enc Tryz.prog Tryz.f7 Rows.acceptorErrsRow.domain false) (Rows.acceptorErrsSpec.post enc Tryz.prog Tryz.f7 false true false false):=by
 refine returnsInHanded_of_change (C:=Tryz.checked) own started (by kernel_rfl) Tryz.func7
  (ChangeSpec.witness6 (enc:=enc) (C:=Tryz.checked) false ⟨#[],#[.int .i64 0],[]⟩ 8 (by kernel_rfl) (by kernel_rfl) (by kernel_rfl) (by kernel_rfl)) ?_
 intro W base args ds gs before hval0 hW hcnd _;have hval:∀(j:Nat) t v,Tryz.f7.params[j]? = some t->args[j]? = some v->Value.okWide Tryz.prog W .any base t v:=hval0;have hW':=hW;obtain⟨p,q,hA0,hV,rfl,hfz,hnd⟩:=hW;have hA:DataW.TrodAll enc Tryz.prog W 0 (fun _=>true) true Tryz.f7.params.toList args.toList ds p:=hA0;rw[Tryz.params7] at hA hval;obtain⟨v0,vs0,d0,ds0,p0,q0,hargs,rfl,rfl,h0,r0⟩:=trodAll_cons hA;obtain⟨rfl,rfl,rfl⟩:=trodAll_nil r0;obtain rfl:args=#[v0]:=by cases args;simp_all
 obtain⟨rfl,rfl⟩:=trodVars_none hV;obtain⟨a0,rfl,rfl,rfl,w0⟩:=open_int Tryz.underlying3 (hval 0 3 v0 rfl rfl) h0;clear hA0 hval0;refine(Ac.XA a0 W w0).mono fun e W' ⟨he,bel⟩=>?_
 subst he;exact⟨_,rfl,_,_,_,[],_,[],hW',trodAll_mk1 (shut_bool Tryz.underlying4 _),(trodAll_cons_mk (shut_int Tryz.underlying3 w0) trodAll_mk0),rfl,bel.frame _,fun h=>by cases h⟩
theorem joined:joinedFacts Tryz.pinned.checked.prog 7 Tryz.f7 Rows.acceptorErrsSpec Rows.acceptorErrsRow=true:=by
 simp only[joinedFacts,Bool.and_eq_true]
 repeat' apply And.intro
 all_goals as_aux_lemma=>kernel_rfl
theorem over:Rows.acceptorErrsRow.holds Tryz.pinned (OpenSpec.ofChange Rows.acceptorErrsSpec):=
 OpenClaim.holds_of_wide 7 Tryz.f7 rfl rfl rfl rfl rfl rfl rfl ⟨rfl,rfl,rfl,rfl,rfl⟩ rfl rfl rfl rfl rfl (by kernel_rfl) Tryz.func7 joined
  (of_decide_eq_true (by kernel_rfl)) (by unfold Func.isWrapper;first | (rw[if_pos (by decide +kernel)];kernel_rfl) | (rw[if_neg (by decide +kernel)];exact⟨rfl,rfl⟩))
  (fun os started H enc _=>lifted os started H enc)
theorem proved:Rows.AcceptorErrsSaid:=over
end Go.Proofs.YtfbnjcdhipplpaaGreat.acceptorErrs
end
