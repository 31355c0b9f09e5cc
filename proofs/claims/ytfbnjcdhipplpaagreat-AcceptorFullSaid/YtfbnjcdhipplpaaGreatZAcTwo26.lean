/-
  The statements of AcceptorKeys, AcceptorFull: one frame each.
-/
import Derived.Test.YtfbnjcdhipplpaaGreatZAcTwo25
set_option maxHeartbeats 25600000
set_option maxRecDepth 100000
set_option linter.unusedVariables false
set_option linter.unusedSimpArgs false
namespace Go.Proofs.YtfbnjcdhipplpaaGreat
namespace Ac
open Go.RowKit Af Se Kd
open Nm (L Own)
open Rg (It Ent Ring RO its)
open Ms (Pt An Mg pSm tmB ptB anB)
open Rp (seeE seeL Tm)
theorem Va (tr:L) (en:Int):Tryz.prog.built 31 [(0,Kd.prV pAnn),(1,.agg (Be (k1 7))),(2,.string ⟨tr.toArray⟩),(4,.int .i64 en)]=some (ptA ⟨pAnn,k1L 7,tr,0,en⟩):=by
 rw[eD];show some (Ms.prC pAnn++((Be (k1 7)).toList++_)).toArray=some (Ms.prC pAnn++(bvs (k1L 7)++_)).toArray;rw[<-Ys]
theorem Vb (now:Int):Tryz.prog.built 33 [(0,Kd.prV pAnn),(1,.int .i64 now)]=some (anA ⟨pAnn,now,0⟩):=by kernel_rfl
theorem aY {kv:Int} (O:1<=kv) (M:kv<=9):∃n:UInt8,IntKind.u8.wrap kv=(n.toNat:Int)/\(kv=1->n=1)/\(kv=2->n=2):=by
 have h:kv=1\/kv=2\/kv=3\/kv=4\/kv=5\/kv=6\/kv=7\/kv=8\/kv=9:=by omega
 rcases h with rfl | rfl | rfl | rfl | rfl | rfl | rfl | rfl | rfl
 ·exact⟨1,rfl,fun _=>rfl,fun h=>absurd h (by decide)⟩
 ·exact⟨2,rfl,fun h=>absurd h (by decide),fun _=>rfl⟩
 ·exact⟨3,rfl,fun h=>absurd h (by decide),fun h=>absurd h (by decide)⟩
 ·exact⟨4,rfl,fun h=>absurd h (by decide),fun h=>absurd h (by decide)⟩
 ·exact⟨5,rfl,fun h=>absurd h (by decide),fun h=>absurd h (by decide)⟩
 ·exact⟨6,rfl,fun h=>absurd h (by decide),fun h=>absurd h (by decide)⟩
 ·exact⟨7,rfl,fun h=>absurd h (by decide),fun h=>absurd h (by decide)⟩
 ·exact⟨8,rfl,fun h=>absurd h (by decide),fun h=>absurd h (by decide)⟩
 ·exact⟨9,rfl,fun h=>absurd h (by decide),fun h=>absurd h (by decide)⟩
theorem Vc {a:An} {now:Int} (h:a.t=now):seeE false 0 [] a now=0/\seeL false 0 [] a now = [a]:=by
 have M:Rp.skw false 0 a.t now=false:=by
  have e:Rp.old now now=false:=decide_eq_false (by omega);rw[h,Rp.skw,e];rfl
 constructor
 ·rw[seeE,M];rfl
 ·rw[seeL,M];rfl
theorem eI {c:Nm.L×Nm.L} {ss tr:L} {s e:Int} (Z:Ms.prB c=true) (h2:Ms.txtB tr=true) (h3:tr.length<=300) (M:tmB s=true) (O:tmB e=true):ptB ⟨c,ss,tr,s,e⟩=true:=by
 show(Ms.txtB tr&&(Ms.prB c&&(decide (tr.length<=300)&&(tmB s&&tmB e))))=true;rw[Z,h2,M,O,decide_eq_true h3];rfl
theorem eO {c:Nm.L×Nm.L} {t q:Int} (Z:Ms.prB c=true) (O:tmB t=true) (M:tmB q=true):anB ⟨c,t,q⟩=true:=by
 show(Ms.prB c&&(tmB t&&tmB q))=true;rw[Z,O,M];rfl
theorem Vd:Ms.prB pAnn=true:=by decide +kernel
theorem aZ {n:Int} (O:0<=n) (M:n<=1073741824):tmB n=true:=by simp [tmB,Ms.inB,O,M]
theorem XC {kv now:Int} {n:UInt8} (h1:1<=kv) (h2:kv<=9) (h3:0<=now) (h4:now<=1000) (hn:(kv=1->n=1)/\(kv=2->n=2)) :
  rqOk kv n ⟨pAnn,k1L 7,rE1,0,now⟩ ⟨pAnn,now,0⟩=true/\lokL pSv tT itS (rqL kv n ⟨pAnn,k1L 7,rE1,0,now⟩ ⟨pAnn,now,0⟩) now=if 2<kv then lk0 4 else ⟨0,⟨pAnn,k1L 7,rE1,0,now⟩,⟨pAnn,now,0⟩,[rE1]⟩:=by
 have O:=aZ h3 (by omega);have M:rqOk kv n ⟨pAnn,k1L 7,rE1,0,now⟩ ⟨pAnn,now,0⟩=true:=On (DQ 7) (eI Vd (by decide) (by decide) (by decide) O) (eO Vd O (by decide)) h1 (by omega);refine⟨M,?_⟩;have Z:lkD ⟨pAnn,k1L 7,rE1,0,now⟩ ⟨pAnn,now,0⟩ now=⟨0,⟨pAnn,k1L 7,rE1,0,now⟩,⟨pAnn,now,0⟩,[rE1]⟩:=by
  unfold lkD;rw[if_neg (show ¬now<now by omega),if_neg (show ¬now+5<(0:Int) by omega),if_pos rfl,eG rfl rfl]
 by_cases h:2<kv
 ·rw[if_pos h]
  exact lok_n (DQ 7) M (by omega) (by omega) O
 ·rw[if_neg h]
  have hk:kv=1\/kv=2:=by omega
  rcases hk with rfl | rfl
  ·obtain rfl:=hn.1 rfl
   rw[lok_1 (DQ 7) M O,Z]
  ·obtain rfl:=hn.2 rfl
   rw[ZZ (DQ 7) M O,Z]
theorem eS (kv now:Int) (w:World) (h:kv<1\/9<kv\/now<0\/1000<now):Calls Tryz.prog 9 #[.int .i64 kv,.int .i64 now] w fun e w'=>e=.returned (.bool true)/\Below w.heap.size w w':=by
 by_cases g0:kv<1
 ·have Z:decide (kv<1)=true:=decide_eq_true g0
  clear g0 h;go_enter Tryz.func9,Tryz.ntmps9
  go_wp2
  go_ret;exact⟨rfl,Below.refl _ _⟩
 have Z:decide (kv<1)=false:=decide_eq_false g0
 by_cases g1:9<kv
 ·have t1:decide (9<kv)=true:=decide_eq_true g1
  clear g0 g1 h;go_enter Tryz.func9,Tryz.ntmps9
  go_wp2
  go_ret;exact⟨rfl,Below.refl _ _⟩
 have t1:decide (9<kv)=false:=decide_eq_false g1
 by_cases g2:now<0
 ·have O:decide (now<0)=true:=decide_eq_true g2
  clear g0 g1 g2 h;go_enter Tryz.func9,Tryz.ntmps9
  go_wp2
  go_ret;exact⟨rfl,Below.refl _ _⟩
 have O:decide (now<0)=false:=decide_eq_false g2;have M:1000<now:=by omega
 have t3:decide (1000<now)=true:=decide_eq_true M;clear g0 g1 g2 M h;go_enter Tryz.func9,Tryz.ntmps9
 go_wp2
 go_ret;exact⟨rfl,Below.refl _ _⟩
theorem ba (kv now:Int) (w:World) (h1:1<=kv) (h2:kv<=9) (h3:0<=now) (h4:now<=1000):Calls Tryz.prog 9 #[.int .i64 kv,.int .i64 now] w fun e w'=>e=.returned (.bool true)/\Below w.heap.size w w':=by
 obtain⟨n,hw,hn⟩:=aY h1 h2;obtain⟨cc,av⟩:=XC h1 h2 h3 h4 hn;have t0:decide (kv<1)=false:=decide_eq_false (by omega);have t1:decide (9<kv)=false:=decide_eq_false (by omega);have t2:decide (now<0)=false:=decide_eq_false (by omega);have t3:decide (1000<now)=false:=decide_eq_false (by omega);obtain⟨cK,cb⟩:=Ak (Be (k1 7));obtain⟨P,eP⟩:∃z:Pt,z=⟨pAnn,k1L 7,rE1,0,now⟩:=⟨_,rfl⟩;obtain⟨A,eA⟩:∃z:An,z=⟨pAnn,now,0⟩:=⟨_,rfl⟩;obtain⟨cP,cd⟩:=Ak (ptA P);obtain⟨cA,ca⟩:=Ak (anA A);have cj:=I (show Tryz.prog.built 29 [(0,.int .u8 7)]=some cK by rw[cb];exact Hk 7);have cn:=I (show Tryz.prog.built 31 [(0,Kd.prV pAnn),(1,.agg cK),(2,.string ⟨#[69,68,85]⟩),(4,.int .i64 now)]=some cP by rw[cb,cd,eP];exact Va rE1 now);have cm:=I (show Tryz.prog.built 33 [(0,Kd.prV pAnn),(1,.int .i64 now)]=some cA by rw[ca,eA];exact Vb now);rw[<-eP,<-eA] at cc av;have CR:=I (show ∀w1:World,Calls Tryz.prog 16 #[.int .i64 kv,.agg cP,.agg cA] w1 fun e w'=>∃v,e=.returned (.tuple #[v,.bool true])/\SlN (fun j=>j<w1.heap.size) w' v (rqL kv n P A)/\Below w1.heap.size w1 w' from fun w1=>by
  have h:=UL (kv:=kv) (n:=n) (p:=P) (a:=A) w1 (by rw[eP];exact DQ 7) (by rw[eP];exact sAnn) (by rw[eP];exact(show rE1.length<=1000000 by decide)) (by rw[eA];exact sAnn) hw;rw[cc] at h;rw[cd,ca];exact h)
 have ck:=I (Vc (a:=A) (now:=now) (by rw[eA]));obtain⟨bq,cg⟩:=Ak (rqL kv n P A);rw[<-cg] at CR av
 by_cases h:2<kv
 ·have cf:=I (show lokL pSv tT itS bq now=lk0 4 by rw[av,if_pos h])
  have t4:decide (2<kv)=true:=decide_eq_true h;clear hn hw cc av cb eP eA cd ca cg h h1 h2 h3 h4;have CB:=I (fun(w1:World)=>Ej 0 w1);have CN:=I (fun(w1:World)=>Xs w1);have bz:=I (fun(w1:World)=>LJ w1);go_enter Tryz.func9,Tryz.ntmps9
  go_upto_region 7 with(first
   |(go_at_call 13;refine Calls.mono (CB.o _) ?_;rintro e w1 ⟨g,p,es,u,rfl,hs⟩;clear CB;have HV:=I (show Sv w1 w.heap.size p es u false 0 [] 0 0 0 from hs.sv);have O:=I hs.b;obtain⟨x,hg⟩:=hs.blk;have Z:=I hg;have NG:=I hs.ng;clear hs hg)
   |(go_at_call 22;refine Aj (CN.o _) ?_;rintro wa M;replace HV:=I (HV.o.below M);replace Z:=I (Z.o.below M);replace O:=O.t M;clear M)
   |(refine Mc.Ad (by rfl) 29 #[(0,.const (.int .u8 7))] (by rfl) cK (by simp only[List.map_toArray,List.map_cons,List.map_nil];exact cj.o) ?_)
   |(refine Mc.Ad (by rfl) 31 #[(0,.tmp 29),(1,.tmp 30),(2,.const (.string ⟨#[69,68,85]⟩)),(4,.tmp 31)] (by rfl) cP (by simp only[List.map_toArray,List.map_cons,List.map_nil];exact cn.o) ?_)
   |(refine Mc.Ad (by rfl) 33 #[(0,.tmp 33),(1,.tmp 34)] (by rfl) cA (by simp only[List.map_toArray,List.map_cons,List.map_nil];exact cm.o) ?_)
   |(go_at_call 16;refine Calls.mono (CR.o _) ?_;rintro e w2 ⟨v,rfl,hs,M⟩;clear CR;have SV:=I (hs.mono (S':=AO p es u) (fun j _ x=>HV.o.ad.ao_lt x));replace HV:=I (HV.o.below M);replace Z:=I (Z.o.below M);replace O:=O.t M;clear hs M)
   |fail)
  have T1:=I (Gw (k:=4) (n':=0) (m':=1) HV.o (by omega) (by omega) (by omega) (by decide) (by simp) SV.o (fun j x=>x) cf.o rfl rfl rfl rfl rfl);have kg:=Z.c0;have bn:=I HV.o.ad
  go_upto_region 8 with(first
   |(go_at_call 17;refine Calls.mono T1.o ?_;rintro e w3 ⟨cX,cp,u1,rfl,h1,h2,h3,h4,h5,hk⟩;clear T1 kg;have bx:=I h1;have bB:=I h2;have bb:=I h3;replace HV:=I h5;have aw:=hk.blk Z.o (fun y=>NG.o (.inl y));replace NG:=I (hk.notA NG.o Z.o.lt);replace Z:=I aw;clear aw;replace O:=I (O.o.trans (hk.base bn.o));clear h1 h2 h3 h4 h5 hk bn)
   |(refine Wh.AZ (by rfl) 54 (.tmp 8) (.tmp 47) (by rfl) 54 rfl cX (by rfl) (by rfl) (by rw[bx.o];rfl) bb.o bB.o ?_;rintro V hV M;replace HV:=I (HV.o.below M);replace Z:=I (Z.o.below M);replace O:=O.t M;clear hV M bx bb bB)
   |fail)
  go_wp2_with (first
   |(go_at_call 21;refine Aj (bz.o _) ?_;rintro wk M;replace O:=O.t M;clear M bz)
   |fail)
  go_ret;exact⟨rfl,O.o⟩
 ·have cf:=I (show lokL pSv tT itS bq now=⟨0,P,A,[rE1]⟩ by rw[av,if_neg h])
  have t4:decide (2<kv)=false:=decide_eq_false h;clear hn hw cc av cb eP eA cd ca cg h h1 h2 h3 h4;have CB:=I (fun(w1:World)=>Ej 0 w1);have CN:=I (fun(w1:World)=>Xs w1);have bz:=I (fun(w1:World)=>LJ w1);go_enter Tryz.func9,Tryz.ntmps9
  go_upto_region 7 with(first
   |(go_at_call 13;refine Calls.mono (CB.o _) ?_;rintro e w1 ⟨g,p,es,u,rfl,hs⟩;clear CB;have HV:=I (show Sv w1 w.heap.size p es u false 0 [] 0 0 0 from hs.sv);have O:=I hs.b;obtain⟨x,hg⟩:=hs.blk;have Z:=I hg;have NG:=I hs.ng;clear hs hg)
   |(go_at_call 22;refine Aj (CN.o _) ?_;rintro wa M;replace HV:=I (HV.o.below M);replace Z:=I (Z.o.below M);replace O:=O.t M;clear M)
   |(refine Mc.Ad (by rfl) 29 #[(0,.const (.int .u8 7))] (by rfl) cK (by simp only[List.map_toArray,List.map_cons,List.map_nil];exact cj.o) ?_)
   |(refine Mc.Ad (by rfl) 31 #[(0,.tmp 29),(1,.tmp 30),(2,.const (.string ⟨#[69,68,85]⟩)),(4,.tmp 31)] (by rfl) cP (by simp only[List.map_toArray,List.map_cons,List.map_nil];exact cn.o) ?_)
   |(refine Mc.Ad (by rfl) 33 #[(0,.tmp 33),(1,.tmp 34)] (by rfl) cA (by simp only[List.map_toArray,List.map_cons,List.map_nil];exact cm.o) ?_)
   |(go_at_call 16;refine Calls.mono (CR.o _) ?_;rintro e w2 ⟨v,rfl,hs,M⟩;clear CR;have SV:=I (hs.mono (S':=AO p es u) (fun j _ x=>HV.o.ad.ao_lt x));replace HV:=I (HV.o.below M);replace Z:=I (Z.o.below M);replace O:=O.t M;clear hs M)
   |fail)
  have T1:=I (Gw (k:=0) (n':=1) (m':=0) HV.o (by omega) (by omega) (by omega) (by decide) (by simp) SV.o (fun j x=>x) cf.o ck.o.1 rfl ck.o.2 rfl rfl);have kg:=Z.c0;have bn:=I HV.o.ad
  go_upto_region 8 with(first
   |(go_at_call 17;refine Calls.mono T1.o ?_;rintro e w3 ⟨cX,cp,u1,rfl,h1,h2,h3,h4,h5,hk⟩;clear T1 kg;have bx:=I h1;have bB:=I h2;have bb:=I h3;replace HV:=I h5;have aw:=hk.blk Z.o (fun y=>NG.o (.inl y));replace NG:=I (hk.notA NG.o Z.o.lt);replace Z:=I aw;clear aw;replace O:=I (O.o.trans (hk.base bn.o));clear h1 h2 h3 h4 h5 hk bn)
   |(refine Wh.AZ (by rfl) 54 (.tmp 8) (.tmp 47) (by rfl) 54 rfl cX (by rfl) (by rfl) (by rw[bx.o];rfl) bb.o bB.o ?_;rintro V hV M;replace HV:=I (HV.o.below M);replace Z:=I (Z.o.below M);replace O:=O.t M;clear hV M bx bb bB)
   |fail)
  go_wp2_with (first
   |(go_at_call 21;refine Aj (bz.o _) ?_;rintro wk M;replace O:=O.t M;clear M bz)
   |fail)
  go_ret;exact⟨rfl,O.o⟩
theorem XD (kv now:Int) (w:World) (w0:(Lit.int .i64 kv).wf=true) (w1:(Lit.int .i64 now).wf=true):Calls Tryz.prog 9 #[.int .i64 kv,.int .i64 now] w fun e w'=>e=.returned (.bool true)/\Below w.heap.size w w':=by
 by_cases h:kv<1\/9<kv\/now<0\/1000<now
 ·exact eS kv now w h
 ·exact ba kv now w (by omega) (by omega) (by omega) (by omega)
def snL (i:Nat):List An:=(List.range (min i 8)).map fun(j:Nat)=>anR 10 (j:Int)
theorem Nc (i:Nat):(snL i).length=min i 8:=by simp [snL]
theorem sn_t {i:Nat} {a:An} (h:a∈snL i):a.t=10/\∃j:Nat,j<min i 8/\a=anR 10 (j:Int):=by
 simp only[snL,List.mem_map,List.mem_range] at h;obtain⟨j,M,rfl⟩:=h;exact⟨rfl,j,M,rfl⟩
theorem Ve (i:Nat) (d:Int) (O:0<=d):Rp.BO (10+d) (snL i)=if d<=5 then snL i else []:=by
 by_cases h:d<=5
 ·rw[if_pos h,Rp.BO,List.filter_eq_self]
  intro a M;have:=(sn_t M).1;simp [Rp.old,this];omega
 ·rw[if_neg h,Rp.BO,List.filter_eq_nil_iff]
  intro a M;have:=(sn_t M).1;simp [Rp.old,this];omega
theorem Vf {a:An} {now:Int} (h:a.t=now):Rp.skw false 0 a.t now=false:=by
 have e:Rp.old now now=false:=decide_eq_false (by omega);rw[h,Rp.skw,e];rfl
theorem eU (i:Nat):seeE false 0 (snL i) (anR 10 (i:Int)) 10=(if i<8 then 0 else 13)/\seeL false 0 (snL i) (anR 10 (i:Int)) 10=snL (i+1):=by
 have M:Rp.skw false 0 (anR 10 (i:Int)).t 10=false:=Vf rfl;have Z:Rp.BO 10 (snL i)=snL i:=(Ve i 0 (by omega)).trans (if_pos (by omega));have h3:¬anR 10 (i:Int)∈snL i:=fun h=>by
  obtain⟨j,hj,e⟩:=(sn_t h).2;have:(i:Int)=(j:Int):=congrArg An.q e;omega
 have h4:=Nc i;have O:¬(false=true):=by decide
 by_cases h:i<8
 ·rw[if_pos h]
  constructor
  ·rw[seeE,M,if_neg O,Z,if_neg h3,if_neg (by omega)]
  ·rw[seeL,M,if_neg O,Z,if_neg (fun x=>x.elim h3 (by omega)),snL,snL,show min i 8=i by omega,show min (i+1) 8=i+1 by omega,List.range_succ,List.map_append];rfl
 ·rw[if_neg h]
  constructor
  ·rw[seeE,M,if_neg O,Z,if_neg h3,if_pos (by omega)]
  ·rw[seeL,M,if_neg O,Z,if_pos (.inr (by omega)),snL,snL,show min i 8=8 by omega,show min (i+1) 8=8 by omega]
theorem bc (i:Nat) (d:Int) (hi:i<=15) (Z:0<=d):seeE false 0 (snL i) (anR (10+d) 99) (10+d)=if 8<=i/\d<=5 then 13 else 0:=by
 have M:Rp.skw false 0 (anR (10+d) 99).t (10+d)=false:=Vf rfl;have O:¬anR (10+d) 99∈Rp.BO (10+d) (snL i):=fun h=>by
  obtain⟨j,hj,e⟩:=(sn_t (Rp.Pz h)).2;have:(99:Int)=(j:Int):=congrArg An.q e;omega
 have h4:=Nc i;rw[seeE,M,if_neg (show ¬(false=true) by decide),if_neg O,Ve i d Z]
 by_cases hd:d<=5
 ·rw[if_pos hd]
  by_cases h:8<=i
  ·rw[if_pos (by omega),if_pos ⟨h,hd⟩]
  ·rw[if_neg (by omega),if_neg (fun x=>h x.1)]
 ·rw[if_neg hd,if_neg (by simp),if_neg (fun x=>hd x.2)]
theorem exp_0:Tr.expL [] rA rB=([],0):=by decide +kernel
theorem pas_0 (st en:Int) (ss:L):pasL tT rB ⟨pAnn,ss,[],st,en⟩=(0,[]):=by
 unfold pasL;rw[show(⟨pAnn,ss,[],st,en⟩:Pt).c.1=rA from rfl,show(⟨pAnn,ss,[],st,en⟩:Pt).tr = [] from rfl,exp_0]
 rfl
theorem JU {t q:Int} (O:tmB t=true) (Z:tmB q=true):rqOk 2 2 (ptR []) (anR t q)=true/\lokL pSv tT itS (rqL 2 2 (ptR []) (anR t q)) t=⟨0,ptR [],anR t q,[]⟩:=by
 have M:rqOk 2 2 (ptR []) (anR t q)=true:=On (DQ 7) (UW (by decide) (by decide)) (UX O Z) (by decide) (by decide);refine⟨M,?_⟩;rw[ZZ (DQ 7) M O,eH O];unfold lokC;rw[show pasL tT rB (ptR [])=(0,[]) from pas_0 0 1073741824 (k1L 7)]
 rfl
theorem eY (n M:Int) (w:World) (h:n<0\/15<n\/M<0\/20<M):Calls Tryz.prog 10 #[.int .i64 n,.int .i64 M] w fun e w'=>e=.returned (.bool true)/\Below w.heap.size w w':=by
 by_cases g0:n<0
 ·have t0:decide (n<0)=true:=decide_eq_true g0
  clear g0 h;go_enter Tryz.func10,Tryz.ntmps10
  go_wp2
  go_ret;exact⟨rfl,Below.refl _ _⟩
 have t0:decide (n<0)=false:=decide_eq_false g0
 by_cases g1:15<n
 ·have t1:decide (15<n)=true:=decide_eq_true g1
  clear g0 g1 h;go_enter Tryz.func10,Tryz.ntmps10
  go_wp2
  go_ret;exact⟨rfl,Below.refl _ _⟩
 have t1:decide (15<n)=false:=decide_eq_false g1
 by_cases g2:M<0
 ·have Z:decide (M<0)=true:=decide_eq_true g2
  clear g0 g1 g2 h;go_enter Tryz.func10,Tryz.ntmps10
  go_wp2
  go_ret;exact⟨rfl,Below.refl _ _⟩
 have Z:decide (M<0)=false:=decide_eq_false g2;have O:20<M:=by omega
 have t3:decide (20<M)=true:=decide_eq_true O;clear g0 g1 g2 O h;go_enter Tryz.func10,Tryz.ntmps10
 go_wp2
 go_ret;exact⟨rfl,Below.refl _ _⟩
theorem bd (n M:Int) (w:World) (h:0<=n/\n<=15/\0<=M/\M<=20):Calls Tryz.prog 10 #[.int .i64 n,.int .i64 M] w fun e w'=>e=.returned (.bool true)/\Below w.heap.size w w':=by
 obtain⟨N,rfl⟩:∃N:Nat,n=(N:Int):=⟨n.toNat,by omega⟩;have hN:N<=15:=by omega
 have t0:decide ((N:Int)<0)=false:=decide_eq_false (by omega);have t1:decide (15<(N:Int))=false:=decide_eq_false (by omega);have t2:decide (M<0)=false:=decide_eq_false (by omega);have t3:decide (20<M)=false:=decide_eq_false (by omega);have CB:=I (fun(w1:World)=>Ej 0 w1);have bx:=I (fun(w1:World)=>LJ w1);have HN:=I hN;have HL:=I h.2.2;clear h hN;go_enter Tryz.func10,Tryz.ntmps10
 go_upto_region 6 with(first
  |(go_at_call 13;refine Calls.mono (CB.o _) ?_;rintro e w1 ⟨g,p,es,u,rfl,hs⟩;clear CB;have HV:=I (show Sv w1 w.heap.size p es u false 0 [] 0 0 0 from hs.sv);have HB:=I hs.b;obtain⟨x,hg⟩:=hs.blk;have HG:=I hg;have NG:=I hs.ng;clear hs hg)
  |fail)
 go_wp2
 go_loopw [6] (fun iv wr=>∃(i:Nat) (es:List Ent) (u:Value),i<=N/\iv=.int .i64 (i:Int)/\Sv wr w.heap.size p es u false 0 (snL i) (min i 8) (i - min i 8) (2*i)/\Blk wr g 40 #[.pointer (some ⟨p.a,0,none⟩),.pointer (some ⟨x,0,none⟩)]/\¬AA p es u g/\Below w.heap.size w wr) (fun iv _=>N - (intOf iv).toNat)
 case atStart=>exact⟨0,es,u,Nat.zero_le _,rfl,HV.o,HG.o,NG.o,HB.o⟩
 case round=>
  obtain⟨i,es,u,hi,rfl,hv,hg,hn,O⟩:=hrel;replace HV:=I hv;replace HG:=I hg;replace NG:=I hn;replace HB:=I O;clear hv hg hn O
  by_cases hlt:i<N
  ·have e1:(i:Int)<(N:Int):=by omega
   have e2:(0:Int)<=(i:Int):=by omega
   have hN:=HN.o;have bz:tmB (i:Int)=true:=aZ (by omega) (by omega);have Z:=eU i;have CR:=I (fun(w1:World)=>(show Calls Tryz.prog 24 #[.int .i64 10,.int .i64 (i:Int),.string ⟨#[]⟩] w1 fun e w'=>∃v,e=.returned (.tuple #[v,.bool true])/\SlN (fun j=>j<w1.heap.size) w' v (rqL 2 2 (ptR []) (anR 10 (i:Int)))/\Below w1.heap.size w1 w' by
    have h:=JT 10 (i:Int) [] w1 (by decide);rw[(JU (t:=10) (by decide) bz).1] at h;exact h))
   go_upto_region 10 with(first
    |(go_at_call 24;refine Calls.mono (CR.o _) ?_;rintro e w2 ⟨v,rfl,hs,O⟩;clear CR;have SV:=I (hs.mono (S':=AO p es u) (fun j _ x=>HV.o.ad.ao_lt x));replace HV:=I (HV.o.below O);replace HG:=I (HG.o.below O);replace HB:=HB.t O;clear hs O)
    |fail)
   by_cases h8:i<8
   ·have e8:decide ((i:Int)<8)=true:=decide_eq_true (by omega)
    have T1:=I (Gw (k:=0) (n':=min (i+1) 8) (m':=i+1 - min (i+1) 8) HV.o (by omega) (by omega) (by omega) (by decide) (by rw[Nc];omega) SV.o (fun j x=>x) (JU (by decide) bz).2 (Z.1.trans (if_pos h8)) rfl Z.2 (by show min i 8+okN 0=min (i+1) 8;show min i 8+1=_;omega) (by show i - min i 8+0=_;omega));clear Z bz;have kg:=HG.c0;have bb:=I HV.o.ad
    go_wp2_with (first
     |(go_at_call 17;refine Calls.mono T1.o ?_;rintro e w3 ⟨cX,bB,u1,rfl,h1,h2,h3,h4,h5,hk⟩;clear T1 kg;have bn:=I h1;have bq:=I h2;have aw:=I h3;replace HV:=I h5;have av:=hk.blk HG.o (fun y=>NG.o (.inl y));replace NG:=I (hk.notA NG.o HG.o.lt);replace HG:=I av;clear av;replace HB:=I (HB.o.trans (hk.base bb.o));clear h1 h2 h3 h4 h5 hk bb)
     |(refine Wh.AZ (by rfl) 54 (.tmp 9) (.tmp 49) (by rfl) 54 rfl cX (by rfl) (by rfl) (by rw[bn.o];rfl) aw.o bq.o ?_;rintro V hV O;replace HV:=I (HV.o.below O);replace HG:=I (HG.o.below O);replace HB:=HB.t O;clear hV O bn aw bq)
     |fail)
    go_roundw
    case rel=>exact⟨i+1,bB,u1,by omega,by go_num,(show 2*(i+1)=2*i+2 by omega)▸HV.o,HG.o,NG.o,HB.o⟩
    case measure=>simp [intOf];omega
   ·have e8:decide ((i:Int)<8)=false:=decide_eq_false (by omega)
    have T1:=I (Gw (k:=13) (n':=min (i+1) 8) (m':=i+1 - min (i+1) 8) HV.o (by omega) (by omega) (by omega) (by decide) (by rw[Nc];omega) SV.o (fun j x=>x) (JU (by decide) bz).2 (Z.1.trans (if_neg h8)) rfl Z.2 (by show min i 8+0=min (i+1) 8;omega) (by show i - min i 8+1=_;omega));clear Z bz;have kg:=HG.c0;have bb:=I HV.o.ad
    go_wp2_with (first
     |(go_at_call 17;refine Calls.mono T1.o ?_;rintro e w3 ⟨cX,bB,u1,rfl,h1,h2,h3,h4,h5,hk⟩;clear T1 kg;have bn:=I h1;have bq:=I h2;have aw:=I h3;replace HV:=I h5;have av:=hk.blk HG.o (fun y=>NG.o (.inl y));replace NG:=I (hk.notA NG.o HG.o.lt);replace HG:=I av;clear av;replace HB:=I (HB.o.trans (hk.base bb.o));clear h1 h2 h3 h4 h5 hk bb)
     |(refine Wh.AZ (by rfl) 54 (.tmp 9) (.tmp 49) (by rfl) 54 rfl cX (by rfl) (by rfl) (by rw[bn.o];rfl) aw.o bq.o ?_;rintro V hV O;replace HV:=I (HV.o.below O);replace HG:=I (HG.o.below O);replace HB:=HB.t O;clear hV O bn aw bq)
     |fail)
    go_roundw
    case rel=>exact⟨i+1,bB,u1,by omega,by go_num,(show 2*(i+1)=2*i+2 by omega)▸HV.o,HG.o,NG.o,HB.o⟩
    case measure=>simp [intOf];omega
  ·have e1:¬(i:Int)<(N:Int):=by omega
   obtain rfl:i=N:=by omega
   have ca:tmB (10+M)=true:=aZ (by have:=HL.o;omega) (by have:=HL.o;omega);have hN:=HN.o;have Z:=bc i M HN.o HL.o.1;have CR:=I (fun(w1:World)=>(show Calls Tryz.prog 24 #[.int .i64 (10+M),.int .i64 99,.string ⟨#[]⟩] w1 fun e w'=>∃v,e=.returned (.tuple #[v,.bool true])/\SlN (fun j=>j<w1.heap.size) w' v (rqL 2 2 (ptR []) (anR (10+M) 99))/\Below w1.heap.size w1 w' by
    have h:=JT (10+M) 99 [] w1 (by decide);rw[(JU (t:=10+M) (q:=99) ca (by decide)).1] at h;exact h))
   have cb:=HL.o
   go_upto_region 14 with(first
    |(go_at_call 24;refine Calls.mono (CR.o _) ?_;rintro e w2 ⟨v,rfl,hs,O⟩;clear CR;have SV:=I (hs.mono (S':=AO p es u) (fun j _ x=>HV.o.ad.ao_lt x));replace HV:=I (HV.o.below O);replace HG:=I (HG.o.below O);replace HB:=HB.t O;clear hs O)
    |fail)
   obtain⟨k,ek⟩:=Ak (seeE false 0 (snL i) (anR (10+M) 99) (10+M));have T1:=I (Gw (k:=k) HV.o (by omega) (by omega) (by omega) (by decide) (by rw[Nc];omega) SV.o (fun j x=>x) (JU ca (by decide)).2 ek.symm rfl rfl rfl rfl);rw[<-ek] at Z;clear ek ca;have kg:=HG.c0;have bb:=I HV.o.ad
   go_upto_region 15 with(first
    |(go_at_call 17;refine Calls.mono T1.o ?_;rintro e w3 ⟨cX,bB,u1,rfl,h1,h2,h3,h4,h5,hk⟩;clear T1 kg;have bn:=I h1;have bq:=I h2;have aw:=I h3;replace HV:=I h5;have av:=hk.blk HG.o (fun y=>NG.o (.inl y));replace NG:=I (hk.notA NG.o HG.o.lt);replace HG:=I av;clear av;replace HB:=I (HB.o.trans (hk.base bb.o));clear h1 h2 h3 h4 h5 hk bb)
    |(refine Wh.AZ (by rfl) 54 (.tmp 13) (.tmp 79) (by rfl) 54 rfl cX (by rfl) (by rfl) (by rw[bn.o];rfl) aw.o bq.o ?_;rintro V hV O;replace HV:=I (HV.o.below O);replace HG:=I (HG.o.below O);replace HB:=HB.t O;clear hV O bn aw bq)
    |fail)
   by_cases h8:8<=i
   ·have f1:decide ((8:Int)<=(i:Int))=true:=decide_eq_true (by omega)
    have g8:(8:Int)<=(i:Int):=by omega
    by_cases h5:M<=5
    ·have f2:decide (M<=5)=true:=decide_eq_true h5
     obtain rfl:k=13:=Z.trans (if_pos ⟨h8,h5⟩);clear Z cb hN
     go_wp2_with (first
      |(go_at_call 21;refine Aj (bx.o _) ?_;rintro wk O;replace HB:=HB.t O;clear O bx)
      |fail)
     go_ret;exact⟨rfl,HB.o⟩
    ·have f2:decide (M<=5)=false:=decide_eq_false h5
     obtain rfl:k=0:=Z.trans (if_neg (fun x=>h5 x.2));clear Z cb hN
     go_wp2_with (first
      |(go_at_call 21;refine Aj (bx.o _) ?_;rintro wk O;replace HB:=HB.t O;clear O bx)
      |fail)
     go_ret;exact⟨rfl,HB.o⟩
   ·have f1:decide ((8:Int)<=(i:Int))=false:=decide_eq_false (by omega)
    have g8:¬(8:Int)<=(i:Int):=by omega
    obtain rfl:k=0:=Z.trans (if_neg (fun x=>h8 x.1));clear Z cb hN
    go_wp2_with (first
     |(go_at_call 21;refine Aj (bx.o _) ?_;rintro wk O;replace HB:=HB.t O;clear O bx)
     |fail)
    go_ret;exact⟨rfl,HB.o⟩
theorem XE (n M:Int) (w:World) (w0:(Lit.int .i64 n).wf=true) (w1:(Lit.int .i64 M).wf=true):Calls Tryz.prog 10 #[.int .i64 n,.int .i64 M] w fun e w'=>e=.returned (.bool true)/\Below w.heap.size w w':=by
 by_cases h:n<0\/15<n\/M<0\/20<M
 ·exact eY n M w h
 ·exact bd n M w (by omega)
end Ac
end Go.Proofs.YtfbnjcdhipplpaaGreat
section
namespace Go.Proofs.YtfbnjcdhipplpaaGreat.acceptorKeys
open Go.ChangeShapes Go.WideShapes Go.ChangeAt Go.RowKit
open Go.ChangeMaps (open_string shut_string)
theorem own:ownKnob Tryz.prog.godebug=none:=by kernel_rfl
theorem laidOut:laidOutB Tryz.prog=true:=by kernel_rfl
theorem lifted (os:Os) (started:os.Started) (H:Type) (enc:TypeId×Value->H) :
  ReturnsInHanded {} Tryz.checked os 9 .any (Rows.acceptorKeysSpec.pre6 enc Tryz.prog Tryz.f9 Rows.acceptorKeysRow.domain false) (Rows.acceptorKeysSpec.post enc Tryz.prog Tryz.f9 false true false false):=by
 refine returnsInHanded_of_change (C:=Tryz.checked) own started (by kernel_rfl) Tryz.func9
  (ChangeSpec.witness6 (enc:=enc) (C:=Tryz.checked) false ⟨#[],#[.int .i64 0,.int .i64 0],[]⟩ 8 (by kernel_rfl) (by kernel_rfl) (by kernel_rfl) (by kernel_rfl)) ?_
 intro W base args ds gs before hval0 hW hcnd _;have hval:∀(j:Nat) t v,Tryz.f9.params[j]? = some t->args[j]? = some v->Value.okWide Tryz.prog W .any base t v:=hval0;have hW':=hW;obtain⟨p,q,hA0,hV,rfl,hfz,hnd⟩:=hW;have hA:DataW.TrodAll enc Tryz.prog W 0 (fun _=>true) true Tryz.f9.params.toList args.toList ds p:=hA0;rw[Tryz.params9] at hA hval;obtain⟨v0,vs0,d0,ds0,p0,q0,hargs,rfl,rfl,h0,r0⟩:=trodAll_cons hA;obtain⟨v1,vs1,d1,ds1,p1,q1,rfl,rfl,rfl,h1,r1⟩:=trodAll_cons r0;obtain⟨rfl,rfl,rfl⟩:=trodAll_nil r1;obtain rfl:args=#[v0,v1]:=by cases args;simp_all
 obtain⟨rfl,rfl⟩:=trodVars_none hV;obtain⟨a0,rfl,rfl,rfl,w0⟩:=open_int Tryz.underlying3 (hval 0 3 v0 rfl rfl) h0;obtain⟨a1,rfl,rfl,rfl,w1⟩:=open_int Tryz.underlying3 (hval 1 3 v1 rfl rfl) h1;clear hA0 hval0;refine(Ac.XD a0 a1 W w0 w1).mono fun e W' ⟨he,bel⟩=>?_
 subst he;exact⟨_,rfl,_,_,_,[],_,[],hW',trodAll_mk1 (shut_bool Tryz.underlying4 _),(trodAll_cons_mk (shut_int Tryz.underlying3 w0) (trodAll_cons_mk (shut_int Tryz.underlying3 w1) trodAll_mk0)),rfl,bel.frame _,fun h=>by cases h⟩
theorem joined:joinedFacts Tryz.pinned.checked.prog 9 Tryz.f9 Rows.acceptorKeysSpec Rows.acceptorKeysRow=true:=by
 simp only[joinedFacts,Bool.and_eq_true]
 repeat' apply And.intro
 all_goals as_aux_lemma=>kernel_rfl
theorem over:Rows.acceptorKeysRow.holds Tryz.pinned (OpenSpec.ofChange Rows.acceptorKeysSpec):=
 OpenClaim.holds_of_wide 9 Tryz.f9 rfl rfl rfl rfl rfl rfl rfl ⟨rfl,rfl,rfl,rfl,rfl⟩ rfl rfl rfl rfl rfl (by kernel_rfl) Tryz.func9 joined
  (of_decide_eq_true (by kernel_rfl)) (by unfold Func.isWrapper;first | (rw[if_pos (by decide +kernel)];kernel_rfl) | (rw[if_neg (by decide +kernel)];exact⟨rfl,rfl⟩))
  (fun os started H enc _=>lifted os started H enc)
theorem proved:Rows.AcceptorKeysSaid:=over
end Go.Proofs.YtfbnjcdhipplpaaGreat.acceptorKeys
namespace Go.Proofs.YtfbnjcdhipplpaaGreat.acceptorFull
open Go.ChangeShapes Go.WideShapes Go.ChangeAt Go.RowKit
open Go.ChangeMaps (open_string shut_string)
theorem own:ownKnob Tryz.prog.godebug=none:=by kernel_rfl
theorem laidOut:laidOutB Tryz.prog=true:=by kernel_rfl
theorem lifted (os:Os) (started:os.Started) (H:Type) (enc:TypeId×Value->H) :
  ReturnsInHanded {} Tryz.checked os 10 .any (Rows.acceptorFullSpec.pre6 enc Tryz.prog Tryz.f10 Rows.acceptorFullRow.domain false) (Rows.acceptorFullSpec.post enc Tryz.prog Tryz.f10 false true false false):=by
 refine returnsInHanded_of_change (C:=Tryz.checked) own started (by kernel_rfl) Tryz.func10
  (ChangeSpec.witness6 (enc:=enc) (C:=Tryz.checked) false ⟨#[],#[.int .i64 0,.int .i64 0],[]⟩ 8 (by kernel_rfl) (by kernel_rfl) (by kernel_rfl) (by kernel_rfl)) ?_
 intro W base args ds gs before hval0 hW hcnd _;have hval:∀(j:Nat) t v,Tryz.f10.params[j]? = some t->args[j]? = some v->Value.okWide Tryz.prog W .any base t v:=hval0;have hW':=hW;obtain⟨p,q,hA0,hV,rfl,hfz,hnd⟩:=hW;have hA:DataW.TrodAll enc Tryz.prog W 0 (fun _=>true) true Tryz.f10.params.toList args.toList ds p:=hA0;rw[Tryz.params10] at hA hval;obtain⟨v0,vs0,d0,ds0,p0,q0,hargs,rfl,rfl,h0,r0⟩:=trodAll_cons hA;obtain⟨v1,vs1,d1,ds1,p1,q1,rfl,rfl,rfl,h1,r1⟩:=trodAll_cons r0;obtain⟨rfl,rfl,rfl⟩:=trodAll_nil r1;obtain rfl:args=#[v0,v1]:=by cases args;simp_all
 obtain⟨rfl,rfl⟩:=trodVars_none hV;obtain⟨a0,rfl,rfl,rfl,w0⟩:=open_int Tryz.underlying3 (hval 0 3 v0 rfl rfl) h0;obtain⟨a1,rfl,rfl,rfl,w1⟩:=open_int Tryz.underlying3 (hval 1 3 v1 rfl rfl) h1;clear hA0 hval0;refine(Ac.XE a0 a1 W w0 w1).mono fun e W' ⟨he,bel⟩=>?_
 subst he;exact⟨_,rfl,_,_,_,[],_,[],hW',trodAll_mk1 (shut_bool Tryz.underlying4 _),(trodAll_cons_mk (shut_int Tryz.underlying3 w0) (trodAll_cons_mk (shut_int Tryz.underlying3 w1) trodAll_mk0)),rfl,bel.frame _,fun h=>by cases h⟩
theorem joined:joinedFacts Tryz.pinned.checked.prog 10 Tryz.f10 Rows.acceptorFullSpec Rows.acceptorFullRow=true:=by
 simp only[joinedFacts,Bool.and_eq_true]
 repeat' apply And.intro
 all_goals as_aux_lemma=>kernel_rfl
theorem over:Rows.acceptorFullRow.holds Tryz.pinned (OpenSpec.ofChange Rows.acceptorFullSpec):=
 OpenClaim.holds_of_wide 10 Tryz.f10 rfl rfl rfl rfl rfl rfl rfl ⟨rfl,rfl,rfl,rfl,rfl⟩ rfl rfl rfl rfl rfl (by kernel_rfl) Tryz.func10 joined
  (of_decide_eq_true (by kernel_rfl)) (by unfold Func.isWrapper;first | (rw[if_pos (by decide +kernel)];kernel_rfl) | (rw[if_neg (by decide +kernel)];exact⟨rfl,rfl⟩))
  (fun os started H enc _=>lifted os started H enc)
theorem proved:Rows.AcceptorFullSaid:=over
end Go.Proofs.YtfbnjcdhipplpaaGreat.acceptorFull
end
