import Derived.Test.YtlccngianpfalaaGreatZClientLoops24
set_option maxHeartbeats 25600000
set_option maxRecDepth 100000
set_option linter.unusedVariables false
set_option linter.unusedSimpArgs false
namespace Go.Proofs.YtlccngianpfalaaGreat
namespace Cl
open Go.RowKit Ae Se
open Nm (L krb tgL tgR)
open Ms (Pr tmB pSm mSm mgO mgD mgB mgE An Mg As Tg Re Rp Tk prB)
open Rg (prV)
open Ca (Cr It putL putE)
abbrev letA:Array Value:=#[.string ⟨#[65]⟩,.string ⟨#[66]⟩,.string ⟨#[67]⟩,.string ⟨#[68]⟩,.string ⟨#[69]⟩,.string ⟨#[70]⟩,.string ⟨#[71]⟩]
theorem Nu {w:World} {al:Nat} {t:TypeId} (h:Blk w al t letA) {j:Nat} (M:j<7):w.cell? ⟨al,j,none⟩=some (.string ⟨(lv j).toArray⟩):=by
 rw[h.cell]
 match j,M with
 |0,_=>rfl
 |1,_=>rfl
 |2,_=>rfl
 |3,_=>rfl
 |4,_=>rfl
 |5,_=>rfl
 |6,_=>rfl
theorem Lm (r x:L):Tryz.prog.built 43 [(2,.string ⟨r.toArray⟩),(3,.string ⟨x.toArray⟩)]=some (acA 0 0 r x 0 (.slice none 0 0) 0):=by kernel_rfl
theorem OU:Tryz.prog.built 43 [(1,.int .i64 1)]=some (acA 0 1 [] [] 0 (.slice none 0 0) 0):=by kernel_rfl
theorem RW (a0 a1:Int) (w:World):Calls Tryz.prog 3 #[.int .i64 a0,.int .i64 a1] w fun e w'=>e=.returned (.bool true)/\Below w.heap.size w w':=by
 by_cases g0:a0<0
 ·have t0:decide (a0<0)=true:=decide_eq_true g0
  go_enter Tryz.func3,Tryz.ntmps3
  go_wp2
  go_ret;exact⟨rfl,Below.refl _ _⟩
 ·have t0:decide (a0<0)=false:=decide_eq_false g0
  by_cases g1:6<a0
  ·have t1:decide (6<a0)=true:=decide_eq_true g1
   go_enter Tryz.func3,Tryz.ntmps3
   go_wp2
   go_ret;exact⟨rfl,Below.refl _ _⟩
  ·have t1:decide (6<a0)=false:=decide_eq_false g1
   by_cases g2:a1 < -1
   ·have t2:decide (a1 < -1)=true:=decide_eq_true g2
    go_enter Tryz.func3,Tryz.ntmps3
    go_wp2
    go_ret;exact⟨rfl,Below.refl _ _⟩
   ·have t2:decide (a1 < -1)=false:=decide_eq_false g2
    by_cases g3:a0<=a1
    ·have t3:decide (a0<=a1)=true:=decide_eq_true g3
     go_enter Tryz.func3,Tryz.ntmps3
     go_wp2
     go_ret;exact⟨rfl,Below.refl _ _⟩
    ·have t3:decide (a0<=a1)=false:=decide_eq_false g3
     obtain⟨n,en⟩:∃n:Nat,a0=(n:Int):=⟨a0.toNat,by omega⟩;subst en;have hn:n<=6:=by omega
     have CB:=I (RM w);have L1:=I (fun(w1:World)=>Nq w1);have KN:=I (fun(w1:World)=>WO w1);have CC:=I (fun(w2:World) (B:Nat) (p:CP) (m2:CM) (h:Cl w2 B p m2 st0 0) (hp:p.P=annP) (ak:p.ks=k9)=>RN h hp ak 1 (by decide));have CS:=I (fun(w2:World) (g k x:Nat) (v:Value) (S:Nat->Prop) (h:Blk w2 g 32 (prA k x pq0)) (hv:SlN S w2 v (lO (mgO (mAs (firQ annP st0 1)))))=>Ul (by decide) h hv);obtain⟨b0,aF⟩:=Aj (lO (mgO (mAs (firQ annP st0 1))));rw[<-aF] at CC CS;have HN:=I hn;clear aF;go_enter Tryz.func3,Tryz.ntmps3
     go_upto_region 6 with(first
      |(go_at_call 5;refine Calls.mono CB.o ?_;rintro e w1 ⟨g,x,p,m,rfl,hp,ak,hc,hn,hg,aA,Z⟩;clear CB;have HP:=I hp;have aR:=I ak;have Y:=I hc;have NG:=I hn;have O:=I hg;have aC:=I aA;have X:=I Z;clear hp ak hc hn hg aA Z)
      |fail)
     have aa:Below w1.heap.size w1 w1.drew:=below_drewN Ag 1;replace Y:=I (Y.o.below aa);replace X:=X.t aa;replace O:=I (O.o.below aa);clear aa;refine Reg.AM (fun w'=>Blk w' g 32 (prA p.k x pq0)) 13 rfl (by kernel_rfl) O.o ?_;refine Reg.ty 0 rfl O.o ?_;refine Reg.ty 1 rfl O.o ?_;refine Reg.ty 2 rfl O.o ?_;refine Reg.tw 3 (v:=pv p.k) rfl O.o (fun w' hS=>by have q0:=hS.c0;go_simp<;>rfl) ?_;refine Reg.b1 4 ?_
     right
     refine⟨_,_,_,_,_,_,7,#[],rfl,by rfl,(by go_simp<;>first | rfl | exact⟨rfl,rfl⟩),?_⟩;refine Ah (L1.o _) ?_;rintro aV Z;replace Y:=I (Y.o.below Z);replace X:=X.t Z;replace O:=I (O.o.below Z);clear Z;refine⟨_,rfl,O.o,?_⟩;simp only[Act.put,J,U,Aa];refine Reg.b1 5 ?_
     right
     refine⟨_,_,_,_,_,_,6,#[pv p.k,prV Bc,.int .i64 1],rfl,by rfl,(by go_simp<;>first | rfl | exact⟨rfl,rfl⟩),?_⟩;refine Calls.mono (CC.o _ _ _ _ Y.o HP.o aR.o) ?_;rintro e ay ⟨v1,m1,rfl,hs,hk⟩;have ab:=hk.blk O.o NG.o;replace NG:=I (hk.not NG.o O.o.lt);replace O:=I ab;clear ab;replace X:=I (Es X.o Y.o hk);replace Y:=I hk.cl;have S1:=I (GJ hs);clear hk;clear CC hs;refine⟨_,rfl,O.o,?_⟩;simp only[Act.put,J,U,Aa];refine Reg.ty 6 rfl O.o ?_;refine Reg.ty 7 rfl O.o ?_;refine Reg.ty 8 rfl O.o ?_;refine Reg.ty 9 rfl O.o ?_;refine Reg.ty 10 rfl O.o ?_;refine Reg.ty 11 rfl O.o ?_;refine Reg.ty 12 rfl O.o ?_;refine wpAnyH_done (by kernel_rfl) ?_ _;obtain⟨w2,aD⟩:=Aj (ay);rw[<-aD] at Y X O S1⊢;clear aD
     go_upto_region 8 with(first
      |(go_at_call 8;refine Ah (CS.o _ _ _ _ _ _ O.o S1.o) ?_;rintro w3 ⟨ah,af⟩;replace O:=I ah;replace X:=I (Yr X.o aC.o af);replace Y:=I (Y.o.chg af (fun j hj y=>NG.o (y▸hj)));clear ah af)
      |fail)
     clear S1 CS;have aK:=I (show g<w3.heap.size from O.o.lt);obtain⟨al,aw⟩:=Aj (w3.heap.size);obtain⟨W4,av⟩:=Aj (w3.alloc (.cells letA 9));have ag:Below w3.heap.size w3 W4:=av▸Ag.alloc Af _;have M:=I (show Blk W4 al 9 letA by rw[av,aw];exact Blk.new _ _ _);have ad:=I (show ¬AO p m1 al from Y.o.fresh (by omega));replace Y:=I (Y.o.below ag);replace X:=X.t ag;replace O:=I (O.o.below ag);clear ag
     go_upto_region 9 with fail
     have aE:=I (show g<al by rw[aw];exact aK.o);clear aK;rw[<-av,<-aw];clear av aw
     go_wp2
     have aU:=I (show al≠g from fun y=>by have:=aE.o;omega);clear aE
     go_loopw [10] (fun iv wr=>∃(i:Nat) (m:CM) (s:St),i<=n+1/\i<=6/\iv=.int .i64 (i:Int)/\Below w.heap.size w wr/\Cl wr w.heap.size p m s (2+4*i)/\Hop i (lvs i) s/\Blk wr g 32 (prA p.k x (hopQ i))/\¬AO p m g/\Blk wr al 9 letA/\¬AO p m al) (fun iv _=>n+1 - (intOf iv).toNat)
     case atStart=>exact⟨0,m1,s1 0,by omega,by omega,rfl,X.o,Y.o,hop_0,O.o,NG.o,M.o,ad.o⟩
     case round=>
      clear X Y O NG M ad;obtain⟨i,m,s,hi,aY,rfl,Z,hc,hh,hg,ng,ag,aB⟩:=hrel;have X:=I Z;have Y:=I hc;have HH:=I hh;have O:=I hg;have NG:=I ng;have M:=I ag;have ad:=I aB;clear Z hc hh hg ng ag aB;have hn:=HN.o
      by_cases hlt:i<=n
      ·have e1:(i:Int)<=(n:Int):=by omega
       have e2:(0:Int)<=(i:Int):=by omega
       have e3:(i:Int)<7:=by omega
       obtain⟨j,ej,hj,aT⟩:∃j:Nat,max (0:Int) ((i:Int) - 1)=(j:Int)/\j<7/\(i=0->j=0):=⟨i - 1,by omega,by omega,by omega⟩;have u1:IntKind.i64.wrap ((i:Int) - 1)=(i:Int) - 1:=by rw[IntKind.wrap_i64];omega
       have e4:(0:Int)<=(j:Int):=by omega
       have e5:(j:Int)<7:=by omega
       have kj:=Nu M.o hj;have hv:=UT j hj i (by omega);have h0:i=0->(lv j,krb++lv i)=own annP:=fun h=>by rw[aT h,h];exact YD
       have CA:=I (fun(w2:World) (h:Blk w2 g 32 (prA p.k x (hopQ i)))=>Yx (r:=lv j) (nx:=lv i) (kd:=0) (N:=0) (now:=0) (bv:=.slice none 0 0) h (n:=i+1) rfl (by omega) (show([UInt8.ofNat (65+j)]:L).length<=1000000 by simp) (show([UInt8.ofNat (65+i)]:L).length<=1000000 by simp));have au:=I (Lm (lv j) (lv i));have aG:=I (fun(w2:World) (h:Blk w2 al 9 letA)=>Nu h (j:=i) (by omega))
       by_cases h5:i<6
       ·have CT:=I (fun(w2:World) (m2:CM) (bv:Value) (h:Cl w2 w.heap.size p m2 s (2+4*i)) (hs:SlN (AO p m2) w2 bv (repL (hopQ i) (lv j,krb++lv i) annP (hopQ i).no))=>Kj h HP.o HH.o (by omega) (Hp i) (GK i) (by omega) (by omega) hv (HH.o.go (now:=1) h5 (Hp i) hv h0 (UU i (by omega))) hs)
        have ai:=I (HH.o.next (now:=1) (by omega) hv);rw[<-lvs_s] at ai;have CS:=I (fun(w2:World) (v:Value) (S:Nat->Prop) (h:Blk w2 g 32 (prA p.k x (hopQ i))) (hs:SlN S w2 v (lO (mgO (mTg (furQ annP (putS mC s (gotX (hopQ i) (lv j,krb++lv i)) 1) (gotX (hopQ i) (lv j,krb++lv i)) 1)))))=>WS h HH.o (by omega) hv hs);obtain⟨s',es'⟩:=Aj (furS (putS mC s (gotX (hopQ i) (lv j,krb++lv i)) 1) (lv i) (gotX (hopQ i) (lv j,krb++lv i)));obtain⟨fb,ax⟩:=Aj (lO (mgO (mTg (furQ annP (putS mC s (gotX (hopQ i) (lv j,krb++lv i)) 1) (gotX (hopQ i) (lv j,krb++lv i)) 1))));rw[show furL annP (putS mC s (gotX (hopQ i) (lv j,krb++lv i)) 1) (lv i) (gotX (hopQ i) (lv j,krb++lv i)) 1=(s',(lv i,fb)) by rw[es',ax];rfl] at CT;rw[<-es'] at ai;rw[<-ax] at CS;obtain⟨bR,ae⟩:=Aj (repL (hopQ i) (lv j,krb++lv i) annP (hopQ i).no);rw[<-ae] at CA CT;have EST:=I ai.o.st;have CZ:=I (fun(w2:World) (m2:CM) (h:Cl w2 w.heap.size p m2 s' (2+4*i+4))=>(by have:=IV h;rw[ai.o.st] at this;exact this:Calls Tryz.prog 11 #[pv p.k] w2 fun e w'=>e=.returned (.tuple #[.int .i64 1,.int .i64 s'.er,.int .i64 s'.sn])/\Below w2.heap.size w2 w'));have t5:decide ((5:Int)<(i:Int))=false:=decide_eq_false (by omega);have H5:=I h5;have H6:=I hlt;clear es' ax ae hv h0 hlt h5
        go_upto_region 13 with fail
        try rw[ej]
        clear kj e4 e5 ej u1;have aa:Below wr.heap.size wr wr.drew:=below_drewN Ag 1;replace Y:=I (Y.o.below aa);replace X:=X.t aa;replace O:=I (O.o.below aa);replace M:=I (M.o.below aa);clear aa;refine Reg.AM (fun w'=>Blk w' g 32 (prA p.k x (hopQ i))/\Blk w' al 9 letA) 17 rfl (by kernel_rfl) ⟨O.o,M.o⟩ ?_;refine Reg.ty 0 rfl ⟨O.o,M.o⟩ ?_;refine Reg.ty 1 rfl ⟨O.o,M.o⟩ ?_;refine Reg.ty 2 rfl ⟨O.o,M.o⟩ ?_;refine Reg.tw 3 (v:=pv p.k) rfl ⟨O.o,M.o⟩ (fun w' hS=>by have q0:=hS.1.c0;go_simp<;>rfl) ?_;refine Reg.ty 4 rfl ⟨O.o,M.o⟩ ?_;refine Reg.ty 5 rfl ⟨O.o,M.o⟩ ?_;refine Reg.ty 6 rfl ⟨O.o,M.o⟩ ?_;refine Reg.ty 7 rfl ⟨O.o,M.o⟩ ?_;refine Reg.ty 8 rfl ⟨O.o,M.o⟩ ?_;refine Reg.tw 9 (v:=.string ⟨(lv i).toArray⟩) rfl ⟨O.o,M.o⟩ (fun w' hS=>by have q0:=aG.o w' hS.2;go_simp<;>rfl) ?_;refine Reg.tw 10 (v:=.agg (acA 0 0 (lv j) (lv i) 0 (.slice none 0 0) 0)) rfl ⟨O.o,M.o⟩ (fun w' hS=>by exact Bq (t:=43) (by rfl) (by simp only[List.map_toArray,List.map_cons,List.map_nil];exact au.o)) ?_;refine Reg.b1 11 ?_
        right
        refine⟨_,_,_,_,_,_,10,#[pv g,.agg (acA 0 0 (lv j) (lv i) 0 (.slice none 0 0) 0)],rfl,by rfl,(by go_simp<;>first | rfl | exact⟨rfl,rfl⟩),?_⟩;refine Calls.mono (CA.o _ O.o) ?_;rintro e aM ⟨v2,rfl,hs,Z⟩;have S2:=I (hs.mono (S':=AO p _) (fun j _ y=>Y.o.lt y));replace Y:=I (Y.o.below Z);replace X:=X.t Z;replace O:=I (O.o.below Z);replace M:=I (M.o.below Z);clear hs;clear Z;clear CA;refine⟨_,rfl,⟨O.o,M.o⟩,?_⟩;simp only[Act.put,J,U,Aa];refine Reg.b1 12 ?_
        right
        refine⟨_,_,_,_,_,_,9,#[pv p.k,v2,.int .i64 1],rfl,by rfl,(by go_simp<;>first | rfl | exact⟨rfl,rfl⟩),?_⟩;refine Calls.mono (CT.o _ _ _ Y.o S2.o) ?_;rintro e ao ⟨v5,m5,rfl,hs,hk⟩;have ab:=hk.blk O.o NG.o;replace NG:=I (hk.not NG.o O.o.lt);replace O:=I ab;clear ab;have ab:=hk.blk M.o ad.o;replace ad:=I (hk.not ad.o M.o.lt);replace M:=I ab;clear ab;replace X:=I (Es X.o Y.o hk);replace Y:=I hk.cl;have S5:=I (GJ hs);clear hs S2;clear hk;clear CT;refine⟨_,rfl,⟨O.o,M.o⟩,?_⟩;simp only[Act.put,J,U,Aa];refine Reg.ty 13 rfl ⟨O.o,M.o⟩ ?_;refine Reg.ty 14 rfl ⟨O.o,M.o⟩ ?_;refine Reg.ty 15 rfl ⟨O.o,M.o⟩ ?_;refine Reg.ty 16 rfl ⟨O.o,M.o⟩ ?_;refine wpAnyH_done (by kernel_rfl) ?_ _;obtain⟨wA,aI⟩:=Aj (ao);rw[<-aI] at X Y O M S5⊢;clear aI;have q0:=O.c0;have cz:=CZ.o _ _ Y.o
        go_wp2_with (first
         |(go_at_call 11;refine Ah cz ?_;rintro w6 Z;replace X:=X.t Z;replace Y:=I (Y.o.below Z);replace O:=I (O.o.below Z);replace M:=I (M.o.below Z);replace S5:=I (S5.o.below Z);clear Z cz q0 CZ)
         |(go_at_call 8;refine Ah (CS.o _ _ _ O.o S5.o) ?_;rintro w7 ⟨ah,af⟩;replace M:=I (af.blk M.o (fun y=>aU.o y));replace O:=I ah;replace X:=I (Yr X.o aC.o af);replace Y:=I (Y.o.chg af (fun j hj y=>NG.o (y▸hj)));clear ah af)
         |fail)
        go_roundw
        case rel=>exact⟨i+1,_,s',by have:=H6.o;omega,by have:=H5.o;omega,by go_num,X.o,by rw[show 2+4*(i+1)=2+4*i+4 by omega];exact Y.o,ai.o,O.o,NG.o,M.o,ad.o⟩
        case measure=>have:=H6.o;simp [intOf];omega
       ·have aX:i=6:=by omega
        have t5:decide ((5:Int)<(i:Int))=true:=decide_eq_true (by omega);have CT:=I (fun(w2:World) (m2:CM) (bv:Value) (h:Cl w2 w.heap.size p m2 s (2+4*i)) (hs:SlN (AO p m2) w2 bv (repL (hopQ i) (lv j,krb++lv i) annP (hopQ i).no))=>Kj h HP.o HH.o (by omega) (Hp i) (GK i) (by omega) (by omega) hv (HH.o.over (now:=1) (by omega) (by omega) (Hp i) hv (UU i (by omega))) hs);obtain⟨s',es'⟩:=Aj (putS mC s (gotX (hopQ i) (lv j,krb++lv i)) 1);rw[<-es'] at CT;obtain⟨bR,ae⟩:=Aj (repL (hopQ i) (lv j,krb++lv i) annP (hopQ i).no);rw[<-ae] at CA CT;have CZ:=I (fun(w2:World) (m2:CM) (h:Cl w2 w.heap.size p m2 (endS mC s' 3 15) (2+4*i+4))=>(IV h:Calls Tryz.prog 11 #[pv p.k] w2 fun e w'=>e=.returned (.tuple #[.int .i64 3,.int .i64 15,.int .i64 s'.sn])/\Below w2.heap.size w2 w'));clear es' ae hv h0 hlt h5 aX
        go_upto_region 13 with fail
        try rw[ej]
        clear kj e4 e5 ej u1;have aa:Below wr.heap.size wr wr.drew:=below_drewN Ag 1;replace Y:=I (Y.o.below aa);replace X:=X.t aa;replace O:=I (O.o.below aa);replace M:=I (M.o.below aa);clear aa;refine Reg.AM (fun w'=>Blk w' g 32 (prA p.k x (hopQ i))/\Blk w' al 9 letA) 17 rfl (by kernel_rfl) ⟨O.o,M.o⟩ ?_;refine Reg.ty 0 rfl ⟨O.o,M.o⟩ ?_;refine Reg.ty 1 rfl ⟨O.o,M.o⟩ ?_;refine Reg.ty 2 rfl ⟨O.o,M.o⟩ ?_;refine Reg.tw 3 (v:=pv p.k) rfl ⟨O.o,M.o⟩ (fun w' hS=>by have q0:=hS.1.c0;go_simp<;>rfl) ?_;refine Reg.ty 4 rfl ⟨O.o,M.o⟩ ?_;refine Reg.ty 5 rfl ⟨O.o,M.o⟩ ?_;refine Reg.ty 6 rfl ⟨O.o,M.o⟩ ?_;refine Reg.ty 7 rfl ⟨O.o,M.o⟩ ?_;refine Reg.ty 8 rfl ⟨O.o,M.o⟩ ?_;refine Reg.tw 9 (v:=.string ⟨(lv i).toArray⟩) rfl ⟨O.o,M.o⟩ (fun w' hS=>by have q0:=aG.o w' hS.2;go_simp<;>rfl) ?_;refine Reg.tw 10 (v:=.agg (acA 0 0 (lv j) (lv i) 0 (.slice none 0 0) 0)) rfl ⟨O.o,M.o⟩ (fun w' hS=>by exact Bq (t:=43) (by rfl) (by simp only[List.map_toArray,List.map_cons,List.map_nil];exact au.o)) ?_;refine Reg.b1 11 ?_
        right
        refine⟨_,_,_,_,_,_,10,#[pv g,.agg (acA 0 0 (lv j) (lv i) 0 (.slice none 0 0) 0)],rfl,by rfl,(by go_simp<;>first | rfl | exact⟨rfl,rfl⟩),?_⟩;refine Calls.mono (CA.o _ O.o) ?_;rintro e aL ⟨v2,rfl,hs,Z⟩;have S2:=I (hs.mono (S':=AO p _) (fun j _ y=>Y.o.lt y));replace Y:=I (Y.o.below Z);replace X:=X.t Z;replace O:=I (O.o.below Z);replace M:=I (M.o.below Z);clear hs;clear Z;clear CA;refine⟨_,rfl,⟨O.o,M.o⟩,?_⟩;simp only[Act.put,J,U,Aa];refine Reg.b1 12 ?_
        right
        refine⟨_,_,_,_,_,_,9,#[pv p.k,v2,.int .i64 1],rfl,by rfl,(by go_simp<;>first | rfl | exact⟨rfl,rfl⟩),?_⟩;refine Calls.mono (CT.o _ _ _ Y.o S2.o) ?_;rintro e ar ⟨v5,m5,rfl,hs,hk⟩;have ab:=hk.blk O.o NG.o;replace NG:=I (hk.not NG.o O.o.lt);replace O:=I ab;clear ab;have ab:=hk.blk M.o ad.o;replace ad:=I (hk.not ad.o M.o.lt);replace M:=I ab;clear ab;replace X:=I (Es X.o Y.o hk);replace Y:=I hk.cl;have S5:=I (GJ hs);clear hs S2;clear hk;clear CT;refine⟨_,rfl,⟨O.o,M.o⟩,?_⟩;simp only[Act.put,J,U,Aa];refine Reg.ty 13 rfl ⟨O.o,M.o⟩ ?_;refine Reg.ty 14 rfl ⟨O.o,M.o⟩ ?_;refine Reg.ty 15 rfl ⟨O.o,M.o⟩ ?_;refine Reg.ty 16 rfl ⟨O.o,M.o⟩ ?_;refine wpAnyH_done (by kernel_rfl) ?_ _;obtain⟨wB,aJ⟩:=Aj (ar);rw[<-aJ] at X Y O M S5⊢;clear aJ;have q0:=O.c0;have cz:=CZ.o _ _ Y.o
        go_wp2_with (first
         |(go_at_call 11;refine Ah cz ?_;rintro w6 Z;replace X:=X.t Z;clear Z cz q0 CZ)
         |(go_at_call 12;refine Ah (KN.o _) ?_;rintro w9 Z;clear KN;replace X:=X.t Z;clear Z)
         |fail)
        go_ret;exact⟨rfl,X.o⟩
      ·have e1:¬(i:Int)<=(n:Int):=by omega
       obtain rfl:i=n+1:=by omega
       have aZ:n<6:=by omega
       clear hlt
       by_cases hb1:a1<0
       ·have t9:decide (a1<0)=true:=decide_eq_true hb1
        have CA:=I (fun(w2:World) (h:Blk w2 g 32 (prA p.k x (hopQ (n+1))))=>ans_1 (r:=[]) (nx:=[]) (kd:=0) (N:=0) (now:=0) (bv:=.slice none 0 0) h (n:=n+1+1) rfl (by omega) (by simp) (by simp));have CT:=I (fun(w2:World) (m2:CM) (bv:Value) (h:Cl w2 w.heap.size p m2 s (2+4*(n+1))) (hs:SlN (AO p m2) w2 bv (repL (hopQ (n+1)) Bc annP (hopQ (n+1)).no))=>Kj h HP.o HH.o (by omega) (Hp (n+1)) (GK (n+1)) (by omega) (by omega) Np (HH.o.done (now:=1) (by omega)) hs);have aP:=I (show s.sn=(n:Int)+2 by rw[HH.o.sn];omega);obtain⟨s',es'⟩:=Aj (putS mC s (gotX (hopQ (n+1)) Bc) 1);have aW:=I (show s'.sn=(n:Int)+2 by rw[es'];exact aP.o);rw[<-es'] at CT;obtain⟨bR,ae⟩:=Aj (repL (hopQ (n+1)) Bc annP (hopQ (n+1)).no);rw[<-ae] at CA CT;have CZ:=I (fun(w2:World) (m2:CM) (h:Cl w2 w.heap.size p m2 (endS mC s' 2 0) (2+4*(n+1)+4))=>(by have:=IV h;rw[show(endS mC s' 2 0).sn=(n:Int)+2 from aW.o] at this;exact this:Calls Tryz.prog 11 #[pv p.k] w2 fun e w'=>e=.returned (.tuple #[.int .i64 2,.int .i64 0,.int .i64 ((n:Int)+2)])/\Below w2.heap.size w2 w'));clear es' ae;have u2:IntKind.i64.wrap ((n:Int)+2)=(n:Int)+2:=by rw[IntKind.wrap_i64];omega
        go_upto_region 21 with fail
        have aa:Below wr.heap.size wr wr.drew:=below_drewN Ag 1;replace Y:=I (Y.o.below aa);replace X:=X.t aa;replace O:=I (O.o.below aa);replace M:=I (M.o.below aa);clear aa;refine Reg.AM (fun w'=>Blk w' g 32 (prA p.k x (hopQ (n+1)))/\Blk w' al 9 letA) 8 rfl (by kernel_rfl) ⟨O.o,M.o⟩ ?_;refine Reg.ty 0 rfl ⟨O.o,M.o⟩ ?_;refine Reg.ty 1 rfl ⟨O.o,M.o⟩ ?_;refine Reg.ty 2 rfl ⟨O.o,M.o⟩ ?_;refine Reg.tw 3 (v:=pv p.k) rfl ⟨O.o,M.o⟩ (fun w' hS=>by have q0:=hS.1.c0;go_simp<;>rfl) ?_;refine Reg.ty 4 rfl ⟨O.o,M.o⟩ ?_;refine Reg.tw 5 (v:=.agg (acA 0 1 [] [] 0 (.slice none 0 0) 0)) rfl ⟨O.o,M.o⟩ (fun w' hS=>by exact Bq (t:=43) (by rfl) (by simp only[List.map_toArray,List.map_cons,List.map_nil];exact OU)) ?_;refine Reg.b1 6 ?_
        right
        refine⟨_,_,_,_,_,_,10,#[pv g,.agg (acA 0 1 [] [] 0 (.slice none 0 0) 0)],rfl,by rfl,(by go_simp<;>first | rfl | exact⟨rfl,rfl⟩),?_⟩;refine Calls.mono (CA.o _ O.o) ?_;rintro e aO ⟨v2,rfl,hs,Z⟩;have S2:=I (hs.mono (S':=AO p _) (fun j _ y=>Y.o.lt y));replace Y:=I (Y.o.below Z);replace X:=X.t Z;replace O:=I (O.o.below Z);replace M:=I (M.o.below Z);clear hs;clear Z;clear CA;refine⟨_,rfl,⟨O.o,M.o⟩,?_⟩;simp only[Act.put,J,U,Aa];refine Reg.b1 7 ?_
        right
        refine⟨_,_,_,_,_,_,9,#[pv p.k,v2,.int .i64 1],rfl,by rfl,(by go_simp<;>first | rfl | exact⟨rfl,rfl⟩),?_⟩;refine Calls.mono (CT.o _ _ _ Y.o S2.o) ?_;rintro e an ⟨v5,m5,rfl,hs,hk⟩;have ab:=hk.blk O.o NG.o;replace NG:=I (hk.not NG.o O.o.lt);replace O:=I ab;clear ab;have ab:=hk.blk M.o ad.o;replace ad:=I (hk.not ad.o M.o.lt);replace M:=I ab;clear ab;replace X:=I (Es X.o Y.o hk);replace Y:=I hk.cl;have S5:=I (GJ hs);clear hs S2;clear hk;clear CT;refine⟨_,rfl,⟨O.o,M.o⟩,?_⟩;simp only[Act.put,J,U,Aa];refine wpAnyH_done (by kernel_rfl) ?_ _;obtain⟨wC,aH⟩:=Aj (an);rw[<-aH] at X Y O M S5⊢;clear aH;have q0:=O.c0;have cz:=CZ.o _ _ Y.o
        go_wp2_with (first
         |(go_at_call 11;refine Ah cz ?_;rintro w6 Z;replace X:=X.t Z;clear Z cz q0 CZ)
         |(go_at_call 12;refine Ah (KN.o _) ?_;rintro w9 Z;clear KN;replace X:=X.t Z;clear Z)
         |fail)
        go_ret;exact⟨rfl,X.o⟩
       ·have t9:decide (a1<0)=false:=decide_eq_false hb1
        obtain⟨j,ej⟩:∃j:Nat,a1=(j:Int):=⟨a1.toNat,by omega⟩;subst ej;have hj:j<n:=by omega
        have hv:=UT n (by omega) j (by omega);have CA:=I (fun(w2:World) (h:Blk w2 g 32 (prA p.k x (hopQ (n+1))))=>Yx (r:=lv n) (nx:=lv j) (kd:=0) (N:=0) (now:=0) (bv:=.slice none 0 0) h (n:=n+1+1) rfl (by omega) (show([UInt8.ofNat (65+n)]:L).length<=1000000 by simp) (show([UInt8.ofNat (65+j)]:L).length<=1000000 by simp));have CT:=I (fun(w2:World) (m2:CM) (bv:Value) (h:Cl w2 w.heap.size p m2 s (2+4*(n+1))) (hs:SlN (AO p m2) w2 bv (repL (hopQ (n+1)) (lv n,krb++lv j) annP (hopQ (n+1)).no))=>Kj h HP.o HH.o (by omega) (Hp (n+1)) (GK (n+1)) (by omega) (by omega) hv (HH.o.loop (now:=1) (by omega) (by omega) hv (YC (n+1) (by omega) j (by omega))) hs);have au:=I (Lm (lv n) (lv j));have aS:=I (fun(w2:World) (h:Blk w2 al 9 letA)=>Nu h (j:=n) (by omega));have aQ:=I (fun(w2:World) (h:Blk w2 al 9 letA)=>Nu h (j:=j) (by omega));have e2:(0:Int)<=(n:Int):=by omega
        have e3:(n:Int)<7:=by omega
        have e4:(0:Int)<=(j:Int):=by omega
        have e5:(j:Int)<7:=by omega
        obtain⟨s',es'⟩:=Aj (putS mC s (gotX (hopQ (n+1)) (lv n,krb++lv j)) 1);rw[<-es'] at CT;obtain⟨bR,ae⟩:=Aj (repL (hopQ (n+1)) (lv n,krb++lv j) annP (hopQ (n+1)).no);rw[<-ae] at CA CT;have CZ:=I (fun(w2:World) (m2:CM) (h:Cl w2 w.heap.size p m2 (endS mC s' 3 14) (2+4*(n+1)+4))=>(IV h:Calls Tryz.prog 11 #[pv p.k] w2 fun e w'=>e=.returned (.tuple #[.int .i64 3,.int .i64 14,.int .i64 s'.sn])/\Below w2.heap.size w2 w'));clear es' ae hv
        go_upto_region 24 with fail
        have aa:Below wr.heap.size wr wr.drew:=below_drewN Ag 1;replace Y:=I (Y.o.below aa);replace X:=X.t aa;replace O:=I (O.o.below aa);replace M:=I (M.o.below aa);clear aa;refine Reg.AM (fun w'=>Blk w' g 32 (prA p.k x (hopQ (n+1)))/\Blk w' al 9 letA) 16 rfl (by kernel_rfl) ⟨O.o,M.o⟩ ?_;refine Reg.ty 0 rfl ⟨O.o,M.o⟩ ?_;refine Reg.ty 1 rfl ⟨O.o,M.o⟩ ?_;refine Reg.ty 2 rfl ⟨O.o,M.o⟩ ?_;refine Reg.tw 3 (v:=pv p.k) rfl ⟨O.o,M.o⟩ (fun w' hS=>by have q0:=hS.1.c0;go_simp<;>rfl) ?_;refine Reg.ty 4 rfl ⟨O.o,M.o⟩ ?_;refine Reg.ty 5 rfl ⟨O.o,M.o⟩ ?_;refine Reg.ty 6 rfl ⟨O.o,M.o⟩ ?_;refine Reg.ty 7 rfl ⟨O.o,M.o⟩ ?_;refine Reg.tw 8 (v:=.string ⟨(lv n).toArray⟩) rfl ⟨O.o,M.o⟩ (fun w' hS=>by have q0:=aS.o w' hS.2;go_simp<;>rfl) ?_;refine Reg.ty 9 rfl ⟨O.o,M.o⟩ ?_;refine Reg.ty 10 rfl ⟨O.o,M.o⟩ ?_;refine Reg.ty 11 rfl ⟨O.o,M.o⟩ ?_;refine Reg.tw 12 (v:=.string ⟨(lv j).toArray⟩) rfl ⟨O.o,M.o⟩ (fun w' hS=>by have q0:=aQ.o w' hS.2;go_simp<;>rfl) ?_;refine Reg.tw 13 (v:=.agg (acA 0 0 (lv n) (lv j) 0 (.slice none 0 0) 0)) rfl ⟨O.o,M.o⟩ (fun w' hS=>by exact Bq (t:=43) (by rfl) (by simp only[List.map_toArray,List.map_cons,List.map_nil];exact au.o)) ?_;refine Reg.b1 14 ?_
        right
        refine⟨_,_,_,_,_,_,10,#[pv g,.agg (acA 0 0 (lv n) (lv j) 0 (.slice none 0 0) 0)],rfl,by rfl,(by go_simp<;>first | rfl | exact⟨rfl,rfl⟩),?_⟩;refine Calls.mono (CA.o _ O.o) ?_;rintro e aN ⟨v2,rfl,hs,Z⟩;have S2:=I (hs.mono (S':=AO p _) (fun j _ y=>Y.o.lt y));replace Y:=I (Y.o.below Z);replace X:=X.t Z;replace O:=I (O.o.below Z);replace M:=I (M.o.below Z);clear hs;clear Z;clear CA;refine⟨_,rfl,⟨O.o,M.o⟩,?_⟩;simp only[Act.put,J,U,Aa];refine Reg.b1 15 ?_
        right
        refine⟨_,_,_,_,_,_,9,#[pv p.k,v2,.int .i64 1],rfl,by rfl,(by go_simp<;>first | rfl | exact⟨rfl,rfl⟩),?_⟩;refine Calls.mono (CT.o _ _ _ Y.o S2.o) ?_;rintro e aj ⟨v5,m5,rfl,hs,hk⟩;have ab:=hk.blk O.o NG.o;replace NG:=I (hk.not NG.o O.o.lt);replace O:=I ab;clear ab;have ab:=hk.blk M.o ad.o;replace ad:=I (hk.not ad.o M.o.lt);replace M:=I ab;clear ab;replace X:=I (Es X.o Y.o hk);replace Y:=I hk.cl;have S5:=I (GJ hs);clear hs S2;clear hk;clear CT;refine⟨_,rfl,⟨O.o,M.o⟩,?_⟩;simp only[Act.put,J,U,Aa];refine wpAnyH_done (by kernel_rfl) ?_ _;obtain⟨wD,az⟩:=Aj (aj);rw[<-az] at X Y O M S5⊢;clear az;have q0:=O.c0;have cz:=CZ.o _ _ Y.o
        go_wp2_with (first
         |(go_at_call 11;refine Ah cz ?_;rintro w6 Z;replace X:=X.t Z;clear Z cz q0 CZ)
         |(go_at_call 12;refine Ah (KN.o _) ?_;rintro w9 Z;clear KN;replace X:=X.t Z;clear Z)
         |fail)
        go_ret;exact⟨rfl,X.o⟩
end Cl
end Go.Proofs.YtlccngianpfalaaGreat
