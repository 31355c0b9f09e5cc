import Derived.Test.YtlccngianpfalaaGreatZClientRequests18
set_option maxHeartbeats 25600000
set_option maxRecDepth 100000
set_option linter.unusedVariables false
set_option linter.unusedSimpArgs false
namespace Go.Proofs.YtlccngianpfalaaGreat
namespace Mc
open Go.RowKit Ae DerP DerC DerR Ms
theorem Yg {pa:Array Value} {x:As} (w:World) (h:AsV pa x) (s:pSm x.c/\pSm x.s):Calls Tryz.prog 140 #[.agg pa] w fun e w'=>e=.returned (.bool (asB x))/\Below w.heap.size w w':=by rw[h];exact TI x w s.1 s.2
theorem Yh {pa:Array Value} {x:Tg} {w0:World} {B:Nat} (w:World) (h:TgV w0 B pa x) (s:pSm x.t.s/\pSm x.s):Calls Tryz.prog 141 #[.agg pa] w fun e w'=>e=.returned (.bool (tgB x))/\Below w.heap.size w w':=by
 obtain⟨b,a,rfl,⟨A1,c1,rfl,_,M⟩,⟨A2,c2,rfl,_,O⟩⟩:=h;exact Rn x A1 A2 c1 c2 w s.1 s.2
theorem Yi {pa:Array Value} {x:Re} {w0:World} {B:Nat} (w:World) (h:ReV w0 B pa x) (s:pSm x.c/\pSm x.t.s):Calls Tryz.prog 142 #[.agg pa] w fun e w'=>e=.returned (.bool (reB x))/\Below w.heap.size w w':=by
 obtain⟨b,a,rfl,⟨A1,c1,rfl,_,M⟩,⟨A2,c2,rfl,_,O⟩⟩:=h;exact TJ x A1 A2 c1 c2 w s.2 s.1
theorem Yj {pa:Array Value} {x:Ap} {w0:World} {B:Nat} (w:World) (h:ApV w0 B pa x) (s:pSm x.t.s):Calls Tryz.prog 143 #[.agg pa] w fun e w'=>e=.returned (.bool (apB x))/\Below w.heap.size w w':=by
 obtain⟨b,a,rfl,⟨A1,c1,rfl,_,M⟩,⟨A2,c2,rfl,_,O⟩⟩:=h;exact TK x A1 A2 c1 c2 w s
theorem Yk {pa:Array Value} {x:Fa} (w:World) (h:FaV pa x):Calls Tryz.prog 144 #[.agg pa] w fun e w'=>e=.returned (.bool (faB x))/\Below w.heap.size w w':=by rw[h];exact TM x w
theorem Wu {pa:Array Value} {x:As} (w:World) (h:AsV pa x) (s:asB x=true):Calls Tryz.prog 145 #[.agg pa] w (Ci w (asE x)):=by rw[h];exact Ri x w s
theorem Wv {pa:Array Value} {x:Tg} (w:World) (h:TgV w w.heap.size pa x) (s:tgB x=true):Calls Tryz.prog 146 #[.agg pa] w (Ci w (tgE x)):=by
 obtain⟨b,a,rfl,⟨A1,c1,rfl,_,M⟩,⟨A2,c2,rfl,_,O⟩⟩:=h;exact Rj x A1 A2 c1 c2 w s M O
theorem Ww {pa:Array Value} {x:Re} (w:World) (h:ReV w w.heap.size pa x) (s:reB x=true):Calls Tryz.prog 147 #[.agg pa] w (Ci w (reE x)):=by
 obtain⟨b,a,rfl,⟨A1,c1,rfl,_,M⟩,⟨A2,c2,rfl,_,O⟩⟩:=h;exact Rk x A1 A2 c1 c2 w s M O
theorem Wx {pa:Array Value} {x:Ap} (w:World) (h:ApV w w.heap.size pa x) (s:apB x=true):Calls Tryz.prog 148 #[.agg pa] w (Ci w (apE x)):=by
 obtain⟨b,a,rfl,⟨A1,c1,rfl,_,M⟩,⟨A2,c2,rfl,_,O⟩⟩:=h;exact Rl x A1 A2 c1 c2 w s M O
theorem Wy {pa:Array Value} {x:Fa} (w:World) (h:FaV pa x):Calls Tryz.prog 149 #[.agg pa] w (Ci w (faE x)):=by rw[h];exact Rm x w
def kdB (m:Mg):Bool:=if m.k=1 then asB m.aq else if m.k=2 then tgB m.tg else if m.k=3 then reB m.re else if m.k=4 then apB m.ap else if m.k=5 then faB m.fa else false
theorem Yl (m:Mg):mgB m=(decide (m=nm m)&&kdB m):=by
 unfold mgB kdB nm
 by_cases h1:m.k=1
 ·simp only[if_pos h1];rw[Bool.and_comm]
 ·simp only[if_neg h1]
  by_cases h2:m.k=2
  ·simp only[if_pos h2];rw[Bool.and_comm]
  ·simp only[if_neg h2]
   by_cases h3:m.k=3
   ·simp only[if_pos h3];rw[Bool.and_comm]
   ·simp only[if_neg h3]
    by_cases h4:m.k=4
    ·simp only[if_pos h4];rw[Bool.and_comm]
    ·simp only[if_neg h4]
     by_cases h5:m.k=5
     ·simp only[if_pos h5];rw[Bool.and_comm]
     ·simp only[if_neg h5];rw[Bool.and_false]
section
variable {P:Program} {w:World} {o:Oper} {a:Act}
theorem Cz {w':World} {g:Nat} {t ty:TypeId} {cs:Array Value} {d:TypeDesc} (x:Operand) (X:o.op=.load ty x) (O:a.eval x=.pointer (some ⟨g,0,none⟩)) (h:Blk w' g t cs) (hu:P.underlying ty=some d) (M:d.isRow=true) (Y:(P.info? ty).map (·.size)=some cs.size) :
  (execOp a.eval o).run P w'=.ok (.value (.agg cs)) w':=by
 unfold execOp;simp only[X,O,Instr.loadAt,Instr.sureAddr,Sem.run_bind,Sem.run_pure,Result.andThen_ok,Ao h hu M Y]
end
theorem RG (cs:Array Value) (m:Mg) (w:World) (h:MgV w w.heap.size cs m) (hs:mSm m):Calls Tryz.prog 98 #[.agg cs] w fun e w'=>e=.returned (.bool (mgB m))/\Below w.heap.size w w':=by
 have hV:=h;obtain⟨pa,pt,pr,pp,pf,hc,hp⟩:=h;have aa:cs.size=30:=by rw[hc];exact hp.size m.k
 have HI:=I (show(Tryz.prog.info? 61).map (·.size)=some cs.size by rw[aa];exact AT);obtain⟨W,eW⟩:=Aj (w.alloc (.cells cs 61));have X:=I (show Blk W w.heap.size 61 cs by rw[eW];exact Blk.new _ _ _);have O:=I (show Below w.heap.size w W by rw[eW];exact Ag.alloc Af _);have EC:=I hc;have HP:=I hp;have TN:=I (fun Y (h:Below w.heap.size w Y)=>Rx cs m Y ((hV.keep h).more h.size));have TE:=I (fun Y ds (h:Below w.heap.size w Y) (g:MgV Y Y.heap.size ds (nm m))=>RE cs ds m (nm m) Y ((hV.keep h).more h.size) g);have T1:=I (fun Y=>Yg Y hp.a hs.1);have T2:=I (fun Y=>Yh Y hp.t hs.2.1);have T3:=I (fun Y=>Yi Y hp.r hs.2.2.1);have T4:=I (fun Y=>Yj Y hp.p hs.2.2.2);have T5:=I (fun Y=>Yk Y hp.f);have MB:=I (Yl m);clear hc hp hV aa hs;cases en:decide (m=nm m) with
 |false=>
  rw[en] at TE;have E:=I (show mgB m=false by rw[MB.o,en];rfl);clear en;go_enter Tryz.func98,Tryz.ntmps98
  go_upto_region 1 with fail
  rw[<-eW];clear eW;replace X:=I (show Blk W.drew _ _ _ from X.o.drewN 1);replace O:=I (show Below _ _ W.drew from below_drewN O.o 1);refine Reg.BJ 5 rfl (by kernel_rfl) ?_;refine Reg.tx 0 (v:=.agg cs) rfl (fun w' hS=>Cz (.tmp 1) rfl rfl (X.o.below hS) Tryz.underlying61 rfl HI.o) ?_;refine Reg.tx 1 (v:=.agg cs) rfl (fun w' hS=>Cz (.tmp 1) rfl rfl (X.o.below hS) Tryz.underlying61 rfl HI.o) ?_;refine Reg.Di 2 rfl (by kernel_rfl) (by rfl) 139 #[.agg cs] (by go_simp) ?_;refine Calls.mono (TN.o _ O.o) ?_;rintro e Y ⟨ds,rfl,Z,M⟩;refine⟨_,rfl,M,?_⟩;replace X:=I (X.o.below M);replace O:=O.t M;have HD:=I Z;clear M Z TN;simp only[Act.put,J,U,Aa];refine Reg.Di 3 rfl (by kernel_rfl) (by rfl) 138 #[.agg cs,.agg ds] (by go_simp) ?_;refine Ah (TE.o _ ds O.o HD.o) ?_;rintro w2 M;refine⟨_,rfl,M,?_⟩;replace X:=I (X.o.below M);replace O:=O.t M;clear M TE HD;simp only[Act.put,J,U,Aa];refine Reg.tx 4 (v:=.bool true) rfl (fun w' hS=>by go_simp) ?_;refine wpAnyH_done (by kernel_rfl) ?_ _
  go_wp2
  go_ret;exact⟨by rw[E.o];rfl,O.o⟩
 |true=>
  rw[en] at TE;have MK:=I (show mgB m=kdB m by rw[MB.o,en];rfl);clear en;go_enter Tryz.func98,Tryz.ntmps98
  go_upto_region 1 with fail
  rw[<-eW];clear eW;replace X:=I (show Blk W.drew _ _ _ from X.o.drewN 1);replace O:=I (show Below _ _ W.drew from below_drewN O.o 1);refine Reg.BJ 5 rfl (by kernel_rfl) ?_;refine Reg.tx 0 (v:=.agg cs) rfl (fun w' hS=>Cz (.tmp 1) rfl rfl (X.o.below hS) Tryz.underlying61 rfl HI.o) ?_;refine Reg.tx 1 (v:=.agg cs) rfl (fun w' hS=>Cz (.tmp 1) rfl rfl (X.o.below hS) Tryz.underlying61 rfl HI.o) ?_;refine Reg.Di 2 rfl (by kernel_rfl) (by rfl) 139 #[.agg cs] (by go_simp) ?_;refine Calls.mono (TN.o _ O.o) ?_;rintro e Y ⟨ds,rfl,Z,M⟩;refine⟨_,rfl,M,?_⟩;replace X:=I (X.o.below M);replace O:=O.t M;have HD:=I Z;clear M Z TN;simp only[Act.put,J,U,Aa];refine Reg.Di 3 rfl (by kernel_rfl) (by rfl) 138 #[.agg cs,.agg ds] (by go_simp) ?_;refine Ah (TE.o _ ds O.o HD.o) ?_;rintro w2 M;refine⟨_,rfl,M,?_⟩;replace X:=I (X.o.below M);replace O:=O.t M;clear M TE HD;simp only[Act.put,J,U,Aa];refine Reg.tx 4 (v:=.bool false) rfl (fun w' hS=>by go_simp) ?_;refine wpAnyH_done (by kernel_rfl) ?_ _;replace X:=I (EC.o▸X.o);have HA:=I (HP.o.at_ X.o);have k0:=HA.o.k
  by_cases m1:m.k=1
  ·have y1:(m.k==1)=true:=by simpa using m1
   have y2:(m.k==2)=false:=by simp;omega
   have y3:(m.k==3)=false:=by simp;omega
   have y4:(m.k==4)=false:=by simp;omega
   have y5:(m.k==5)=false:=by simp;omega
   have E:=I (show mgB m=asB m.aq by rw[MK.o,kdB,if_pos m1]);clear m1
   go_wp2_with (first
    |(refine AG (by rfl) 49 (.tmp 12) (by rfl) w.heap.size 1 (by rfl) pa _ HA.o.a Tryz.underlying49 (by rfl) (by rw[HP.o.a.size];exact Cw) ?_)
    |(go_at_call 140;refine Ah (T1.o _) ?_;rintro w3 M;replace O:=O.t M;clear M T1)
    |fail)
   go_ret;exact⟨by rw[E.o];rfl,O.o⟩
  ·have ae:=m1
   by_cases m2:m.k=2
   ·have y1:(m.k==1)=false:=by simp;omega
    have y2:(m.k==2)=true:=by simpa using m2
    have y3:(m.k==3)=false:=by simp;omega
    have y4:(m.k==4)=false:=by simp;omega
    have y5:(m.k==5)=false:=by simp;omega
    have E:=I (show mgB m=tgB m.tg by rw[MK.o,kdB,if_neg m1,if_pos m2]);clear m1 m2
    go_wp2_with (first
     |(refine AG (by rfl) 53 (.tmp 17) (by rfl) w.heap.size 7 (by rfl) pt _ HA.o.t Tryz.underlying53 (by rfl) (by rw[HP.o.t.size];exact BO) ?_)
     |(go_at_call 141;refine Ah (T2.o _) ?_;rintro w3 M;replace O:=O.t M;clear M T2)
     |fail)
    go_ret;exact⟨by rw[E.o];rfl,O.o⟩
   ·have ag:=m2
    by_cases m3:m.k=3
    ·have y1:(m.k==1)=false:=by simp;omega
     have y2:(m.k==2)=false:=by simp;omega
     have y3:(m.k==3)=true:=by simpa using m3
     have y4:(m.k==4)=false:=by simp;omega
     have y5:(m.k==5)=false:=by simp;omega
     have E:=I (show mgB m=reB m.re by rw[MK.o,kdB,if_neg m1,if_neg m2,if_pos m3]);clear m1 m2 m3
     go_wp2_with (first
      |(refine AG (by rfl) 55 (.tmp 22) (by rfl) w.heap.size 16 (by rfl) pr _ HA.o.r Tryz.underlying55 (by rfl) (by rw[HP.o.r.size];exact Dv) ?_)
      |(go_at_call 142;refine Ah (T3.o _) ?_;rintro w3 M;replace O:=O.t M;clear M T3)
      |fail)
     go_ret;exact⟨by rw[E.o];rfl,O.o⟩
    ·have af:=m3
     by_cases m4:m.k=4
     ·have y1:(m.k==1)=false:=by simp;omega
      have y2:(m.k==2)=false:=by simp;omega
      have y3:(m.k==3)=false:=by simp;omega
      have y4:(m.k==4)=true:=by simpa using m4
      have y5:(m.k==5)=false:=by simp;omega
      have E:=I (show mgB m=apB m.ap by rw[MK.o,kdB,if_neg m1,if_neg m2,if_neg m3,if_pos m4]);clear m1 m2 m3 m4
      go_wp2_with (first
       |(refine AG (by rfl) 57 (.tmp 27) (by rfl) w.heap.size 23 (by rfl) pp _ HA.o.p Tryz.underlying57 (by rfl) (by rw[HP.o.p.size];exact DZ) ?_)
       |(go_at_call 143;refine Ah (T4.o _) ?_;rintro w3 M;replace O:=O.t M;clear M T4)
       |fail)
      go_ret;exact⟨by rw[E.o];rfl,O.o⟩
     ·have ad:=m4
      by_cases m5:m.k=5
      ·have y1:(m.k==1)=false:=by simp;omega
       have y2:(m.k==2)=false:=by simp;omega
       have y3:(m.k==3)=false:=by simp;omega
       have y4:(m.k==4)=false:=by simp;omega
       have y5:(m.k==5)=true:=by simpa using m5
       have E:=I (show mgB m=faB m.fa by rw[MK.o,kdB,if_neg m1,if_neg m2,if_neg m3,if_neg m4,if_pos m5]);clear m1 m2 m3 m4 m5
       go_wp2_with (first
        |(refine AG (by rfl) 59 (.tmp 32) (by rfl) w.heap.size 28 (by rfl) pf _ HA.o.f Tryz.underlying59 (by rfl) (by rw[HP.o.f.size];exact FH) ?_)
        |(go_at_call 144;refine Ah (T5.o _) ?_;rintro w3 M;replace O:=O.t M;clear M T5)
        |fail)
       go_ret;exact⟨by rw[E.o];rfl,O.o⟩
      ·have ab:=m5
       have y1:(m.k==1)=false:=by simp;omega
       have y2:(m.k==2)=false:=by simp;omega
       have y3:(m.k==3)=false:=by simp;omega
       have y4:(m.k==4)=false:=by simp;omega
       have y5:(m.k==5)=false:=by simp;omega
       have E:=I (show mgB m=false by rw[MK.o,kdB,if_neg m1,if_neg m2,if_neg m3,if_neg m4,if_neg m5]);clear m1 m2 m3 m4 m5
       go_wp2
       go_ret;exact⟨by rw[E.o];rfl,O.o⟩
theorem Pc (cs:Array Value) (m:Mg) (w:World) (h:MgV w w.heap.size cs m) (hx:mgB m=true):Calls Tryz.prog 100 #[.agg cs] w (Ci w (mgE m)):=by
 obtain⟨pa,pt,pr,pp,pf,hc,hp⟩:=h;obtain⟨W,eW⟩:=Aj (w.alloc (.cells cs 61));have HK:=I (show Blk W w.heap.size 61 (mgA m.k pa pt pr pp pf) by rw[eW,<-hc];exact Blk.new _ _ _);have HB:=I (show Below w.heap.size w W by rw[eW];exact Ag.alloc Af _);have HA:=I (hp.at_ HK.o);have k0:=HA.o.k;have HP:=I hp;clear hc;rcases GC hx with⟨h1,e⟩ | ⟨h1,e⟩ | ⟨h1,e⟩ | ⟨h1,e⟩ | ⟨h1,e⟩
 ·have hk:m.k=1:=by rw[e]
  have y1:(m.k==1)=true:=by rw[hk];rfl
  have y2:(m.k==2)=false:=by rw[hk];rfl
  have y3:(m.k==3)=false:=by rw[hk];rfl
  have y4:(m.k==4)=false:=by rw[hk];rfl
  have y5:(m.k==5)=false:=by rw[hk];rfl
  have E:=I (show mgE m=asE m.aq by rw[e];rfl);have Y:=I (fun w1 (h:Below w.heap.size w w1)=>Wu w1 hp.a h1);rw[E.o];clear hx h1 e hk hp E;go_enter Tryz.func100,Tryz.ntmps100
  go_upto_region 1 with fail
  rw[<-eW];clear eW
  go_wp2_with (first
   |(refine AG (by rfl) 49 (.tmp 7) (by rfl) w.heap.size 1 (by rfl) pa _ HA.o.a Tryz.underlying49 (by rfl) (by rw[HP.o.a.size];exact Cw) ?_)
   |(go_at_call 145;refine Calls.mono (Y.o _ HB.o) ?_;rintro e w3 ⟨⟨g,c,rfl,X,O,M⟩,Z⟩;have HG:=I (Ba (l:=asE m.aq) ⟨⟨g,c,rfl,X,O,M⟩,Z⟩ HB.o);clear X O M Z Y)
   |fail)
  go_ret;exact HG.o
 ·have hk:m.k=2:=by rw[e]
  have y1:(m.k==1)=false:=by rw[hk];rfl
  have y2:(m.k==2)=true:=by rw[hk];rfl
  have y3:(m.k==3)=false:=by rw[hk];rfl
  have y4:(m.k==4)=false:=by rw[hk];rfl
  have y5:(m.k==5)=false:=by rw[hk];rfl
  have E:=I (show mgE m=tgE m.tg by rw[e];rfl);have Y:=I (fun w1 (h:Below w.heap.size w w1)=>Wv w1 ((hp.t.keep h).more h.size) h1);rw[E.o];clear hx h1 e hk hp E;go_enter Tryz.func100,Tryz.ntmps100
  go_upto_region 1 with fail
  rw[<-eW];clear eW
  go_wp2_with (first
   |(refine AG (by rfl) 53 (.tmp 12) (by rfl) w.heap.size 7 (by rfl) pt _ HA.o.t Tryz.underlying53 (by rfl) (by rw[HP.o.t.size];exact BO) ?_)
   |(go_at_call 146;refine Calls.mono (Y.o _ HB.o) ?_;rintro e w3 ⟨⟨g,c,rfl,X,O,M⟩,Z⟩;have HG:=I (Ba (l:=tgE m.tg) ⟨⟨g,c,rfl,X,O,M⟩,Z⟩ HB.o);clear X O M Z Y)
   |fail)
  go_ret;exact HG.o
 ·have hk:m.k=3:=by rw[e]
  have y1:(m.k==1)=false:=by rw[hk];rfl
  have y2:(m.k==2)=false:=by rw[hk];rfl
  have y3:(m.k==3)=true:=by rw[hk];rfl
  have y4:(m.k==4)=false:=by rw[hk];rfl
  have y5:(m.k==5)=false:=by rw[hk];rfl
  have E:=I (show mgE m=reE m.re by rw[e];rfl);have Y:=I (fun w1 (h:Below w.heap.size w w1)=>Ww w1 ((hp.r.keep h).more h.size) h1);rw[E.o];clear hx h1 e hk hp E;go_enter Tryz.func100,Tryz.ntmps100
  go_upto_region 1 with fail
  rw[<-eW];clear eW
  go_wp2_with (first
   |(refine AG (by rfl) 55 (.tmp 17) (by rfl) w.heap.size 16 (by rfl) pr _ HA.o.r Tryz.underlying55 (by rfl) (by rw[HP.o.r.size];exact Dv) ?_)
   |(go_at_call 147;refine Calls.mono (Y.o _ HB.o) ?_;rintro e w3 ⟨⟨g,c,rfl,X,O,M⟩,Z⟩;have HG:=I (Ba (l:=reE m.re) ⟨⟨g,c,rfl,X,O,M⟩,Z⟩ HB.o);clear X O M Z Y)
   |fail)
  go_ret;exact HG.o
 ·have hk:m.k=4:=by rw[e]
  have y1:(m.k==1)=false:=by rw[hk];rfl
  have y2:(m.k==2)=false:=by rw[hk];rfl
  have y3:(m.k==3)=false:=by rw[hk];rfl
  have y4:(m.k==4)=true:=by rw[hk];rfl
  have y5:(m.k==5)=false:=by rw[hk];rfl
  have E:=I (show mgE m=apE m.ap by rw[e];rfl);have Y:=I (fun w1 (h:Below w.heap.size w w1)=>Wx w1 ((hp.p.keep h).more h.size) h1);rw[E.o];clear hx h1 e hk hp E;go_enter Tryz.func100,Tryz.ntmps100
  go_upto_region 1 with fail
  rw[<-eW];clear eW
  go_wp2_with (first
   |(refine AG (by rfl) 57 (.tmp 22) (by rfl) w.heap.size 23 (by rfl) pp _ HA.o.p Tryz.underlying57 (by rfl) (by rw[HP.o.p.size];exact DZ) ?_)
   |(go_at_call 148;refine Calls.mono (Y.o _ HB.o) ?_;rintro e w3 ⟨⟨g,c,rfl,X,O,M⟩,Z⟩;have HG:=I (Ba (l:=apE m.ap) ⟨⟨g,c,rfl,X,O,M⟩,Z⟩ HB.o);clear X O M Z Y)
   |fail)
  go_ret;exact HG.o
 ·have hk:m.k=5:=by rw[e]
  have y1:(m.k==1)=false:=by rw[hk];rfl
  have y2:(m.k==2)=false:=by rw[hk];rfl
  have y3:(m.k==3)=false:=by rw[hk];rfl
  have y4:(m.k==4)=false:=by rw[hk];rfl
  have y5:(m.k==5)=true:=by rw[hk];rfl
  have E:=I (show mgE m=faE m.fa by rw[e];rfl);have Y:=I (fun w1 (h:Below w.heap.size w w1)=>Wy w1 hp.f);rw[E.o];clear hx h1 e hk hp E;go_enter Tryz.func100,Tryz.ntmps100
  go_upto_region 1 with fail
  rw[<-eW];clear eW
  go_wp2_with (first
   |(refine AG (by rfl) 59 (.tmp 25) (by rfl) w.heap.size 28 (by rfl) pf _ HA.o.f Tryz.underlying59 (by rfl) (by rw[HP.o.f.size];exact FH) ?_)
   |(go_at_call 149;refine Calls.mono (Y.o _ HB.o) ?_;rintro e w3 ⟨⟨g,c,rfl,X,O,M⟩,Z⟩;have HG:=I (Ba (l:=faE m.fa) ⟨⟨g,c,rfl,X,O,M⟩,Z⟩ HB.o);clear X O M Z Y)
   |fail)
  go_ret;exact HG.o
theorem Ym {m:Mg} (Z:mgB m=true):(mgE m).length<=2000:=by
 rcases GC Z with⟨X,e⟩ | ⟨X,e⟩ | ⟨X,e⟩ | ⟨X,e⟩ | ⟨X,e⟩
 ·have O:mgE m=asE m.aq:=by rw[e];rfl
  have M:prB m.aq.c=true/\prB m.aq.s=true/\tmB m.aq.t=true/\tmB m.aq.no=true:=by simpa [asB] using X
  have b1:=(AV M.1).1;have b2:=(AV M.2.1).1;have b3:=AE m.aq.t;have b4:=AE m.aq.no;have:=Az 106 [prE m.aq.c,prE m.aq.s,encI m.aq.t,encI m.aq.no].flatten;rw[O,asE];rw[Ja] at this⊢;simp only[List.length_append] at this;omega
 ·have O:mgE m=tgE m.tg:=by rw[e];rfl
  have M:tkB m.tg.t=true/\Bv m.tg.a=true/\prB m.tg.s=true/\tmB m.tg.u=true/\tmB m.tg.no=true:=by simpa [tgB] using X
  have b1:=(BU M.1).1;have b2:=Az 4 m.tg.a;have b3:=(AV M.2.2.1).1;have b4:=AE m.tg.u;have b5:=AE m.tg.no;have Y:=Bd M.2.1;have:=Az 108 [tkE m.tg.t,elem 4 m.tg.a,prE m.tg.s,encI m.tg.u,encI m.tg.no].flatten;rw[O,tgE];rw[Eo] at this⊢;simp only[List.length_append] at this;omega
 ·have O:mgE m=reE m.re:=by rw[e];rfl
  have M:prB m.re.c=true/\tkB m.re.t=true/\Bv m.re.b=true:=by simpa [reB] using X
  have b1:=(AV M.1).1;have b2:=(BU M.2.1).1;have b3:=Az 4 m.re.b;have Y:=Bd M.2.2;have:=Az 107 [prE m.re.c,tkE m.re.t,elem 4 m.re.b].flatten;rw[O,reE];rw[Dn] at this⊢;simp only[List.length_append] at this;omega
 ·have O:mgE m=apE m.ap:=by rw[e];rfl
  have M:tkB m.ap.t=true/\Bv m.ap.a=true:=by simpa [apB] using X
  have b2:=(BU M.1).1;have b3:=Az 4 m.ap.a;have Y:=Bd M.2;have:=Az 110 [tkE m.ap.t,elem 4 m.ap.a].flatten;rw[O,apE];rw[Db] at this⊢;simp only[List.length_append] at this;omega
 ·have O:mgE m=faE m.fa:=by rw[e];rfl
  have b2:=AE m.fa.e;have b3:=AE m.fa.no;have:=Az 126 [encI m.fa.e,encI m.fa.no].flatten;rw[O,faE];rw[Db] at this⊢;simp only[List.length_append] at this;omega
theorem RH (M:Array Value) (m:Mg) (w:World) (h:MgV w w.heap.size M m) (hs:mSm m):Calls Tryz.prog 56 #[.agg M] w (EncR w (mgO m)):=by
 have HI:=I (show(Tryz.prog.info? 61).map (·.size)=some M.size by obtain⟨pa,pt,pr,pp,pf,hc,hp⟩:=h;rw[hc,hp.size];exact AT);have I1:=I (fun w1 (h1:Below w.heap.size w w1)=>RG M m w1 ((h.keep h1).more h1.size) hs);have T0:=I (fun(O:mgB m=true)=>fun w1 (h1:Below w.heap.size w w1)=>Pc M m w1 ((h.keep h1).more h1.size) O);have X:=I (fun(O:mgB m=true)=>Ym O);obtain⟨cs,aa⟩:∃cs:Array Value,cs=M:=⟨_,rfl⟩;rw[<-aa] at HI I1 T0⊢;clear aa;have HB:=I ((Below.refl w.heap.size w).alloc Af (.cells cs 61));have HK:=I (Blk.new w 61 cs);cases O:mgB m with
 |false=>
  rw[O] at I1;have E:=I (show mgO m=none by unfold mgO limO;rw[O];rfl);rw[E.o];clear O E T0 X hs h;go_enter Tryz.func56,Tryz.ntmps56
  go_wp2_with (first
   |(refine Ad (by rfl) 61 (.tmp 1) (by rfl) w.heap.size 0 (by rfl) cs _ (Ac HK.o) Tryz.underlying61 (by rfl) HI.o ?_)
   |(go_at_call 98;refine Ah (I1.o _ HB.o) ?_;rintro w1 Z;replace HB:=HB.t Z;clear Z I1)
   |fail)
  go_ret2
  exact Ey HB.o
 |true=>
  rw[O] at I1;have T1:=I (T0.o O);have Y:=X.o O;have E:=I (show mgO m=some (mgE m) from Br.2 ⟨O,Y,rfl⟩);rw[E.o];obtain⟨l,el⟩:=Aj (mgE m);rw[<-el] at T1 Y⊢;have LM:=I (fun A c w1=>Hk l A _ c w1 rfl Y);clear O E el Y T0 X hs h;go_enter Tryz.func56,Tryz.ntmps56
  go_wp2_with (first
   |(refine Ad (by rfl) 61 (.tmp 1) (by rfl) w.heap.size 0 (by rfl) cs _ (Ac HK.o) Tryz.underlying61 (by rfl) HI.o ?_)
   |(go_at_call 98;refine Ah (I1.o _ HB.o) ?_;rintro w1 Z;replace HK:=I (HK.o.below Z);replace HB:=HB.t Z;clear Z I1)
   |(go_at_call 100;refine Calls.mono (T1.o _ HB.o) ?_;rintro e w2 ⟨⟨g,c,rfl,h2,h3,h4⟩,Z⟩;have HG:=I (Ba (l:=l) ⟨⟨g,c,rfl,h2,h3,h4⟩,Z⟩ HB.o);clear h2 h3 h4 Z T1)
   |(go_at_call 99;refine Ah (LM.o _ _ _) ?_;rintro wy rfl;clear LM)
   |fail)
  go_ret2
  exact Dl HG.o
end Mc
namespace Mc
open Go.RowKit Ae DerP DerC Ms
theorem Pd (g:Nat) (c:Option L) (w:World) (h:Cur w g c) (hs:(c.getD []).length<=100000):Calls Tryz.prog 94 #[.pointer (some ⟨g,0,none⟩)] w fun e w'=>∃z1,∃z2,e=.returned (.agg #[.string ⟨(tgQ c).1.t.s.1.toArray⟩,.string ⟨(tgQ c).1.t.s.2.toArray⟩,.int .i64 (tgQ c).1.t.k,z1,z2,.string ⟨(tgQ c).1.s.1.toArray⟩,.string ⟨(tgQ c).1.s.2.toArray⟩,.int .i64 (tgQ c).1.u,.int .i64 (tgQ c).1.no])/\OwnB w' w.heap.size z1 (tgQ c).1.t.b/\OwnB w' w.heap.size z2 (tgQ c).1.a/\Cur w' g (tgQ c).2/\w.grownBy w' (some g):=by
 obtain⟨W,eW⟩:=Aj (w.alloc (.cells #[.string ⟨#[]⟩,.string ⟨#[]⟩,.int .i64 0,.slice none 0 0,.slice none 0 0,.string ⟨#[]⟩,.string ⟨#[]⟩,.int .i64 0,.int .i64 0] 53));have aB:W.heap.size=w.heap.size+1:=by rw[eW];simp
 have O:=I (show Blk W w.heap.size 53 #[.string ⟨#[]⟩,.string ⟨#[]⟩,.int .i64 0,.slice none 0 0,.slice none 0 0,.string ⟨#[]⟩,.string ⟨#[]⟩,.int .i64 0,.int .i64 0] by rw[eW];exact Blk.new _ _ _);have ax:=Ds h;have HC:=I (show Cur W g c by rw[eW];exact h.alloc _);have HG:=I (show w.grownBy W (some g) by rw[eW];exact Cc (World.grownBy.refl _ _) _);have ag:=hs;obtain⟨s0,aa⟩:∃s,s=c:=⟨_,rfl⟩;rw[<-aa] at HC ag;have X:=I ax;have Y:=I (show w.heap.size<W.heap.size by omega);have av:(((tkQ s0).2).getD []).length<=100000:=Co 97 ag;have T1:=I (fun g w h=>Ea g s0 w h ag);obtain⟨v1,ak⟩:∃x:Tk,x=(tkQ s0).1:=⟨_,rfl⟩;obtain⟨s1,es1⟩:∃s,s=(tkQ s0).2:=⟨_,rfl⟩;rw[<-ak,<-es1] at T1;rw[<-es1] at av;have ah:((AQ 4 s1).getD []).length<=100000:=Co 4 av;have T2:=I (fun g w h=>DO g s1 w h (by omega));obtain⟨v2,al⟩:∃x:L,x=ocC s1:=⟨_,rfl⟩;obtain⟨s2,ad⟩:∃s,s=AQ 4 s1:=⟨_,rfl⟩;rw[<-al,<-ad] at T2;rw[<-ad] at ah;have ao:(((prQ s2).2).getD []).length<=100000:=Co 48 ah;have T3:=I (fun g w h=>Ct g s2 w h ah);obtain⟨v3,au⟩:∃x:Pr,x=(prQ s2).1:=⟨_,rfl⟩;obtain⟨s3,ae⟩:∃s,s=(prQ s2).2:=⟨_,rfl⟩;rw[<-au,<-ae] at T3;rw[<-ae] at ao;have ar:(((intC s3).2).getD []).length<=100000:=DW ao;have T4:=I (fun g w h=>Bk g s3 w h (by omega));obtain⟨v4,aj⟩:∃x:Int,x=((intC s3).1:Int):=⟨_,rfl⟩;obtain⟨s4,af⟩:∃s,s=(intC s3).2:=⟨_,rfl⟩;rw[<-aj,<-af] at T4;rw[<-af] at ar;have aD:(((intC s4).2).getD []).length<=100000:=DW ar;have T5:=I (fun g w h=>Bk g s4 w h (by omega));obtain⟨v5,an⟩:∃x:Int,x=((intC s4).1:Int):=⟨_,rfl⟩;obtain⟨s5,ai⟩:∃s,s=(intC s4).2:=⟨_,rfl⟩;rw[<-an,<-ai] at T5;rw[<-ai] at aD;have aC:=I (show(tgQ c).1.t=v1 by rw[ak,aa];rfl);have ay:=I (show(tgQ c).1.a=v2 by rw[al,es1,aa];rfl);have az:=I (show(tgQ c).1.s=v3 by rw[au,ad,es1,aa];rfl);have aA:=I (show(tgQ c).1.u=v4 by rw[aj,ae,ad,es1,aa];rfl);have aw:=I (show(tgQ c).1.no=v5 by rw[an,af,ae,ad,es1,aa];rfl);have FS:=I (show(tgQ c).2=s5 by rw[ai,af,ae,ad,es1,aa];rfl);rw[aC.o,ay.o,az.o,aA.o,aw.o,FS.o];clear h hs ag av ah ao ar aD aC ak es1 ay al ad az au ae aA aj af aw an ai aa FS ax;have aE:=I aB;clear aB;subst eW;go_enter Tryz.func94,Tryz.ntmps94
 go_wp2_with (first
  |(go_at_call 136;(with_reducible refine Calls.mono (T1.o _ _ HC.o) ?_);rintro e w1 ⟨y,rfl,ho,hd,M⟩;clear T1;replace ho:=ho.less (show w.heap.size+1<=_ from Y.o);obtain⟨b1,c1,rfl,x1,x2,x3,x4⟩:=ho;have Z:Hid (OwnB w1 (w.heap.size+1) (.slice (some ⟨b1,0,none⟩) _ c1) _):=I ⟨b1,c1,rfl,x1,x2,x3,x4⟩;clear x1 x2 x3 x4;replace HC:=I hd;replace O:=I (O.o.grown M (by intro e;injection e with e;have:=X.o;omega));replace HG:=I (CJ HG.o M);replace Y:=I (Nat.lt_of_lt_of_le Y.o M.size);clear hd M)
  |(go_at_call 137;(with_reducible refine Calls.mono (T2.o _ _ HC.o) ?_);rintro e w2 ⟨⟨y,rfl,ho⟩,hd,M⟩;clear T2;replace ho:=ho.less (show w.heap.size+1<=_ from Y.o);obtain⟨b2,c2,rfl,x1,x2,x3,x4⟩:=ho;have ab:Hid (OwnB w2 (w.heap.size+1) (.slice (some ⟨b2,0,none⟩) _ c2) _):=I ⟨b2,c2,rfl,x1,x2,x3,x4⟩;clear x1 x2 x3 x4;replace HC:=I hd;replace Z:=I (Z.o.keep M (by have:=X.o;omega));replace O:=I (O.o.grown M (by intro e;injection e with e;have:=X.o;omega));replace HG:=I (CJ HG.o M);replace Y:=I (Nat.lt_of_lt_of_le Y.o M.size);clear hd M)
  |(go_at_call 134;(with_reducible refine Calls.mono (T3.o _ _ HC.o) ?_);rintro e w3 ⟨rfl,hd,M⟩;clear T3;replace HC:=I hd;replace Z:=I (Z.o.keep M (by have:=X.o;omega));replace ab:=I (ab.o.keep M (by have:=X.o;omega));replace O:=I (O.o.grown M (by intro e;injection e with e;have:=X.o;omega));replace HG:=I (CJ HG.o M);replace Y:=I (Nat.lt_of_lt_of_le Y.o M.size);clear hd M)
  |(go_at_call 135;(with_reducible refine Calls.mono (T4.o _ _ HC.o) ?_);rintro e w4 ⟨rfl,hd,M⟩;clear T4;replace HC:=I hd;replace Z:=I (Z.o.keep M (by have:=X.o;omega));replace ab:=I (ab.o.keep M (by have:=X.o;omega));replace O:=I (O.o.grown M (by intro e;injection e with e;have:=X.o;omega));replace HG:=I (CJ HG.o M);replace Y:=I (Nat.lt_of_lt_of_le Y.o M.size);clear hd M)
  |(go_at_call 135;(with_reducible refine Calls.mono (T5.o _ _ HC.o) ?_);rintro e w5 ⟨rfl,hd,M⟩;clear T5;replace HC:=I hd;replace Z:=I (Z.o.keep M (by have:=X.o;omega));replace ab:=I (ab.o.keep M (by have:=X.o;omega));replace O:=I (O.o.grown M (by intro e;injection e with e;have:=X.o;omega));replace HG:=I (CJ HG.o M);replace Y:=I (Nat.lt_of_lt_of_le Y.o M.size);clear hd M;have n0:=O.c0;have y0:=O.o.frozen 0;have n1:=O.c1;have y1:=O.o.frozen 1;have n2:=O.c2;have y2:=O.o.frozen 2;have n3:=O.c3;have y3:=O.o.frozen 3;have n4:=O.c4;have y4:=O.o.frozen 4;have n5:=O.c5;have y5:=O.o.frozen 5;have n6:=O.c6;have y6:=O.o.frozen 6;have n7:=O.c7;have y7:=O.o.frozen 7;have n8:=O.c8;have y8:=O.o.frozen 8)
  |fail)
 have hE:Blk (((((((((w5.setCell ⟨w.heap.size,0,none⟩ (.string ⟨v1.s.1.toArray⟩)).setCell ⟨w.heap.size,1,none⟩ (.string ⟨v1.s.2.toArray⟩)).setCell ⟨w.heap.size,2,none⟩ (.int .i64 v1.k)).setCell ⟨w.heap.size,3,none⟩ (.slice (some ⟨b1,0,none⟩) v1.b.length c1)).setCell ⟨w.heap.size,4,none⟩ (.slice (some ⟨b2,0,none⟩) v2.length c2)).setCell ⟨w.heap.size,5,none⟩ (.string ⟨v3.1.toArray⟩)).setCell ⟨w.heap.size,6,none⟩ (.string ⟨v3.2.toArray⟩)).setCell ⟨w.heap.size,7,none⟩ (.int .i64 v4)).setCell ⟨w.heap.size,8,none⟩ (.int .i64 v5)) w.heap.size 53 #[.string ⟨v1.s.1.toArray⟩,.string ⟨v1.s.2.toArray⟩,.int .i64 v1.k,.slice (some ⟨b1,0,none⟩) v1.b.length c1,.slice (some ⟨b2,0,none⟩) v2.length c2,.string ⟨v3.1.toArray⟩,.string ⟨v3.2.toArray⟩,.int .i64 v4,.int .i64 v5]:=(((((((((O.o.set 0 (.string ⟨v1.s.1.toArray⟩)).set 1 (.string ⟨v1.s.2.toArray⟩)).set 2 (.int .i64 v1.k)).set 3 (.slice (some ⟨b1,0,none⟩) v1.b.length c1)).set 4 (.slice (some ⟨b2,0,none⟩) v2.length c2)).set 5 (.string ⟨v3.1.toArray⟩)).set 6 (.string ⟨v3.2.toArray⟩)).set 7 (.int .i64 v4)).set 8 (.int .i64 v5));have hp:=(Ar (Ar (Ar (Ar (Ar (Ar (Ar (Ar (Ar (World.grownBy.refl w5 (some w.heap.size)) (p:=⟨w.heap.size,0,none⟩) (.inl rfl) (.string ⟨v1.s.1.toArray⟩)) (p:=⟨w.heap.size,1,none⟩) (.inl rfl) (.string ⟨v1.s.2.toArray⟩)) (p:=⟨w.heap.size,2,none⟩) (.inl rfl) (.int .i64 v1.k)) (p:=⟨w.heap.size,3,none⟩) (.inl rfl) (.slice (some ⟨b1,0,none⟩) v1.b.length c1)) (p:=⟨w.heap.size,4,none⟩) (.inl rfl) (.slice (some ⟨b2,0,none⟩) v2.length c2)) (p:=⟨w.heap.size,5,none⟩) (.inl rfl) (.string ⟨v3.1.toArray⟩)) (p:=⟨w.heap.size,6,none⟩) (.inl rfl) (.string ⟨v3.2.toArray⟩)) (p:=⟨w.heap.size,7,none⟩) (.inl rfl) (.int .i64 v4)) (p:=⟨w.heap.size,8,none⟩) (.inl rfl) (.int .i64 v5));have hq:=Ao (P:=Tryz.prog) hE Tryz.underlying53 rfl (by kernel_rfl);refine bodyPost_ret (v:=.agg #[.string ⟨v1.s.1.toArray⟩,.string ⟨v1.s.2.toArray⟩,.int .i64 v1.k,.slice (some ⟨b1,0,none⟩) v1.b.length c1,.slice (some ⟨b2,0,none⟩) v2.length c2,.string ⟨v3.1.toArray⟩,.string ⟨v3.2.toArray⟩,.int .i64 v4,.int .i64 v5]) ?_ ?_ ?_
 ·exact Al 2 53 ⟨w.heap.size,0,none⟩ Tryz.results94 rfl hq
 ·rfl
 exact⟨_,_,rfl,(Z.o.keep hp (by omega)).less (by omega),(ab.o.keep hp (by omega)).less (by omega),Dg HC.o hp (by have:=X.o;omega),DQ HG.o hp Af⟩
def OwnN (w:World) (base:Nat) (v:Value) (l:L):Prop:=(v=.slice none 0 0/\l = [])\/OwnB w base v l
section
variable {w w':World} {base base' g:Nat} {v:Value} {l:L} {cs:Array Value}
theorem OwnN.keep (h:OwnN w base v l) (O:w.grownBy w' (some g)) (M:g<base):OwnN w' base v l:=h.imp id fun h=>h.keep O M
theorem OwnN.below (h:OwnN w base v l) (M:Below w.heap.size w w'):OwnN w' base v l:=h.imp id fun h=>h.below M
theorem OwnN.less (h:OwnN w base v l) (M:base'<=base):OwnN w base' v l:=h.imp id fun h=>h.less M
theorem OwnN.slb (h:OwnN w base v l):SlB w w.heap.size v l:=by
 rcases h with⟨rfl,rfl⟩ | h
 ·exact SlB.nil _ _
 ·exact h.slb
def TgO (w:World) (B:Nat) (cs:Array Value) (q:Tg):Prop:=∃b a,cs=(tgC q b a).toArray/\OwnN w B b q.t.b/\OwnN w B a q.a
def ReO (w:World) (B:Nat) (cs:Array Value) (q:Re):Prop:=∃b a,cs=(reC q b a).toArray/\OwnN w B b q.t.b/\OwnN w B a q.b
def ApO (w:World) (B:Nat) (cs:Array Value) (q:Ap):Prop:=∃b a,cs=(apC q b a).toArray/\OwnN w B b q.t.b/\OwnN w B a q.a
theorem TgO.keep {q:Tg} (h:TgO w base cs q) (O:w.grownBy w' (some g)) (M:g<base):TgO w' base cs q:=by obtain⟨b,a,X,Z,Y⟩:=h;exact⟨b,a,X,Z.keep O M,Y.keep O M⟩
theorem TgO.below {q:Tg} (h:TgO w base cs q) (M:Below w.heap.size w w'):TgO w' base cs q:=by obtain⟨b,a,O,Y,X⟩:=h;exact⟨b,a,O,Y.below M,X.below M⟩
theorem TgO.less {q:Tg} (h:TgO w base cs q) (M:base'<=base):TgO w base' cs q:=by obtain⟨b,a,O,Y,X⟩:=h;exact⟨b,a,O,Y.less M,X.less M⟩
theorem TgO.toV {q:Tg} (h:TgO w base cs q):TgV w w.heap.size cs q:=by obtain⟨b,a,M,X,O⟩:=h;exact⟨b,a,M,X.slb,O.slb⟩
theorem ReO.keep {q:Re} (h:ReO w base cs q) (O:w.grownBy w' (some g)) (M:g<base):ReO w' base cs q:=by obtain⟨b,a,X,Z,Y⟩:=h;exact⟨b,a,X,Z.keep O M,Y.keep O M⟩
theorem ReO.below {q:Re} (h:ReO w base cs q) (M:Below w.heap.size w w'):ReO w' base cs q:=by obtain⟨b,a,O,Y,X⟩:=h;exact⟨b,a,O,Y.below M,X.below M⟩
theorem ReO.less {q:Re} (h:ReO w base cs q) (M:base'<=base):ReO w base' cs q:=by obtain⟨b,a,O,Y,X⟩:=h;exact⟨b,a,O,Y.less M,X.less M⟩
theorem ReO.toV {q:Re} (h:ReO w base cs q):ReV w w.heap.size cs q:=by obtain⟨b,a,M,X,O⟩:=h;exact⟨b,a,M,X.slb,O.slb⟩
theorem ApO.keep {q:Ap} (h:ApO w base cs q) (O:w.grownBy w' (some g)) (M:g<base):ApO w' base cs q:=by obtain⟨b,a,X,Z,Y⟩:=h;exact⟨b,a,X,Z.keep O M,Y.keep O M⟩
theorem ApO.below {q:Ap} (h:ApO w base cs q) (M:Below w.heap.size w w'):ApO w' base cs q:=by obtain⟨b,a,O,Y,X⟩:=h;exact⟨b,a,O,Y.below M,X.below M⟩
theorem ApO.less {q:Ap} (h:ApO w base cs q) (M:base'<=base):ApO w base' cs q:=by obtain⟨b,a,O,Y,X⟩:=h;exact⟨b,a,O,Y.less M,X.less M⟩
theorem ApO.toV {q:Ap} (h:ApO w base cs q):ApV w w.heap.size cs q:=by obtain⟨b,a,M,X,O⟩:=h;exact⟨b,a,M,X.slb,O.slb⟩
structure MpO (w:World) (B:Nat) (pa pt pr pp pf:Array Value) (m:Mg):Prop where
 a:AsV pa m.aq
 t:TgO w B pt m.tg
 r:ReO w B pr m.re
 p:ApO w B pp m.ap
 f:FaV pf m.fa
def MgO (w:World) (B:Nat) (cs:Array Value) (m:Mg):Prop:=∃pa pt pr pp pf,cs=mgA m.k pa pt pr pp pf/\MpO w B pa pt pr pp pf m
variable {pa pt pr pp pf:Array Value} {m:Mg}
theorem MpO.toV (h:MpO w base pa pt pr pp pf m):MgP w w.heap.size pa pt pr pp pf m:=⟨h.a,h.t.toV,h.r.toV,h.p.toV,h.f⟩
theorem MpO.keep (h:MpO w base pa pt pr pp pf m) (O:w.grownBy w' (some g)) (M:g<base):MpO w' base pa pt pr pp pf m:=⟨h.a,h.t.keep O M,h.r.keep O M,h.p.keep O M,h.f⟩
theorem MpO.below (h:MpO w base pa pt pr pp pf m) (M:Below w.heap.size w w'):MpO w' base pa pt pr pp pf m:=⟨h.a,h.t.below M,h.r.below M,h.p.below M,h.f⟩
theorem MpO.less (h:MpO w base pa pt pr pp pf m) (M:base'<=base):MpO w base' pa pt pr pp pf m:=⟨h.a,h.t.less M,h.r.less M,h.p.less M,h.f⟩
theorem MgO.toV (h:MgO w base cs m):MgV w w.heap.size cs m:=by obtain⟨pa,pt,pr,pp,pf,M,O⟩:=h;exact⟨pa,pt,pr,pp,pf,M,O.toV⟩
theorem MgO.keep (h:MgO w base cs m) (Y:w.grownBy w' (some g)) (M:g<base):MgO w' base cs m:=by obtain⟨pa,pt,pr,pp,pf,O,X⟩:=h;exact⟨pa,pt,pr,pp,pf,O,X.keep Y M⟩
theorem MgO.below (h:MgO w base cs m) (X:Below w.heap.size w w'):MgO w' base cs m:=by obtain⟨pa,pt,pr,pp,pf,M,O⟩:=h;exact⟨pa,pt,pr,pp,pf,M,O.below X⟩
theorem MgO.less (h:MgO w base cs m) (X:base'<=base):MgO w base' cs m:=by obtain⟨pa,pt,pr,pp,pf,M,O⟩:=h;exact⟨pa,pt,pr,pp,pf,M,O.less X⟩
theorem MgO.size (h:MgO w base cs m):cs.size=30:=by obtain⟨pa,pt,pr,pp,pf,M,O⟩:=h;rw[M];exact O.toV.size m.k
theorem MgO.one (h:MgO w base cs m):One cs:=by obtain⟨pa,pt,pr,pp,pf,M,O⟩:=h;rw[M];exact O.toV.one m.k
end
theorem zT_o (w:World) (B:Nat):TgO w B zT tg0:=⟨_,_,rfl,.inl ⟨rfl,rfl⟩,.inl ⟨rfl,rfl⟩⟩
theorem zR_o (w:World) (B:Nat):ReO w B zR re0:=⟨_,_,rfl,.inl ⟨rfl,rfl⟩,.inl ⟨rfl,rfl⟩⟩
theorem zP_o (w:World) (B:Nat):ApO w B zP ap0:=⟨_,_,rfl,.inl ⟨rfl,rfl⟩,.inl ⟨rfl,rfl⟩⟩
theorem zM_o (w:World) (B:Nat) (k:Int):MpO w B zA zT zR zP zF ⟨k,as0,tg0,re0,ap0,fa0⟩:=⟨zA_v,zT_o w B,zR_o w B,zP_o w B,zF_v⟩
section
variable (g:Nat) (c:Option L) (w:World) (h:Cur w g c) (hs:(c.getD []).length<=100000)
include h hs
theorem TY:Calls Tryz.prog 93 #[.pointer (some ⟨g,0,none⟩)] w fun e w'=>∃ps,e=.returned (.agg ps)/\AsV ps (asQ c).1/\w.grownBy w' (some g):=
 (OU g c w h hs).mono fun e w' M=>by obtain⟨rfl,_,O⟩:=M;exact⟨_,rfl,rfl,O⟩
theorem TZ:Calls Tryz.prog 94 #[.pointer (some ⟨g,0,none⟩)] w fun e w'=>∃ps,e=.returned (.agg ps)/\TgO w' w.heap.size ps (tgQ c).1/\w.grownBy w' (some g):=
 (Pd g c w h hs).mono fun e w' Y=>by obtain⟨Z,z2,rfl,O,M,_,X⟩:=Y;exact⟨_,rfl,⟨_,_,rfl,.inr O,.inr M⟩,X⟩
theorem Ua:Calls Tryz.prog 95 #[.pointer (some ⟨g,0,none⟩)] w fun e w'=>∃ps,e=.returned (.agg ps)/\ReO w' w.heap.size ps (reQ c).1/\w.grownBy w' (some g):=
 (OV g c w h hs).mono fun e w' Y=>by obtain⟨Z,z2,rfl,O,M,_,X⟩:=Y;exact⟨_,rfl,⟨_,_,rfl,.inr O,.inr M⟩,X⟩
theorem Ub:Calls Tryz.prog 96 #[.pointer (some ⟨g,0,none⟩)] w fun e w'=>∃ps,e=.returned (.agg ps)/\ApO w' w.heap.size ps (apQ c).1/\w.grownBy w' (some g):=
 (OW g c w h hs).mono fun e w' Y=>by obtain⟨Z,z2,rfl,O,M,_,X⟩:=Y;exact⟨_,rfl,⟨_,_,rfl,.inr O,.inr M⟩,X⟩
theorem Uc:Calls Tryz.prog 97 #[.pointer (some ⟨g,0,none⟩)] w fun e w'=>∃ps,e=.returned (.agg ps)/\FaV ps (faQ c).1/\w.grownBy w' (some g):=
 (OX g c w h hs).mono fun e w' M=>by obtain⟨rfl,_,O⟩:=M;exact⟨_,rfl,rfl,O⟩
end
theorem Nv {ps:Array Value} {q:As} (h:AsV ps q):Tryz.prog.built 61 [(0,.int .i64 1),(1,.agg ps)]=some (mgA 1 ps zT zR zP zF):=by rw[h];kernel_rfl
theorem Ud {w:World} {B:Nat} {ps:Array Value} {q:Tg} (h:TgO w B ps q):Tryz.prog.built 61 [(0,.int .i64 2),(2,.agg ps)]=some (mgA 2 zA ps zR zP zF):=by obtain⟨b,a,rfl,_⟩:=h;kernel_rfl
theorem Ue {w:World} {B:Nat} {ps:Array Value} {q:Re} (h:ReO w B ps q):Tryz.prog.built 61 [(0,.int .i64 3),(3,.agg ps)]=some (mgA 3 zA zT ps zP zF):=by obtain⟨b,a,rfl,_⟩:=h;kernel_rfl
theorem Uf {w:World} {B:Nat} {ps:Array Value} {q:Ap} (h:ApO w B ps q):Tryz.prog.built 61 [(0,.int .i64 4),(4,.agg ps)]=some (mgA 4 zA zT zR ps zF):=by obtain⟨b,a,rfl,_⟩:=h;kernel_rfl
theorem Ug {ps:Array Value} {q:Fa} (h:FaV ps q):Tryz.prog.built 61 [(0,.int .i64 5),(5,.agg ps)]=some (mgA 5 zA zT zR zP ps):=by rw[h];kernel_rfl
theorem FY:Tryz.prog.built 61 []=some (mgA 0 zA zT zR zP zF):=by kernel_rfl
theorem My (A:Option Addr) (b:L) (cap:Nat) (w:World) (h:Rd w w.heap.size A (bvs b)) (hs:b.length<=100000):Calls Tryz.prog 55 #[.slice A b.length cap] w fun e w'=>∃ds,e=.returned (.agg ds)/\MgO w' w.heap.size ds (mgQ b)/\Below w.heap.size w w':=by
 obtain⟨zz,ae⟩:∃z:Array Value,z=#[.int .i64 0,.string ⟨#[]⟩,.string ⟨#[]⟩,.string ⟨#[]⟩,.string ⟨#[]⟩,.int .i64 0,.int .i64 0,.string ⟨#[]⟩,.string ⟨#[]⟩,.int .i64 0,.slice none 0 0,.slice none 0 0,.string ⟨#[]⟩,.string ⟨#[]⟩,.int .i64 0,.int .i64 0,.string ⟨#[]⟩,.string ⟨#[]⟩,.string ⟨#[]⟩,.string ⟨#[]⟩,.int .i64 0,.slice none 0 0,.slice none 0 0,.string ⟨#[]⟩,.string ⟨#[]⟩,.int .i64 0,.slice none 0 0,.slice none 0 0,.int .i64 0,.int .i64 0]:=⟨_,rfl⟩;have av:zz=mgA 0 zA zT zR zP zF:=by rw[ae];rfl
 have ah:=I (show zz.size=30 by rw[av];exact(zM_v w 0 0).size 0);obtain⟨W,eW⟩:=Aj (w.alloc (.cells zz 61));have aj:=I (show W.heap.size=w.heap.size+1 by rw[eW];simp);have X:=I (show Blk W w.heap.size 61 zz by rw[eW];exact Blk.new _ _ _);have M:=I (show Below w.heap.size w W by rw[eW];exact Ag.alloc Af _);clear av;cases b with
 |nil=>
  have EQ:=I (show mgQ []=⟨0,as0,tg0,re0,ap0,fa0⟩ from rfl);have O:=I ((zM_v w 0 0).size 0);have ai:=I ((zM_v w 0 0).one 0);clear h hs;go_enter Tryz.func55,Tryz.ntmps55
  go_upto_region 1 with fail
  rw[<-ae,<-eW];clear ae eW
  go_wp2_with (first
   |(refine Ay (by rfl) 61 #[] (by rfl) (mgA 0 zA zT zR zP zF) FY ?_)
   |(refine wpList_store_mid (by rfl) 61 (.tmp 2) (.tmp 7) (by rfl) w.heap.size 0 (mgA 0 zA zT zR zP zF) (by rfl) (by rfl) (Am X.o _ (by rw[O.o];have:=ah.o;omega)) (by rw[O.o];exact AT) ai.o ?_)
   |fail)
  have hE:=AI (ds:=mgA 0 zA zT zR zP zF) X.o (by rw[O.o];exact ah.o);have hp:=AK W w.heap.size (mgA 0 zA zT zR zP zF).toList;have hq:=Ao (P:=Tryz.prog) hE Tryz.underlying61 rfl (by rw[O.o];exact AT);refine bodyPost_ret (v:=.agg (mgA 0 zA zT zR zP zF)) ?_ ?_ ?_
  ·exact Al 2 61 ⟨w.heap.size,0,none⟩ Tryz.results55 rfl hq
  ·rfl
  refine⟨_,rfl,?_,Ak M.o hp (by have:=X.o.lt;omega) Af⟩;rw[EQ.o];exact⟨zA,zT,zR,zP,zF,rfl,⟨zA_v,zT_o _ _,zR_o _ _,zP_o _ _,zF_v⟩⟩
 |cons t r=>
  obtain⟨bb,oo,rfl,aw,af⟩:∃bb oo,A=some ⟨bb,oo,none⟩/\bb<w.heap.size/\w.cell? ⟨bb,oo,none⟩=some (.int .u8 (t.toNat:Int)):=by
   obtain⟨bb,oo,rfl,h1,h2⟩:=h.at_ (i:=0) (u:=bv t) rfl;exact⟨bb,oo,rfl,h1,h2⟩
  have ak:=I (fun w1 (h1:Below w.heap.size w w1)=>show w1.cell? ⟨bb,oo,none⟩=some (.int .u8 (t.toNat:Int)) from(h1.cell (p:=⟨bb,oo,none⟩) aw).trans af);have hu:=BG t;have c0:=I (fun w1 (h1:Below w.heap.size w w1)=>No w1.heap.size (some ⟨bb,oo,none⟩) (t :: r) (t :: r).length cap w1 ((h.below h1).more h1.size) rfl);have au:((some (t :: r):Option L).getD []).length<=100000:=hs;have c1:=I (fun g w1 h=>Ii t g (some (t :: r)) w1 h (by omega));have ad:=EJ t au;have HL:=I (show(0:Int)<(((t :: r).length:Nat):Int) by simp)
  by_cases m1:t=106
  ·have d1:((t.toNat:Int)==106)=true:=by rw[m1];rfl
   have EQ:=I (show mgQ (t :: r)=⟨1,(asQ (Ax t (some (t :: r)))).1,tg0,re0,ap0,fa0⟩ by subst m1;rfl);obtain⟨s0,ag⟩:∃s,s=Ax t (some (t :: r)):=⟨_,rfl⟩;rw[<-ag] at c1 ad EQ;have T1:=I (fun g w1 h=>TY g s0 w1 h ad);clear ag ad au hs h af hu m1;go_enter Tryz.func55,Tryz.ntmps55
   go_upto_region 1 with fail
   rw[<-ae,<-eW];clear ae eW
   go_upto_region 3 with fail
   replace X:=I (show Blk W.drew _ _ _ from X.o.drewN 1);replace M:=I (show Below _ _ W.drew from below_drewN M.o 1)
   go_region_held3 (fun w'=>w'.cell? ⟨bb,oo,none⟩=some (.int .u8 (t.toNat:Int))) (exact ak.o _ M.o) ((first
    |(go_at_call 91;refine Calls.mono (c0.o _ M.o) ?_;rintro e wo ⟨go,rfl,al,ab,hb⟩;clear c0;have HC:=I ab;have Z:=I (show w.heap.size+1<=go by have:=aj.o;have:W.drew.heap.size=W.heap.size:=rfl;omega);replace X:=I (X.o.below hb);replace M:=M.t hb;have aa:=I (show w.heap.size+1<=wo.heap.size by have:=hb.size;have:=aj.o;have:W.drew.heap.size=W.heap.size:=rfl;omega);clear al ab hb)
    |(go_at_call 92;refine Calls.mono (c1.o _ _ HC.o) ?_;rintro e wi ⟨⟨gd,rfl,an,hd⟩,hc,hg⟩;clear c1 HC;have HD:=I hd;have Y:=I (show w.heap.size+1<=gd by have:=aa.o;omega);have ar:=I (Ds hd);replace X:=I (X.o.grown hg (by intro e;injection e with e;have:=Z.o;omega));replace M:=I (Ak M.o hg M.o.size (by have:=Z.o;omega));clear an hd hc hg aa Z)))
   have k9:=ak.o _ M.o
   go_wp2_with (first
    |(go_at_call 93;refine Calls.mono (T1.o _ _ HD.o) ?_;rintro e w3 ⟨ps,rfl,ho,hg⟩;clear T1 HD;replace X:=I (X.o.grown hg (by intro e;injection e with e;have:=Y.o;omega));replace M:=I (Ak M.o hg M.o.size (by have:=Y.o;omega));have ao:=I (Nv ho);have HM:=I (show MpO w3 (gd+1) ps zT zR zP zF ⟨1,(asQ s0).1,tg0,re0,ap0,fa0⟩ from⟨ho,zT_o _ _,zR_o _ _,zP_o _ _,zF_v⟩);have O:=I (HM.o.toV.size 1);have ai:=I (HM.o.toV.one 1);clear hg ho)
    |(refine Ay (by rfl) 61 #[(0,.const (.int .i64 1)),(1,.tmp 20)] (by rfl) (mgA 1 ps zT zR zP zF) (by simp only[List.map_toArray,List.map_cons,List.map_nil];exact ao.o) ?_)
    |(refine wpList_store_mid (by rfl) 61 (.tmp 2) (.tmp 21) (by rfl) w.heap.size 0 (mgA 1 ps zT zR zP zF) (by rfl) (by rfl) (Am X.o _ (by rw[O.o];have:=ah.o;omega)) (by rw[O.o];exact AT) ai.o ?_)
    |fail)
   have hE:=AI (ds:=mgA 1 ps zT zR zP zF) X.o (by rw[O.o];exact ah.o);have hp:=AK w3 w.heap.size (mgA 1 ps zT zR zP zF).toList;have hq:=Ao (P:=Tryz.prog) hE Tryz.underlying61 rfl (by rw[O.o];exact AT);refine bodyPost_ret (v:=.agg (mgA 1 ps zT zR zP zF)) ?_ ?_ ?_
   ·exact Al 2 61 ⟨w.heap.size,0,none⟩ Tryz.results55 rfl hq
   ·rfl
   refine⟨_,rfl,?_,Ak M.o hp (by have:=X.o.lt;omega) Af⟩;rw[EQ.o];exact⟨ps,zT,zR,zP,zF,rfl,(HM.o.keep hp (by have:=Y.o;omega)).less (by have:=Y.o;omega)⟩
  ·have d1:((t.toNat:Int)==106)=false:=by simp;intro e;exact m1 (UInt8.toNat_inj.1 (by rw[show(106:UInt8).toNat=106 from rfl];omega))
   by_cases m2:t=108
   ·have d2:((t.toNat:Int)==108)=true:=by rw[m2];rfl
    have EQ:=I (show mgQ (t :: r)=⟨2,as0,(tgQ (Ax t (some (t :: r)))).1,re0,ap0,fa0⟩ by subst m2;rfl);obtain⟨s0,ag⟩:∃s,s=Ax t (some (t :: r)):=⟨_,rfl⟩;rw[<-ag] at c1 ad EQ;have T1:=I (fun g w1 h=>TZ g s0 w1 h ad);clear ag ad au hs h af hu m1 m2;go_enter Tryz.func55,Tryz.ntmps55
    go_upto_region 1 with fail
    rw[<-ae,<-eW];clear ae eW
    go_upto_region 3 with fail
    replace X:=I (show Blk W.drew _ _ _ from X.o.drewN 1);replace M:=I (show Below _ _ W.drew from below_drewN M.o 1)
    go_region_held3 (fun w'=>w'.cell? ⟨bb,oo,none⟩=some (.int .u8 (t.toNat:Int))) (exact ak.o _ M.o) ((first
     |(go_at_call 91;refine Calls.mono (c0.o _ M.o) ?_;rintro e wo ⟨go,rfl,al,ab,hb⟩;clear c0;have HC:=I ab;have Z:=I (show w.heap.size+1<=go by have:=aj.o;have:W.drew.heap.size=W.heap.size:=rfl;omega);replace X:=I (X.o.below hb);replace M:=M.t hb;have aa:=I (show w.heap.size+1<=wo.heap.size by have:=hb.size;have:=aj.o;have:W.drew.heap.size=W.heap.size:=rfl;omega);clear al ab hb)
     |(go_at_call 92;refine Calls.mono (c1.o _ _ HC.o) ?_;rintro e wi ⟨⟨gd,rfl,an,hd⟩,hc,hg⟩;clear c1 HC;have HD:=I hd;have Y:=I (show w.heap.size+1<=gd by have:=aa.o;omega);have ar:=I (Ds hd);replace X:=I (X.o.grown hg (by intro e;injection e with e;have:=Z.o;omega));replace M:=I (Ak M.o hg M.o.size (by have:=Z.o;omega));clear an hd hc hg aa Z)))
    have k9:=ak.o _ M.o
    go_wp2_with (first
     |(go_at_call 94;refine Calls.mono (T1.o _ _ HD.o) ?_;rintro e w3 ⟨ps,rfl,ho,hg⟩;clear T1 HD;replace ho:=ho.less (show gd+1<=_ from ar.o);replace X:=I (X.o.grown hg (by intro e;injection e with e;have:=Y.o;omega));replace M:=I (Ak M.o hg M.o.size (by have:=Y.o;omega));have ao:=I (Ud ho);have HM:=I (show MpO w3 (gd+1) zA ps zR zP zF ⟨2,as0,(tgQ s0).1,re0,ap0,fa0⟩ from⟨zA_v,ho,zR_o _ _,zP_o _ _,zF_v⟩);have O:=I (HM.o.toV.size 2);have ai:=I (HM.o.toV.one 2);clear hg ho)
     |(refine Ay (by rfl) 61 #[(0,.const (.int .i64 2)),(2,.tmp 25)] (by rfl) (mgA 2 zA ps zR zP zF) (by simp only[List.map_toArray,List.map_cons,List.map_nil];exact ao.o) ?_)
     |(refine wpList_store_mid (by rfl) 61 (.tmp 2) (.tmp 26) (by rfl) w.heap.size 0 (mgA 2 zA ps zR zP zF) (by rfl) (by rfl) (Am X.o _ (by rw[O.o];have:=ah.o;omega)) (by rw[O.o];exact AT) ai.o ?_)
     |fail)
    have hE:=AI (ds:=mgA 2 zA ps zR zP zF) X.o (by rw[O.o];exact ah.o);have hp:=AK w3 w.heap.size (mgA 2 zA ps zR zP zF).toList;have hq:=Ao (P:=Tryz.prog) hE Tryz.underlying61 rfl (by rw[O.o];exact AT);refine bodyPost_ret (v:=.agg (mgA 2 zA ps zR zP zF)) ?_ ?_ ?_
    ·exact Al 2 61 ⟨w.heap.size,0,none⟩ Tryz.results55 rfl hq
    ·rfl
    refine⟨_,rfl,?_,Ak M.o hp (by have:=X.o.lt;omega) Af⟩;rw[EQ.o];exact⟨zA,ps,zR,zP,zF,rfl,(HM.o.keep hp (by have:=Y.o;omega)).less (by have:=Y.o;omega)⟩
   ·have d2:((t.toNat:Int)==108)=false:=by simp;intro e;exact m2 (UInt8.toNat_inj.1 (by rw[show(108:UInt8).toNat=108 from rfl];omega))
    by_cases m3:t=107
    ·have d3:((t.toNat:Int)==107)=true:=by rw[m3];rfl
     have EQ:=I (show mgQ (t :: r)=⟨3,as0,tg0,(reQ (Ax t (some (t :: r)))).1,ap0,fa0⟩ by subst m3;rfl);obtain⟨s0,ag⟩:∃s,s=Ax t (some (t :: r)):=⟨_,rfl⟩;rw[<-ag] at c1 ad EQ;have T1:=I (fun g w1 h=>Ua g s0 w1 h ad);clear ag ad au hs h af hu m1 m2 m3;go_enter Tryz.func55,Tryz.ntmps55
     go_upto_region 1 with fail
     rw[<-ae,<-eW];clear ae eW
     go_upto_region 3 with fail
     replace X:=I (show Blk W.drew _ _ _ from X.o.drewN 1);replace M:=I (show Below _ _ W.drew from below_drewN M.o 1)
     go_region_held3 (fun w'=>w'.cell? ⟨bb,oo,none⟩=some (.int .u8 (t.toNat:Int))) (exact ak.o _ M.o) ((first
      |(go_at_call 91;refine Calls.mono (c0.o _ M.o) ?_;rintro e wo ⟨go,rfl,al,ab,hb⟩;clear c0;have HC:=I ab;have Z:=I (show w.heap.size+1<=go by have:=aj.o;have:W.drew.heap.size=W.heap.size:=rfl;omega);replace X:=I (X.o.below hb);replace M:=M.t hb;have aa:=I (show w.heap.size+1<=wo.heap.size by have:=hb.size;have:=aj.o;have:W.drew.heap.size=W.heap.size:=rfl;omega);clear al ab hb)
      |(go_at_call 92;refine Calls.mono (c1.o _ _ HC.o) ?_;rintro e wi ⟨⟨gd,rfl,an,hd⟩,hc,hg⟩;clear c1 HC;have HD:=I hd;have Y:=I (show w.heap.size+1<=gd by have:=aa.o;omega);have ar:=I (Ds hd);replace X:=I (X.o.grown hg (by intro e;injection e with e;have:=Z.o;omega));replace M:=I (Ak M.o hg M.o.size (by have:=Z.o;omega));clear an hd hc hg aa Z)))
     have k9:=ak.o _ M.o
     go_wp2_with (first
      |(go_at_call 95;refine Calls.mono (T1.o _ _ HD.o) ?_;rintro e w3 ⟨ps,rfl,ho,hg⟩;clear T1 HD;replace ho:=ho.less (show gd+1<=_ from ar.o);replace X:=I (X.o.grown hg (by intro e;injection e with e;have:=Y.o;omega));replace M:=I (Ak M.o hg M.o.size (by have:=Y.o;omega));have ao:=I (Ue ho);have HM:=I (show MpO w3 (gd+1) zA zT ps zP zF ⟨3,as0,tg0,(reQ s0).1,ap0,fa0⟩ from⟨zA_v,zT_o _ _,ho,zP_o _ _,zF_v⟩);have O:=I (HM.o.toV.size 3);have ai:=I (HM.o.toV.one 3);clear hg ho)
      |(refine Ay (by rfl) 61 #[(0,.const (.int .i64 3)),(3,.tmp 30)] (by rfl) (mgA 3 zA zT ps zP zF) (by simp only[List.map_toArray,List.map_cons,List.map_nil];exact ao.o) ?_)
      |(refine wpList_store_mid (by rfl) 61 (.tmp 2) (.tmp 31) (by rfl) w.heap.size 0 (mgA 3 zA zT ps zP zF) (by rfl) (by rfl) (Am X.o _ (by rw[O.o];have:=ah.o;omega)) (by rw[O.o];exact AT) ai.o ?_)
      |fail)
     have hE:=AI (ds:=mgA 3 zA zT ps zP zF) X.o (by rw[O.o];exact ah.o);have hp:=AK w3 w.heap.size (mgA 3 zA zT ps zP zF).toList;have hq:=Ao (P:=Tryz.prog) hE Tryz.underlying61 rfl (by rw[O.o];exact AT);refine bodyPost_ret (v:=.agg (mgA 3 zA zT ps zP zF)) ?_ ?_ ?_
     ·exact Al 2 61 ⟨w.heap.size,0,none⟩ Tryz.results55 rfl hq
     ·rfl
     refine⟨_,rfl,?_,Ak M.o hp (by have:=X.o.lt;omega) Af⟩;rw[EQ.o];exact⟨zA,zT,ps,zP,zF,rfl,(HM.o.keep hp (by have:=Y.o;omega)).less (by have:=Y.o;omega)⟩
    ·have d3:((t.toNat:Int)==107)=false:=by simp;intro e;exact m3 (UInt8.toNat_inj.1 (by rw[show(107:UInt8).toNat=107 from rfl];omega))
     by_cases m4:t=110
     ·have d4:((t.toNat:Int)==110)=true:=by rw[m4];rfl
      have EQ:=I (show mgQ (t :: r)=⟨4,as0,tg0,re0,(apQ (Ax t (some (t :: r)))).1,fa0⟩ by subst m4;rfl);obtain⟨s0,ag⟩:∃s,s=Ax t (some (t :: r)):=⟨_,rfl⟩;rw[<-ag] at c1 ad EQ;have T1:=I (fun g w1 h=>Ub g s0 w1 h ad);clear ag ad au hs h af hu m1 m2 m3 m4;go_enter Tryz.func55,Tryz.ntmps55
      go_upto_region 1 with fail
      rw[<-ae,<-eW];clear ae eW
      go_upto_region 3 with fail
      replace X:=I (show Blk W.drew _ _ _ from X.o.drewN 1);replace M:=I (show Below _ _ W.drew from below_drewN M.o 1)
      go_region_held3 (fun w'=>w'.cell? ⟨bb,oo,none⟩=some (.int .u8 (t.toNat:Int))) (exact ak.o _ M.o) ((first
       |(go_at_call 91;refine Calls.mono (c0.o _ M.o) ?_;rintro e wo ⟨go,rfl,al,ab,hb⟩;clear c0;have HC:=I ab;have Z:=I (show w.heap.size+1<=go by have:=aj.o;have:W.drew.heap.size=W.heap.size:=rfl;omega);replace X:=I (X.o.below hb);replace M:=M.t hb;have aa:=I (show w.heap.size+1<=wo.heap.size by have:=hb.size;have:=aj.o;have:W.drew.heap.size=W.heap.size:=rfl;omega);clear al ab hb)
       |(go_at_call 92;refine Calls.mono (c1.o _ _ HC.o) ?_;rintro e wi ⟨⟨gd,rfl,an,hd⟩,hc,hg⟩;clear c1 HC;have HD:=I hd;have Y:=I (show w.heap.size+1<=gd by have:=aa.o;omega);have ar:=I (Ds hd);replace X:=I (X.o.grown hg (by intro e;injection e with e;have:=Z.o;omega));replace M:=I (Ak M.o hg M.o.size (by have:=Z.o;omega));clear an hd hc hg aa Z)))
      have k9:=ak.o _ M.o
      go_wp2_with (first
       |(go_at_call 96;refine Calls.mono (T1.o _ _ HD.o) ?_;rintro e w3 ⟨ps,rfl,ho,hg⟩;clear T1 HD;replace ho:=ho.less (show gd+1<=_ from ar.o);replace X:=I (X.o.grown hg (by intro e;injection e with e;have:=Y.o;omega));replace M:=I (Ak M.o hg M.o.size (by have:=Y.o;omega));have ao:=I (Uf ho);have HM:=I (show MpO w3 (gd+1) zA zT zR ps zF ⟨4,as0,tg0,re0,(apQ s0).1,fa0⟩ from⟨zA_v,zT_o _ _,zR_o _ _,ho,zF_v⟩);have O:=I (HM.o.toV.size 4);have ai:=I (HM.o.toV.one 4);clear hg ho)
       |(refine Ay (by rfl) 61 #[(0,.const (.int .i64 4)),(4,.tmp 35)] (by rfl) (mgA 4 zA zT zR ps zF) (by simp only[List.map_toArray,List.map_cons,List.map_nil];exact ao.o) ?_)
       |(refine wpList_store_mid (by rfl) 61 (.tmp 2) (.tmp 36) (by rfl) w.heap.size 0 (mgA 4 zA zT zR ps zF) (by rfl) (by rfl) (Am X.o _ (by rw[O.o];have:=ah.o;omega)) (by rw[O.o];exact AT) ai.o ?_)
       |fail)
      have hE:=AI (ds:=mgA 4 zA zT zR ps zF) X.o (by rw[O.o];exact ah.o);have hp:=AK w3 w.heap.size (mgA 4 zA zT zR ps zF).toList;have hq:=Ao (P:=Tryz.prog) hE Tryz.underlying61 rfl (by rw[O.o];exact AT);refine bodyPost_ret (v:=.agg (mgA 4 zA zT zR ps zF)) ?_ ?_ ?_
      ·exact Al 2 61 ⟨w.heap.size,0,none⟩ Tryz.results55 rfl hq
      ·rfl
      refine⟨_,rfl,?_,Ak M.o hp (by have:=X.o.lt;omega) Af⟩;rw[EQ.o];exact⟨zA,zT,zR,ps,zF,rfl,(HM.o.keep hp (by have:=Y.o;omega)).less (by have:=Y.o;omega)⟩
     ·have d4:((t.toNat:Int)==110)=false:=by simp;intro e;exact m4 (UInt8.toNat_inj.1 (by rw[show(110:UInt8).toNat=110 from rfl];omega))
      by_cases m5:t=126
      ·have d5:((t.toNat:Int)==126)=true:=by rw[m5];rfl
       have EQ:=I (show mgQ (t :: r)=⟨5,as0,tg0,re0,ap0,(faQ (Ax t (some (t :: r)))).1⟩ by subst m5;rfl);obtain⟨s0,ag⟩:∃s,s=Ax t (some (t :: r)):=⟨_,rfl⟩;rw[<-ag] at c1 ad EQ;have T1:=I (fun g w1 h=>Uc g s0 w1 h ad);clear ag ad au hs h af hu m1 m2 m3 m4 m5;go_enter Tryz.func55,Tryz.ntmps55
       go_upto_region 1 with fail
       rw[<-ae,<-eW];clear ae eW
       go_upto_region 3 with fail
       replace X:=I (show Blk W.drew _ _ _ from X.o.drewN 1);replace M:=I (show Below _ _ W.drew from below_drewN M.o 1)
       go_region_held3 (fun w'=>w'.cell? ⟨bb,oo,none⟩=some (.int .u8 (t.toNat:Int))) (exact ak.o _ M.o) ((first
        |(go_at_call 91;refine Calls.mono (c0.o _ M.o) ?_;rintro e wo ⟨go,rfl,al,ab,hb⟩;clear c0;have HC:=I ab;have Z:=I (show w.heap.size+1<=go by have:=aj.o;have:W.drew.heap.size=W.heap.size:=rfl;omega);replace X:=I (X.o.below hb);replace M:=M.t hb;have aa:=I (show w.heap.size+1<=wo.heap.size by have:=hb.size;have:=aj.o;have:W.drew.heap.size=W.heap.size:=rfl;omega);clear al ab hb)
        |(go_at_call 92;refine Calls.mono (c1.o _ _ HC.o) ?_;rintro e wi ⟨⟨gd,rfl,an,hd⟩,hc,hg⟩;clear c1 HC;have HD:=I hd;have Y:=I (show w.heap.size+1<=gd by have:=aa.o;omega);have ar:=I (Ds hd);replace X:=I (X.o.grown hg (by intro e;injection e with e;have:=Z.o;omega));replace M:=I (Ak M.o hg M.o.size (by have:=Z.o;omega));clear an hd hc hg aa Z)))
       have k9:=ak.o _ M.o
       go_wp2_with (first
        |(go_at_call 97;refine Calls.mono (T1.o _ _ HD.o) ?_;rintro e w3 ⟨ps,rfl,ho,hg⟩;clear T1 HD;replace X:=I (X.o.grown hg (by intro e;injection e with e;have:=Y.o;omega));replace M:=I (Ak M.o hg M.o.size (by have:=Y.o;omega));have ao:=I (Ug ho);have HM:=I (show MpO w3 (gd+1) zA zT zR zP ps ⟨5,as0,tg0,re0,ap0,(faQ s0).1⟩ from⟨zA_v,zT_o _ _,zR_o _ _,zP_o _ _,ho⟩);have O:=I (HM.o.toV.size 5);have ai:=I (HM.o.toV.one 5);clear hg ho)
        |(refine Ay (by rfl) 61 #[(0,.const (.int .i64 5)),(5,.tmp 40)] (by rfl) (mgA 5 zA zT zR zP ps) (by simp only[List.map_toArray,List.map_cons,List.map_nil];exact ao.o) ?_)
        |(refine wpList_store_mid (by rfl) 61 (.tmp 2) (.tmp 41) (by rfl) w.heap.size 0 (mgA 5 zA zT zR zP ps) (by rfl) (by rfl) (Am X.o _ (by rw[O.o];have:=ah.o;omega)) (by rw[O.o];exact AT) ai.o ?_)
        |fail)
       have hE:=AI (ds:=mgA 5 zA zT zR zP ps) X.o (by rw[O.o];exact ah.o);have hp:=AK w3 w.heap.size (mgA 5 zA zT zR zP ps).toList;have hq:=Ao (P:=Tryz.prog) hE Tryz.underlying61 rfl (by rw[O.o];exact AT);refine bodyPost_ret (v:=.agg (mgA 5 zA zT zR zP ps)) ?_ ?_ ?_
       ·exact Al 2 61 ⟨w.heap.size,0,none⟩ Tryz.results55 rfl hq
       ·rfl
       refine⟨_,rfl,?_,Ak M.o hp (by have:=X.o.lt;omega) Af⟩;rw[EQ.o];exact⟨zA,zT,zR,zP,ps,rfl,(HM.o.keep hp (by have:=Y.o;omega)).less (by have:=Y.o;omega)⟩
      ·have d5:((t.toNat:Int)==126)=false:=by simp;intro e;exact m5 (UInt8.toNat_inj.1 (by rw[show(126:UInt8).toNat=126 from rfl];omega))
       have EQ:=I (show mgQ (t :: r)=⟨0,as0,tg0,re0,ap0,fa0⟩ by simp only[mgQ,if_neg m1,if_neg m2,if_neg m3,if_neg m4,if_neg m5];rfl);have O:=I ((zM_v w 0 0).size 0);have ai:=I ((zM_v w 0 0).one 0);clear m1 m2 m3 m4 m5 ad au hs h af hu;go_enter Tryz.func55,Tryz.ntmps55
       go_upto_region 1 with fail
       rw[<-ae,<-eW];clear ae eW
       go_upto_region 3 with fail
       replace X:=I (show Blk W.drew _ _ _ from X.o.drewN 1);replace M:=I (show Below _ _ W.drew from below_drewN M.o 1)
       go_region_held3 (fun w'=>w'.cell? ⟨bb,oo,none⟩=some (.int .u8 (t.toNat:Int))) (exact ak.o _ M.o) ((first
        |(go_at_call 91;refine Calls.mono (c0.o _ M.o) ?_;rintro e wo ⟨go,rfl,al,ab,hb⟩;clear c0;have HC:=I ab;have Z:=I (show w.heap.size+1<=go by have:=aj.o;have:W.drew.heap.size=W.heap.size:=rfl;omega);replace X:=I (X.o.below hb);replace M:=M.t hb;have aa:=I (show w.heap.size+1<=wo.heap.size by have:=hb.size;have:=aj.o;have:W.drew.heap.size=W.heap.size:=rfl;omega);clear al ab hb)
        |(go_at_call 92;refine Calls.mono (c1.o _ _ HC.o) ?_;rintro e wi ⟨⟨gd,rfl,an,hd⟩,hc,hg⟩;clear c1 HC;have HD:=I hd;have Y:=I (show w.heap.size+1<=gd by have:=aa.o;omega);have ar:=I (Ds hd);replace X:=I (X.o.grown hg (by intro e;injection e with e;have:=Z.o;omega));replace M:=I (Ak M.o hg M.o.size (by have:=Z.o;omega));clear an hd hc hg aa Z)))
       have k9:=ak.o _ M.o
       go_wp2_with (first
        |(refine Ay (by rfl) 61 #[] (by rfl) (mgA 0 zA zT zR zP zF) FY ?_)
        |(refine wpList_store_mid (by rfl) 61 (.tmp 2) (.tmp 42) (by rfl) w.heap.size 0 (mgA 0 zA zT zR zP zF) (by rfl) (by rfl) (Am X.o _ (by rw[O.o];have:=ah.o;omega)) (by rw[O.o];exact AT) ai.o ?_)
        |fail)
       have hE:=AI (ds:=mgA 0 zA zT zR zP zF) X.o (by rw[O.o];exact ah.o);have hp:=AK wi w.heap.size (mgA 0 zA zT zR zP zF).toList;have hq:=Ao (P:=Tryz.prog) hE Tryz.underlying61 rfl (by rw[O.o];exact AT);refine bodyPost_ret (v:=.agg (mgA 0 zA zT zR zP zF)) ?_ ?_ ?_
       ·exact Al 2 61 ⟨w.heap.size,0,none⟩ Tryz.results55 rfl hq
       ·rfl
       refine⟨_,rfl,?_,Ak M.o hp (by have:=X.o.lt;omega) Af⟩;rw[EQ.o];exact⟨zA,zT,zR,zP,zF,rfl,⟨zA_v,zT_o _ _,zR_o _ _,zP_o _ _,zF_v⟩⟩
def mgG (b:L):Mg:=(mgD b).getD mg0
def mgI (b:L):Int:=if (mgD b).isSome then 0 else 2
theorem BT:pSm pr0:=⟨by decide,by decide⟩
theorem Va {b:L} (X:b.length<=100000):mSm (mgQ b):=by
 have z:=BT;have O:mSm ⟨0,as0,tg0,re0,ap0,fa0⟩:=⟨⟨z,z⟩,⟨z,z⟩,⟨z,z⟩,z⟩;cases b with
 |nil=>exact O
 |cons t r=>
  have M:∀u,((Ax u (some (t :: r))).getD []).length<=100000:=fun u=>EJ u (show((some (t :: r):Option L).getD []).length<=100000 from X)
  simp only[mgQ]
  split
  ·exact⟨⟨GQ (M _),GQ (Co 48 (M _))⟩,⟨z,z⟩,⟨z,z⟩,z⟩
  ·split
   ·exact⟨⟨z,z⟩,⟨GQ (EJ 97 (M _)),GQ (Co 4 (Co 97 (M _)))⟩,⟨z,z⟩,z⟩
   ·split
    ·exact⟨⟨z,z⟩,⟨z,z⟩,⟨GQ (M _),GQ (EJ 97 (Co 48 (M _)))⟩,z⟩
    ·split
     ·exact⟨⟨z,z⟩,⟨z,z⟩,⟨z,z⟩,GQ (EJ 97 (M _))⟩
     ·split
      ·exact⟨⟨z,z⟩,⟨z,z⟩,⟨z,z⟩,z⟩
      ·exact O
theorem zz_o (w:World) (B:Nat):MgO w B (mgA 0 zA zT zR zP zF) mg0:=⟨_,_,_,_,_,rfl,zM_o w B 0⟩
theorem RI (A:Option Addr) (b:L) (c:Nat) (w:World) (hr:Rd w w.heap.size A (bvs b)):Calls Tryz.prog 54 #[.slice A b.length c,.func (.func 55) #[] #[],.func (.func 56) #[] #[]] w fun e w'=>∃ds,e=.returned (.tuple #[.agg ds,.int .i64 (mgI b)])/\MgO w' w.heap.size ds (mgG b)/\Below w.heap.size w w':=by
 obtain⟨X,af⟩:∃z:Array Value,z=#[.int .i64 0,.string ⟨#[]⟩,.string ⟨#[]⟩,.string ⟨#[]⟩,.string ⟨#[]⟩,.int .i64 0,.int .i64 0,.string ⟨#[]⟩,.string ⟨#[]⟩,.int .i64 0,.slice none 0 0,.slice none 0 0,.string ⟨#[]⟩,.string ⟨#[]⟩,.int .i64 0,.int .i64 0,.string ⟨#[]⟩,.string ⟨#[]⟩,.string ⟨#[]⟩,.string ⟨#[]⟩,.int .i64 0,.slice none 0 0,.slice none 0 0,.string ⟨#[]⟩,.string ⟨#[]⟩,.int .i64 0,.slice none 0 0,.slice none 0 0,.int .i64 0,.int .i64 0]:=⟨_,rfl⟩;have av:X=mgA 0 zA zT zR zP zF:=by rw[af];rfl
 have hz:∀(w1:World) (B:Nat),MgO w1 B X mg0:=fun w1 B=>by rw[av];exact zz_o w1 B
 have au:X.size=30:=(hz w 0).size;obtain⟨W,eW⟩:=Aj ((w.alloc (.cells X 61)).alloc (.cells X 61));have aw:W.heap.size=w.heap.size+1+1:=by rw[eW];simp
 have hq:=Blk.new (w.alloc (.cells X 61)) 61 X;rw[show(w.alloc (.cells X 61)).heap.size=w.heap.size+1 by simp,<-eW] at hq;have HZ:=I hq;clear hq;have O:=I (show Blk W w.heap.size 61 X by rw[eW];exact(Blk.new _ _ _).alloc _);have Y:=I (show Below w.heap.size w W by rw[eW];exact(Ag.alloc Af _).alloc (by simp) _);have ai:=I (fun w1 (h:Below w.heap.size w w1)=>(hr.below h).more h.size);have ae:=I (show(Tryz.prog.info? 61).map (·.size)=some X.size by rw[au];exact AT);have an:=I (show X.all (·.oneCell')=true from(hz w 0).one);have ax:=I au;have aj:=I hz;have ED:=I (Rr b);have ay:=I aw;clear aw au av hz
 by_cases hl:b.length<=2000
 ·have t1:decide ((2000:Int)<(b.length:Int))=false:=decide_eq_false (by omega)
  have ak:b.length<=100000:=by omega
  have ab:=Va ak;have T1:=I (fun w1 (h:Rd w1 w1.heap.size A (bvs b))=>My A b c w1 h ak);have EN:=I (fun w1 cs (h:MgV w1 w1.heap.size cs (mgQ b))=>RH cs (mgQ b) w1 h ab);have BE:=I (fun(l:L) (g c2:Nat) (w1:World) (h:Rd w1 w1.heap.size (some ⟨g,0,none⟩) (bvs l)) (M:Below w.heap.size w w1)=>Hm l b (some ⟨g,0,none⟩) A c2 c w1.heap.size w1 h (ai.o w1 M));clear hl ak hr ab;cases ho:mgO (mgQ b) with
  |none=>
   rw[ho] at EN;have hD:mgD b=none:=by rw[ED.o,ho];rfl
   have GE:=I (show mgG b=mg0 by rw[mgG,hD];rfl);have IE:=I (show mgI b=2 by rw[mgI,hD];rfl);clear ED ho hD BE;go_enter Tryz.func54,Tryz.ntmps54
   go_upto_region 2 with fail
   rw[<-af,<-eW];clear af eW
   go_wp2_with (first
    |(refine Ad (by rfl) 61 (.tmp 8) (by rfl) (w.heap.size+1) 0 (by rfl) X _ (Ac HZ.o) Tryz.underlying61 (by rfl) ae.o ?_)
    |(refine wpList_store_mid (by rfl) 61 (.tmp 6) (.tmp 33) (by rfl) w.heap.size 0 X (by rfl) (by rfl) (Am O.o _ Af) ae.o an.o ?_)
    |(go_at_call 55;refine Calls.mono (T1.o _ (ai.o _ Y.o)) ?_;rintro e w4 ⟨cs,rfl,hv,M⟩;clear T1;have HV:=I (hv.less (show w.heap.size+1<=_ by have:=O.o.lt;omega));have ad:=I (show(Tryz.prog.info? 61).map (·.size)=some cs.size by rw[hv.size];exact AT);have ag:=I (show cs.all (·.oneCell')=true from hv.one);have aa:=I hv.size;clear hv;replace HZ:=I (HZ.o.below M);replace O:=I (O.o.below M);replace Y:=Y.t M;clear M)
    |(refine wpList_store_mid (by rfl) 61 (.tmp 9) (.tmp 18) (by rfl) w4.heap.size 0 cs (by rfl) (by rfl) (Am (Blk.new w4 61 Av) _ (by have:=aa.o;simp;omega)) ad.o ag.o ?_;have Z:=Bq w4 61 Av cs (by have:=aa.o;simp;omega);generalize ((w4.alloc (.cells Av 61)).setCells w4.heap.size 0 cs.toList)=V at Z⊢;have HX:=I Z.1;replace HV:=I (HV.o.below Z.2);replace HZ:=I (HZ.o.below Z.2);replace O:=I (O.o.below Z.2);replace Y:=I (Y.o.trans (Z.2.mono Y.o.size));clear Z)
    |(refine Ad (by rfl) 61 (.tmp 9) (by rfl) w4.heap.size 0 (by rfl) cs _ (Ac HX.o) Tryz.underlying61 (by rfl) ad.o ?_)
    |(go_at_call 56;refine Calls.mono (EN.o _ _ HV.o.toV) ?_;rintro e we ⟨⟨v,i,rfl,hn,ab⟩,M⟩;obtain⟨rfl,rfl⟩:=hn rfl;clear EN;replace HV:=I (HV.o.below M);replace HX:=I (HX.o.below M);replace HZ:=I (HZ.o.below M);replace O:=I (O.o.below M);replace Y:=Y.t M;clear M hn ab)
    |fail)
   have hE:=AI (ds:=X) O.o (by rfl);have hp:=AK we w.heap.size X.toList;have hq:=Ao (P:=Tryz.prog) hE Tryz.underlying61 rfl ae.o;refine bodyPost_ret (v:=.tuple #[.agg X,.int .i64 2]) ?_ ?_ ?_
   ·exact AD (v:=.agg X) 6 7 61 ⟨w.heap.size,0,none⟩ Tryz.results54 rfl hq rfl
   ·rfl
   refine⟨_,by rw[IE.o],?_,Ak Y.o hp (by have:=O.o.lt;omega) Af⟩;rw[GE.o];exact aj.o _ _
  |some l=>
   rw[ho] at EN
   by_cases hlb:l=b
   ·have BF:=I (decide_eq_true hlb)
    have hD:mgD b=some (mgQ b):=by rw[ED.o,ho,if_pos (by rw[hlb])]
    have GE:=I (show mgG b=mgQ b by rw[mgG,hD];rfl);have IE:=I (show mgI b=0 by rw[mgI,hD];rfl);clear ED ho hlb hD;go_enter Tryz.func54,Tryz.ntmps54
    go_upto_region 2 with fail
    rw[<-af,<-eW];clear af eW
    go_wp2_with (first
     |(refine Ad (by rfl) 61 (.tmp 8) (by rfl) (w.heap.size+1) 0 (by rfl) X _ (Ac HZ.o) Tryz.underlying61 (by rfl) ae.o ?_)
     |(refine wpList_store_mid (by rfl) 61 (.tmp 6) (.tmp 34) (by rfl) w.heap.size 0 cs (by rfl) (by rfl) (Am O.o _ (by have:=ax.o;have:=aa.o;omega)) ad.o ag.o ?_)
     |(go_at_call 55;refine Calls.mono (T1.o _ (ai.o _ Y.o)) ?_;rintro e w4 ⟨cs,rfl,hv,M⟩;clear T1;have HV:=I (hv.less (show w.heap.size+1<=_ by have:=O.o.lt;omega));have ad:=I (show(Tryz.prog.info? 61).map (·.size)=some cs.size by rw[hv.size];exact AT);have ag:=I (show cs.all (·.oneCell')=true from hv.one);have aa:=I hv.size;clear hv;replace HZ:=I (HZ.o.below M);replace O:=I (O.o.below M);replace Y:=Y.t M;clear M)
     |(refine wpList_store_mid (by rfl) 61 (.tmp 9) (.tmp 18) (by rfl) w4.heap.size 0 cs (by rfl) (by rfl) (Am (Blk.new w4 61 Av) _ (by have:=aa.o;simp;omega)) ad.o ag.o ?_;have Z:=Bq w4 61 Av cs (by have:=aa.o;simp;omega);generalize ((w4.alloc (.cells Av 61)).setCells w4.heap.size 0 cs.toList)=V at Z⊢;have HX:=I Z.1;replace HV:=I (HV.o.below Z.2);replace HZ:=I (HZ.o.below Z.2);replace O:=I (O.o.below Z.2);replace Y:=I (Y.o.trans (Z.2.mono Y.o.size));clear Z)
     |(refine Ad (by rfl) 61 (.tmp 9) (by rfl) w4.heap.size 0 (by rfl) cs _ (Ac HX.o) Tryz.underlying61 (by rfl) ad.o ?_)
     |(go_at_call 56;refine Calls.mono (EN.o _ _ HV.o.toV) ?_;rintro e we ⟨⟨v,i,rfl,hn,ab⟩,M⟩;obtain⟨rfl,gx,cx,rfl,al,ar,ah⟩:=ab l rfl;have ao:=I ah;clear al ar ah;clear EN;replace HV:=I (HV.o.below M);replace HX:=I (HX.o.below M);replace HZ:=I (HZ.o.below M);replace O:=I (O.o.below M);replace Y:=Y.t M;clear M hn ab)
     |(go_at_call 90;refine Calls.mono (BE.o l gx cx _ ao.o Y.o) ?_;rw[BF.o];rintro e wb ⟨rfl,hw⟩;subst hw;clear BE)
     |fail)
    have hE:=AI (ds:=cs) O.o (by have:=ax.o;have:=aa.o;omega);have hp:=AK we w.heap.size cs.toList;have hq:=Ao (P:=Tryz.prog) hE Tryz.underlying61 rfl ad.o;refine bodyPost_ret (v:=.tuple #[.agg cs,.int .i64 0]) ?_ ?_ ?_
    ·exact AD (v:=.agg cs) 6 7 61 ⟨w.heap.size,0,none⟩ Tryz.results54 rfl hq rfl
    ·rfl
    refine⟨_,by rw[IE.o],?_,Ak Y.o hp (by have:=O.o.lt;omega) Af⟩;rw[GE.o];exact(HV.o.keep hp (by omega)).less (by omega)
   ·have BF:=I (decide_eq_false hlb)
    have hD:mgD b=none:=by rw[ED.o,ho,if_neg (fun h=>hlb (Option.some.inj h))]
    have GE:=I (show mgG b=mg0 by rw[mgG,hD];rfl);have IE:=I (show mgI b=2 by rw[mgI,hD];rfl);clear ED ho hlb hD;go_enter Tryz.func54,Tryz.ntmps54
    go_upto_region 2 with fail
    rw[<-af,<-eW];clear af eW
    go_wp2_with (first
     |(refine Ad (by rfl) 61 (.tmp 8) (by rfl) (w.heap.size+1) 0 (by rfl) X _ (Ac HZ.o) Tryz.underlying61 (by rfl) ae.o ?_)
     |(refine wpList_store_mid (by rfl) 61 (.tmp 6) (.tmp 33) (by rfl) w.heap.size 0 X (by rfl) (by rfl) (Am O.o _ Af) ae.o an.o ?_)
     |(go_at_call 55;refine Calls.mono (T1.o _ (ai.o _ Y.o)) ?_;rintro e w4 ⟨cs,rfl,hv,M⟩;clear T1;have HV:=I (hv.less (show w.heap.size+1<=_ by have:=O.o.lt;omega));have ad:=I (show(Tryz.prog.info? 61).map (·.size)=some cs.size by rw[hv.size];exact AT);have ag:=I (show cs.all (·.oneCell')=true from hv.one);have aa:=I hv.size;clear hv;replace HZ:=I (HZ.o.below M);replace O:=I (O.o.below M);replace Y:=Y.t M;clear M)
     |(refine wpList_store_mid (by rfl) 61 (.tmp 9) (.tmp 18) (by rfl) w4.heap.size 0 cs (by rfl) (by rfl) (Am (Blk.new w4 61 Av) _ (by have:=aa.o;simp;omega)) ad.o ag.o ?_;have Z:=Bq w4 61 Av cs (by have:=aa.o;simp;omega);generalize ((w4.alloc (.cells Av 61)).setCells w4.heap.size 0 cs.toList)=V at Z⊢;have HX:=I Z.1;replace HV:=I (HV.o.below Z.2);replace HZ:=I (HZ.o.below Z.2);replace O:=I (O.o.below Z.2);replace Y:=I (Y.o.trans (Z.2.mono Y.o.size));clear Z)
     |(refine Ad (by rfl) 61 (.tmp 9) (by rfl) w4.heap.size 0 (by rfl) cs _ (Ac HX.o) Tryz.underlying61 (by rfl) ad.o ?_)
     |(go_at_call 56;refine Calls.mono (EN.o _ _ HV.o.toV) ?_;rintro e we ⟨⟨v,i,rfl,hn,ab⟩,M⟩;obtain⟨rfl,gx,cx,rfl,al,ar,ah⟩:=ab l rfl;have ao:=I ah;clear al ar ah;clear EN;replace HV:=I (HV.o.below M);replace HX:=I (HX.o.below M);replace HZ:=I (HZ.o.below M);replace O:=I (O.o.below M);replace Y:=Y.t M;clear M hn ab)
     |(go_at_call 90;refine Calls.mono (BE.o l gx cx _ ao.o Y.o) ?_;rw[BF.o];rintro e wb ⟨rfl,hw⟩;subst hw;clear BE)
     |fail)
    have hE:=AI (ds:=X) O.o (by rfl);have hp:=AK we w.heap.size X.toList;have hq:=Ao (P:=Tryz.prog) hE Tryz.underlying61 rfl ae.o;refine bodyPost_ret (v:=.tuple #[.agg X,.int .i64 2]) ?_ ?_ ?_
    ·exact AD (v:=.agg X) 6 7 61 ⟨w.heap.size,0,none⟩ Tryz.results54 rfl hq rfl
    ·rfl
    refine⟨_,by rw[IE.o],?_,Ak Y.o hp (by have:=O.o.lt;omega) Af⟩;rw[GE.o];exact aj.o _ _
 ·have t1:decide ((2000:Int)<(b.length:Int))=true:=decide_eq_true (by omega)
  have hD:mgD b=none:=by
   rw[ED.o,if_neg];intro h;have h2:=Br.1 h;exact hl (by rw[<-h2.2.2];exact h2.2.1)
  have GE:=I (show mgG b=mg0 by rw[mgG,hD];rfl);have IE:=I (show mgI b=2 by rw[mgI,hD];rfl);clear ED hD hl hr ai;go_enter Tryz.func54,Tryz.ntmps54
  go_upto_region 2 with fail
  rw[<-af,<-eW];clear af eW
  go_wp2_with (first
   |(refine Ad (by rfl) 61 (.tmp 8) (by rfl) (w.heap.size+1) 0 (by rfl) X _ (Ac HZ.o) Tryz.underlying61 (by rfl) ae.o ?_)
   |(refine wpList_store_mid (by rfl) 61 (.tmp 6) (.tmp 15) (by rfl) w.heap.size 0 X (by rfl) (by rfl) (Am O.o _ Af) ae.o an.o ?_)
   |fail)
  have hE:=AI (ds:=X) O.o (by rfl);have hp:=AK W w.heap.size X.toList;have hq:=Ao (P:=Tryz.prog) hE Tryz.underlying61 rfl ae.o;refine bodyPost_ret (v:=.tuple #[.agg X,.int .i64 2]) ?_ ?_ ?_
  ·exact AD (v:=.agg X) 6 7 61 ⟨w.heap.size,0,none⟩ Tryz.results54 rfl hq rfl
  ·rfl
  refine⟨_,by rw[IE.o],?_,Ak Y.o hp (by have:=O.o.lt;omega) Af⟩;rw[GE.o];exact aj.o _ _
theorem Wz (A:Option Addr) (b:L) (c:Nat) (w:World) (hr:Rd w w.heap.size A (bvs b)):Calls Tryz.prog 24 #[.slice A b.length c] w fun e w'=>∃ds,e=.returned (.tuple #[.agg ds,.int .i64 (mgI b)])/\MgO w' w.heap.size ds (mgG b)/\Below w.heap.size w w':=by
 obtain⟨Y,M⟩:∃z:Array Value,z=#[.int .i64 0,.string ⟨#[]⟩,.string ⟨#[]⟩,.string ⟨#[]⟩,.string ⟨#[]⟩,.int .i64 0,.int .i64 0,.string ⟨#[]⟩,.string ⟨#[]⟩,.int .i64 0,.slice none 0 0,.slice none 0 0,.string ⟨#[]⟩,.string ⟨#[]⟩,.int .i64 0,.int .i64 0,.string ⟨#[]⟩,.string ⟨#[]⟩,.string ⟨#[]⟩,.string ⟨#[]⟩,.int .i64 0,.slice none 0 0,.slice none 0 0,.string ⟨#[]⟩,.string ⟨#[]⟩,.int .i64 0,.slice none 0 0,.slice none 0 0,.int .i64 0,.int .i64 0]:=⟨_,rfl⟩;have Z:=I (show Y.size=30 by rw[M];simp);have c1:=RI A b c (w.alloc (.cells Y 61)) ((hr.alloc Af _).more (by simp));have X:=I (Blk.new w 61 Y);have HG:=I ((Below.refl w.heap.size w).alloc Af (.cells Y 61));have aa:=I (show(w.alloc (.cells Y 61)).heap.size=w.heap.size+1 by simp);clear hr;go_enter Tryz.func24,Tryz.ntmps24
 go_upto_region 1 with fail
 rw[<-M];clear M
 go_wp2_with (first
  |(go_at_call 54;refine Calls.mono c1 ?_;rintro e w1 ⟨cs,rfl,hv,hb⟩;clear c1;have HV:=I (hv.less (show w.heap.size+1<=_ by have:=aa.o;omega));have HI:=I (show(Tryz.prog.info? 61).map (·.size)=some cs.size by rw[hv.size];exact AT);have HO:=I (show cs.all (·.oneCell')=true from hv.one);have O:=I hv.size;clear hv;replace X:=I (X.o.below hb);replace HG:=HG.t hb;clear hb)
  |(refine wpList_store_mid (by rfl) 61 (.tmp 2) (.tmp 6) (by rfl) w.heap.size 0 cs (by rfl) (by rfl) (Am X.o _ (by have:=Z.o;have:=O.o;omega)) HI.o HO.o ?_)
  |fail)
 have hE:=AI (ds:=cs) X.o (by have:=Z.o;have:=O.o;omega);have hp:=AK w1 w.heap.size cs.toList;have hq:=Ao (P:=Tryz.prog) hE Tryz.underlying61 rfl HI.o;refine bodyPost_ret (v:=.tuple #[.agg cs,.int .i64 (mgI b)]) ?_ ?_ ?_
 ·exact AD (v:=.agg cs) 2 3 61 ⟨w.heap.size,0,none⟩ Tryz.results24 rfl hq rfl
 ·rfl
 exact⟨_,rfl,(HV.o.keep hp (by omega)).less (by omega),Ak HG.o hp (by have:=X.o.lt;omega) Af⟩
end Mc
end Go.Proofs.YtlccngianpfalaaGreat
