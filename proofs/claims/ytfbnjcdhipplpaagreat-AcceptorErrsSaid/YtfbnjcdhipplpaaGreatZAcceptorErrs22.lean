import Derived.Test.YtfbnjcdhipplpaaGreatZAcceptorErrs21
set_option maxHeartbeats 25600000
set_option maxRecDepth 100000
set_option linter.unusedVariables false
set_option linter.unusedSimpArgs false
namespace Go.Proofs.YtfbnjcdhipplpaaGreat
namespace Mc
open Go.RowKit Af DerP DerC DerR Ms
theorem dA {pa:Array Value} {x:As} (w:World) (h:AsV pa x) (s:pSm x.c/\pSm x.s):Calls Tryz.prog 214 #[.agg pa] w fun e w'=>e=.returned (.bool (asB x))/\Below w.heap.size w w':=by rw[h];exact WV x w s.1 s.2
theorem dB {pa:Array Value} {x:Tg} {w0:World} {B:Nat} (w:World) (h:TgV w0 B pa x) (s:pSm x.t.s/\pSm x.s):Calls Tryz.prog 215 #[.agg pa] w fun e w'=>e=.returned (.bool (tgB x))/\Below w.heap.size w w':=by
 obtain⟨b,a,rfl,⟨A1,c1,rfl,_,O⟩,⟨A2,c2,rfl,_,M⟩⟩:=h;exact Ut x A1 A2 c1 c2 w s.1 s.2
theorem dC {pa:Array Value} {x:Re} {w0:World} {B:Nat} (w:World) (h:ReV w0 B pa x) (s:pSm x.c/\pSm x.t.s):Calls Tryz.prog 216 #[.agg pa] w fun e w'=>e=.returned (.bool (reB x))/\Below w.heap.size w w':=by
 obtain⟨b,a,rfl,⟨A1,c1,rfl,_,O⟩,⟨A2,c2,rfl,_,M⟩⟩:=h;exact WW x A1 A2 c1 c2 w s.2 s.1
theorem dD {pa:Array Value} {x:Ap} {w0:World} {B:Nat} (w:World) (h:ApV w0 B pa x) (s:pSm x.t.s):Calls Tryz.prog 217 #[.agg pa] w fun e w'=>e=.returned (.bool (apB x))/\Below w.heap.size w w':=by
 obtain⟨b,a,rfl,⟨A1,c1,rfl,_,O⟩,⟨A2,c2,rfl,_,M⟩⟩:=h;exact WX x A1 A2 c1 c2 w s
theorem dE {pa:Array Value} {x:Fa} (w:World) (h:FaV pa x):Calls Tryz.prog 218 #[.agg pa] w fun e w'=>e=.returned (.bool (faB x))/\Below w.heap.size w w':=by rw[h];exact WY x w
theorem aK {pa:Array Value} {x:As} (w:World) (h:AsV pa x) (s:asB x=true):Calls Tryz.prog 219 #[.agg pa] w (BY w (asE x)):=by rw[h];exact Uu x w s
theorem aL {pa:Array Value} {x:Tg} (w:World) (h:TgV w w.heap.size pa x) (s:tgB x=true):Calls Tryz.prog 220 #[.agg pa] w (BY w (tgE x)):=by
 obtain⟨b,a,rfl,⟨A1,c1,rfl,_,O⟩,⟨A2,c2,rfl,_,M⟩⟩:=h;exact Uv x A1 A2 c1 c2 w s O M
theorem aM {pa:Array Value} {x:Re} (w:World) (h:ReV w w.heap.size pa x) (s:reB x=true):Calls Tryz.prog 221 #[.agg pa] w (BY w (reE x)):=by
 obtain⟨b,a,rfl,⟨A1,c1,rfl,_,O⟩,⟨A2,c2,rfl,_,M⟩⟩:=h;exact Uw x A1 A2 c1 c2 w s O M
theorem aN {pa:Array Value} {x:Ap} (w:World) (h:ApV w w.heap.size pa x) (s:apB x=true):Calls Tryz.prog 222 #[.agg pa] w (BY w (apE x)):=by
 obtain⟨b,a,rfl,⟨A1,c1,rfl,_,O⟩,⟨A2,c2,rfl,_,M⟩⟩:=h;exact Ux x A1 A2 c1 c2 w s O M
theorem aO {pa:Array Value} {x:Fa} (w:World) (h:FaV pa x):Calls Tryz.prog 223 #[.agg pa] w (BY w (faE x)):=by rw[h];exact Uy x w
def kdB (m:Mg):Bool:=if m.k=1 then asB m.aq else if m.k=2 then tgB m.tg else if m.k=3 then reB m.re else if m.k=4 then apB m.ap else if m.k=5 then faB m.fa else false
theorem dF (m:Mg):mgB m=(decide (m=nm m)&&kdB m):=by
 unfold mgB kdB nm
 by_cases h1:m.k=1
 ·simp only[if_pos h1];rw[Bool.and_comm]
 ·simp only[if_neg h1]
  by_cases h2:m.k=2
  ·simp only[if_pos h2];rw[Bool.and_comm]
  ·simp only[if_neg h2]
   by_cases h3:m.k=3
   ·simp only[if_pos h3];rw[Bool.and_comm]
   ·simp only[if_neg h3]
    by_cases h4:m.k=4
    ·simp only[if_pos h4];rw[Bool.and_comm]
    ·simp only[if_neg h4]
     by_cases h5:m.k=5
     ·simp only[if_pos h5];rw[Bool.and_comm]
     ·simp only[if_neg h5];rw[Bool.and_false]
section
variable {P:Program} {w:World} {o:Oper} {a:Act}
theorem BG {w':World} {g:Nat} {t ty:TypeId} {cs:Array Value} {d:TypeDesc} (x:Operand) (M:o.op=.load ty x) (O:a.eval x=.pointer (some ⟨g,0,none⟩)) (h:Blk w' g t cs) (hu:P.underlying ty=some d) (Z:d.isRow=true) (hi:(P.info? ty).map (·.size)=some cs.size) :
  (execOp a.eval o).run P w'=.ok (.value (.agg cs)) w':=by
 unfold execOp;simp only[M,O,Instr.loadAt,Instr.sureAddr,Sem.run_bind,Sem.run_pure,Result.andThen_ok,Ao h hu Z hi]
end
theorem UJ (cs:Array Value) (m:Mg) (w:World) (h:MgV w w.heap.size cs m) (hs:mSm m):Calls Tryz.prog 177 #[.agg cs] w fun e w'=>e=.returned (.bool (mgB m))/\Below w.heap.size w w':=by
 have hV:=h;obtain⟨pa,pt,pr,pp,pf,hc,hp⟩:=h;have aw:cs.size=30:=by rw[hc];exact hp.size m.k
 have HI:=I (show(Tryz.prog.info? 95).map (·.size)=some cs.size by rw[aw];exact AZ);obtain⟨W,eW⟩:=Ak (w.alloc (.cells cs 95));have Z:=I (show Blk W w.heap.size 95 cs by rw[eW];exact Blk.new _ _ _);have O:=I (show Below w.heap.size w W by rw[eW];exact Ah.alloc Ag _);have EC:=I hc;have HP:=I hp;have TN:=I (fun w1 (h:Below w.heap.size w w1)=>UE cs m w1 ((hV.keep h).more h.size));have TE:=I (fun w1 ds (h:Below w.heap.size w w1) (g:MgV w1 w1.heap.size ds (nm m))=>UI cs ds m (nm m) w1 ((hV.keep h).more h.size) g);have T1:=I (fun w1=>dA w1 hp.a hs.1);have T2:=I (fun w1=>dB w1 hp.t hs.2.1);have T3:=I (fun w1=>dC w1 hp.r hs.2.2.1);have T4:=I (fun w1=>dD w1 hp.p hs.2.2.2);have T5:=I (fun w1=>dE w1 hp.f);have MB:=I (dF m);clear hc hp hV aw hs;cases en:decide (m=nm m) with
 |false=>
  rw[en] at TE;have E:=I (show mgB m=false by rw[MB.o,en];rfl);clear en;go_enter Tryz.func177,Tryz.ntmps177
  go_upto_region 1 with fail
  rw[<-eW];clear eW;replace Z:=I (show Blk W.drew _ _ _ from Z.o.drewN 1);replace O:=I (show Below _ _ W.drew from below_drewN O.o 1);refine Reg.Cd 5 rfl (by kernel_rfl) ?_;refine Reg.tx 0 (v:=.agg cs) rfl (fun w' hS=>BG (.tmp 1) rfl rfl (Z.o.below hS) Tryz.underlying95 rfl HI.o) ?_;refine Reg.tx 1 (v:=.agg cs) rfl (fun w' hS=>BG (.tmp 1) rfl rfl (Z.o.below hS) Tryz.underlying95 rfl HI.o) ?_;refine Reg.Fg 2 rfl (by kernel_rfl) (by rfl) 213 #[.agg cs] (by go_simp) ?_;refine Calls.mono (TN.o _ O.o) ?_;rintro e w1 ⟨ds,rfl,av,M⟩;refine⟨_,rfl,M,?_⟩;replace Z:=I (Z.o.below M);replace O:=O.t M;have HD:=I av;clear M av TN;simp only[Act.put,U,Aa,Ab];refine Reg.Fg 3 rfl (by kernel_rfl) (by rfl) 212 #[.agg cs,.agg ds] (by go_simp) ?_;refine Aj (TE.o _ ds O.o HD.o) ?_;rintro w2 M;refine⟨_,rfl,M,?_⟩;replace Z:=I (Z.o.below M);replace O:=O.t M;clear M TE HD;simp only[Act.put,U,Aa,Ab];refine Reg.tx 4 (v:=.bool true) rfl (fun w' hS=>by go_simp) ?_;refine wpAnyH_done (by kernel_rfl) ?_ _
  go_wp2
  go_ret;exact⟨by rw[E.o];rfl,O.o⟩
 |true=>
  rw[en] at TE;have MK:=I (show mgB m=kdB m by rw[MB.o,en];rfl);clear en;go_enter Tryz.func177,Tryz.ntmps177
  go_upto_region 1 with fail
  rw[<-eW];clear eW;replace Z:=I (show Blk W.drew _ _ _ from Z.o.drewN 1);replace O:=I (show Below _ _ W.drew from below_drewN O.o 1);refine Reg.Cd 5 rfl (by kernel_rfl) ?_;refine Reg.tx 0 (v:=.agg cs) rfl (fun w' hS=>BG (.tmp 1) rfl rfl (Z.o.below hS) Tryz.underlying95 rfl HI.o) ?_;refine Reg.tx 1 (v:=.agg cs) rfl (fun w' hS=>BG (.tmp 1) rfl rfl (Z.o.below hS) Tryz.underlying95 rfl HI.o) ?_;refine Reg.Fg 2 rfl (by kernel_rfl) (by rfl) 213 #[.agg cs] (by go_simp) ?_;refine Calls.mono (TN.o _ O.o) ?_;rintro e w1 ⟨ds,rfl,av,M⟩;refine⟨_,rfl,M,?_⟩;replace Z:=I (Z.o.below M);replace O:=O.t M;have HD:=I av;clear M av TN;simp only[Act.put,U,Aa,Ab];refine Reg.Fg 3 rfl (by kernel_rfl) (by rfl) 212 #[.agg cs,.agg ds] (by go_simp) ?_;refine Aj (TE.o _ ds O.o HD.o) ?_;rintro w2 M;refine⟨_,rfl,M,?_⟩;replace Z:=I (Z.o.below M);replace O:=O.t M;clear M TE HD;simp only[Act.put,U,Aa,Ab];refine Reg.tx 4 (v:=.bool false) rfl (fun w' hS=>by go_simp) ?_;refine wpAnyH_done (by kernel_rfl) ?_ _;replace Z:=I (EC.o▸Z.o);have HA:=I (HP.o.at_ Z.o);have k0:=HA.o.k
  by_cases m1:m.k=1
  ·have y1:(m.k==1)=true:=by simpa using m1
   have y2:(m.k==2)=false:=by simp;omega
   have y3:(m.k==3)=false:=by simp;omega
   have y4:(m.k==4)=false:=by simp;omega
   have y5:(m.k==5)=false:=by simp;omega
   have E:=I (show mgB m=asB m.aq by rw[MK.o,kdB,if_pos m1]);clear m1
   go_wp2_with (first
    |(refine AF (by rfl) 87 (.tmp 12) (by rfl) w.heap.size 1 (by rfl) pa _ HA.o.a Tryz.underlying87 (by rfl) (by rw[HP.o.a.size];exact Cs) ?_)
    |(go_at_call 214;refine Aj (T1.o _) ?_;rintro w3 M;replace O:=O.t M;clear M T1)
    |fail)
   go_ret;exact⟨by rw[E.o];rfl,O.o⟩
  ·have bz:=m1
   by_cases m2:m.k=2
   ·have y1:(m.k==1)=false:=by simp;omega
    have y2:(m.k==2)=true:=by simpa using m2
    have y3:(m.k==3)=false:=by simp;omega
    have y4:(m.k==4)=false:=by simp;omega
    have y5:(m.k==5)=false:=by simp;omega
    have E:=I (show mgB m=tgB m.tg by rw[MK.o,kdB,if_neg m1,if_pos m2]);clear m1 m2
    go_wp2_with (first
     |(refine AF (by rfl) 89 (.tmp 17) (by rfl) w.heap.size 7 (by rfl) pt _ HA.o.t Tryz.underlying89 (by rfl) (by rw[HP.o.t.size];exact Dd) ?_)
     |(go_at_call 215;refine Aj (T2.o _) ?_;rintro w3 M;replace O:=O.t M;clear M T2)
     |fail)
    go_ret;exact⟨by rw[E.o];rfl,O.o⟩
   ·have bn:=m2
    by_cases m3:m.k=3
    ·have y1:(m.k==1)=false:=by simp;omega
     have y2:(m.k==2)=false:=by simp;omega
     have y3:(m.k==3)=true:=by simpa using m3
     have y4:(m.k==4)=false:=by simp;omega
     have y5:(m.k==5)=false:=by simp;omega
     have E:=I (show mgB m=reB m.re by rw[MK.o,kdB,if_neg m1,if_neg m2,if_pos m3]);clear m1 m2 m3
     go_wp2_with (first
      |(refine AF (by rfl) 91 (.tmp 22) (by rfl) w.heap.size 16 (by rfl) pr _ HA.o.r Tryz.underlying91 (by rfl) (by rw[HP.o.r.size];exact DD) ?_)
      |(go_at_call 216;refine Aj (T3.o _) ?_;rintro w3 M;replace O:=O.t M;clear M T3)
      |fail)
     go_ret;exact⟨by rw[E.o];rfl,O.o⟩
    ·have bq:=m3
     by_cases m4:m.k=4
     ·have y1:(m.k==1)=false:=by simp;omega
      have y2:(m.k==2)=false:=by simp;omega
      have y3:(m.k==3)=false:=by simp;omega
      have y4:(m.k==4)=true:=by simpa using m4
      have y5:(m.k==5)=false:=by simp;omega
      have E:=I (show mgB m=apB m.ap by rw[MK.o,kdB,if_neg m1,if_neg m2,if_neg m3,if_pos m4]);clear m1 m2 m3 m4
      go_wp2_with (first
       |(refine AF (by rfl) 85 (.tmp 27) (by rfl) w.heap.size 23 (by rfl) pp _ HA.o.p Tryz.underlying85 (by rfl) (by rw[HP.o.p.size];exact Eg) ?_)
       |(go_at_call 217;refine Aj (T4.o _) ?_;rintro w3 M;replace O:=O.t M;clear M T4)
       |fail)
      go_ret;exact⟨by rw[E.o];rfl,O.o⟩
     ·have bb:=m4
      by_cases m5:m.k=5
      ·have y1:(m.k==1)=false:=by simp;omega
       have y2:(m.k==2)=false:=by simp;omega
       have y3:(m.k==3)=false:=by simp;omega
       have y4:(m.k==4)=false:=by simp;omega
       have y5:(m.k==5)=true:=by simpa using m5
       have E:=I (show mgB m=faB m.fa by rw[MK.o,kdB,if_neg m1,if_neg m2,if_neg m3,if_neg m4,if_pos m5]);clear m1 m2 m3 m4 m5
       go_wp2_with (first
        |(refine AF (by rfl) 93 (.tmp 32) (by rfl) w.heap.size 28 (by rfl) pf _ HA.o.f Tryz.underlying93 (by rfl) (by rw[HP.o.f.size];exact FL) ?_)
        |(go_at_call 218;refine Aj (T5.o _) ?_;rintro w3 M;replace O:=O.t M;clear M T5)
        |fail)
       go_ret;exact⟨by rw[E.o];rfl,O.o⟩
      ·have bx:=m5
       have y1:(m.k==1)=false:=by simp;omega
       have y2:(m.k==2)=false:=by simp;omega
       have y3:(m.k==3)=false:=by simp;omega
       have y4:(m.k==4)=false:=by simp;omega
       have y5:(m.k==5)=false:=by simp;omega
       have E:=I (show mgB m=false by rw[MK.o,kdB,if_neg m1,if_neg m2,if_neg m3,if_neg m4,if_neg m5]);clear m1 m2 m3 m4 m5
       go_wp2
       go_ret;exact⟨by rw[E.o];rfl,O.o⟩
theorem Rh (cs:Array Value) (m:Mg) (w:World) (h:MgV w w.heap.size cs m) (hx:mgB m=true):Calls Tryz.prog 179 #[.agg cs] w (BY w (mgE m)):=by
 obtain⟨pa,pt,pr,pp,pf,hc,hp⟩:=h;obtain⟨W,eW⟩:=Ak (w.alloc (.cells cs 95));have HK:=I (show Blk W w.heap.size 95 (mgA m.k pa pt pr pp pf) by rw[eW,<-hc];exact Blk.new _ _ _);have HB:=I (show Below w.heap.size w W by rw[eW];exact Ah.alloc Ag _);have HA:=I (hp.at_ HK.o);have k0:=HA.o.k;have HP:=I hp;clear hc;rcases GW hx with⟨h1,e⟩ | ⟨h1,e⟩ | ⟨h1,e⟩ | ⟨h1,e⟩ | ⟨h1,e⟩
 ·have hk:m.k=1:=by rw[e]
  have y1:(m.k==1)=true:=by rw[hk];rfl
  have y2:(m.k==2)=false:=by rw[hk];rfl
  have y3:(m.k==3)=false:=by rw[hk];rfl
  have y4:(m.k==4)=false:=by rw[hk];rfl
  have y5:(m.k==5)=false:=by rw[hk];rfl
  have E:=I (show mgE m=asE m.aq by rw[e];rfl);have O:=I (fun w1 (h:Below w.heap.size w w1)=>aK w1 hp.a h1);rw[E.o];clear hx h1 e hk hp E;go_enter Tryz.func179,Tryz.ntmps179
  go_upto_region 1 with fail
  rw[<-eW];clear eW
  go_wp2_with (first
   |(refine AF (by rfl) 87 (.tmp 7) (by rfl) w.heap.size 1 (by rfl) pa _ HA.o.a Tryz.underlying87 (by rfl) (by rw[HP.o.a.size];exact Cs) ?_)
   |(go_at_call 219;refine Calls.mono (O.o _ HB.o) ?_;rintro e w3 ⟨⟨g,c,rfl,h2,h3,M⟩,Z⟩;have HG:=I (Bg (l:=asE m.aq) ⟨⟨g,c,rfl,h2,h3,M⟩,Z⟩ HB.o);clear h2 h3 M Z O)
   |fail)
  go_ret;exact HG.o
 ·have hk:m.k=2:=by rw[e]
  have y1:(m.k==1)=false:=by rw[hk];rfl
  have y2:(m.k==2)=true:=by rw[hk];rfl
  have y3:(m.k==3)=false:=by rw[hk];rfl
  have y4:(m.k==4)=false:=by rw[hk];rfl
  have y5:(m.k==5)=false:=by rw[hk];rfl
  have E:=I (show mgE m=tgE m.tg by rw[e];rfl);have O:=I (fun w1 (h:Below w.heap.size w w1)=>aL w1 ((hp.t.keep h).more h.size) h1);rw[E.o];clear hx h1 e hk hp E;go_enter Tryz.func179,Tryz.ntmps179
  go_upto_region 1 with fail
  rw[<-eW];clear eW
  go_wp2_with (first
   |(refine AF (by rfl) 89 (.tmp 12) (by rfl) w.heap.size 7 (by rfl) pt _ HA.o.t Tryz.underlying89 (by rfl) (by rw[HP.o.t.size];exact Dd) ?_)
   |(go_at_call 220;refine Calls.mono (O.o _ HB.o) ?_;rintro e w3 ⟨⟨g,c,rfl,h2,h3,M⟩,Z⟩;have HG:=I (Bg (l:=tgE m.tg) ⟨⟨g,c,rfl,h2,h3,M⟩,Z⟩ HB.o);clear h2 h3 M Z O)
   |fail)
  go_ret;exact HG.o
 ·have hk:m.k=3:=by rw[e]
  have y1:(m.k==1)=false:=by rw[hk];rfl
  have y2:(m.k==2)=false:=by rw[hk];rfl
  have y3:(m.k==3)=true:=by rw[hk];rfl
  have y4:(m.k==4)=false:=by rw[hk];rfl
  have y5:(m.k==5)=false:=by rw[hk];rfl
  have E:=I (show mgE m=reE m.re by rw[e];rfl);have O:=I (fun w1 (h:Below w.heap.size w w1)=>aM w1 ((hp.r.keep h).more h.size) h1);rw[E.o];clear hx h1 e hk hp E;go_enter Tryz.func179,Tryz.ntmps179
  go_upto_region 1 with fail
  rw[<-eW];clear eW
  go_wp2_with (first
   |(refine AF (by rfl) 91 (.tmp 17) (by rfl) w.heap.size 16 (by rfl) pr _ HA.o.r Tryz.underlying91 (by rfl) (by rw[HP.o.r.size];exact DD) ?_)
   |(go_at_call 221;refine Calls.mono (O.o _ HB.o) ?_;rintro e w3 ⟨⟨g,c,rfl,h2,h3,M⟩,Z⟩;have HG:=I (Bg (l:=reE m.re) ⟨⟨g,c,rfl,h2,h3,M⟩,Z⟩ HB.o);clear h2 h3 M Z O)
   |fail)
  go_ret;exact HG.o
 ·have hk:m.k=4:=by rw[e]
  have y1:(m.k==1)=false:=by rw[hk];rfl
  have y2:(m.k==2)=false:=by rw[hk];rfl
  have y3:(m.k==3)=false:=by rw[hk];rfl
  have y4:(m.k==4)=true:=by rw[hk];rfl
  have y5:(m.k==5)=false:=by rw[hk];rfl
  have E:=I (show mgE m=apE m.ap by rw[e];rfl);have O:=I (fun w1 (h:Below w.heap.size w w1)=>aN w1 ((hp.p.keep h).more h.size) h1);rw[E.o];clear hx h1 e hk hp E;go_enter Tryz.func179,Tryz.ntmps179
  go_upto_region 1 with fail
  rw[<-eW];clear eW
  go_wp2_with (first
   |(refine AF (by rfl) 85 (.tmp 22) (by rfl) w.heap.size 23 (by rfl) pp _ HA.o.p Tryz.underlying85 (by rfl) (by rw[HP.o.p.size];exact Eg) ?_)
   |(go_at_call 222;refine Calls.mono (O.o _ HB.o) ?_;rintro e w3 ⟨⟨g,c,rfl,h2,h3,M⟩,Z⟩;have HG:=I (Bg (l:=apE m.ap) ⟨⟨g,c,rfl,h2,h3,M⟩,Z⟩ HB.o);clear h2 h3 M Z O)
   |fail)
  go_ret;exact HG.o
 ·have hk:m.k=5:=by rw[e]
  have y1:(m.k==1)=false:=by rw[hk];rfl
  have y2:(m.k==2)=false:=by rw[hk];rfl
  have y3:(m.k==3)=false:=by rw[hk];rfl
  have y4:(m.k==4)=false:=by rw[hk];rfl
  have y5:(m.k==5)=true:=by rw[hk];rfl
  have E:=I (show mgE m=faE m.fa by rw[e];rfl);have O:=I (fun w1 (h:Below w.heap.size w w1)=>aO w1 hp.f);rw[E.o];clear hx h1 e hk hp E;go_enter Tryz.func179,Tryz.ntmps179
  go_upto_region 1 with fail
  rw[<-eW];clear eW
  go_wp2_with (first
   |(refine AF (by rfl) 93 (.tmp 25) (by rfl) w.heap.size 28 (by rfl) pf _ HA.o.f Tryz.underlying93 (by rfl) (by rw[HP.o.f.size];exact FL) ?_)
   |(go_at_call 223;refine Calls.mono (O.o _ HB.o) ?_;rintro e w3 ⟨⟨g,c,rfl,h2,h3,M⟩,Z⟩;have HG:=I (Bg (l:=faE m.fa) ⟨⟨g,c,rfl,h2,h3,M⟩,Z⟩ HB.o);clear h2 h3 M Z O)
   |fail)
  go_ret;exact HG.o
theorem dG {m:Mg} (hx:mgB m=true):(mgE m).length<=2000:=by
 rcases GW hx with⟨O,e⟩ | ⟨O,e⟩ | ⟨O,e⟩ | ⟨O,e⟩ | ⟨O,e⟩
 ·have M:mgE m=asE m.aq:=by rw[e];rfl
  have hp:prB m.aq.c=true/\prB m.aq.s=true/\tmB m.aq.t=true/\tmB m.aq.no=true:=by simpa [asB] using O
  have b1:=(AX hp.1).1;have b2:=(AX hp.2.1).1;have b3:=AM m.aq.t;have b4:=AM m.aq.no;have:=AE 106 [prE m.aq.c,prE m.aq.s,encI m.aq.t,encI m.aq.no].flatten;rw[M,asE];rw[Qs] at this⊢;simp only[List.length_append] at this;omega
 ·have M:mgE m=tgE m.tg:=by rw[e];rfl
  have hp:tkB m.tg.t=true/\BQ m.tg.a=true/\prB m.tg.s=true/\tmB m.tg.u=true/\tmB m.tg.no=true:=by simpa [tgB] using O
  have b1:=(Cq hp.1).1;have b2:=AE 4 m.tg.a;have b3:=(AX hp.2.2.1).1;have b4:=AM m.tg.u;have b5:=AM m.tg.no;have Z:=Bm hp.2.1;have:=AE 108 [tkE m.tg.t,elem 4 m.tg.a,prE m.tg.s,encI m.tg.u,encI m.tg.no].flatten;rw[M,tgE];rw[Gs] at this⊢;simp only[List.length_append] at this;omega
 ·have M:mgE m=reE m.re:=by rw[e];rfl
  have hp:prB m.re.c=true/\tkB m.re.t=true/\BQ m.re.b=true:=by simpa [reB] using O
  have b1:=(AX hp.1).1;have b2:=(Cq hp.2.1).1;have b3:=AE 4 m.re.b;have Z:=Bm hp.2.2;have:=AE 107 [prE m.re.c,tkE m.re.t,elem 4 m.re.b].flatten;rw[M,reE];rw[DN] at this⊢;simp only[List.length_append] at this;omega
 ·have M:mgE m=apE m.ap:=by rw[e];rfl
  have hp:tkB m.ap.t=true/\BQ m.ap.a=true:=by simpa [apB] using O
  have b2:=(Cq hp.1).1;have b3:=AE 4 m.ap.a;have Z:=Bm hp.2;have:=AE 110 [tkE m.ap.t,elem 4 m.ap.a].flatten;rw[M,apE];rw[Dk] at this⊢;simp only[List.length_append] at this;omega
 ·have M:mgE m=faE m.fa:=by rw[e];rfl
  have b2:=AM m.fa.e;have b3:=AM m.fa.no;have:=AE 126 [encI m.fa.e,encI m.fa.no].flatten;rw[M,faE];rw[Dk] at this⊢;simp only[List.length_append] at this;omega
theorem aP (M:Array Value) (m:Mg) (w:World) (h:MgV w w.heap.size M m) (hs:mSm m):Calls Tryz.prog 136 #[.agg M] w (EncR w (mgO m)):=by
 have HI:=I (show(Tryz.prog.info? 95).map (·.size)=some M.size by obtain⟨pa,pt,pr,pp,pf,hc,hp⟩:=h;rw[hc,hp.size];exact AZ);have I1:=I (fun w1 (h1:Below w.heap.size w w1)=>UJ M m w1 ((h.keep h1).more h1.size) hs);have T0:=I (fun(O:mgB m=true)=>fun w1 (h1:Below w.heap.size w w1)=>Rh M m w1 ((h.keep h1).more h1.size) O);have Z:=I (fun(O:mgB m=true)=>dG O);obtain⟨cs,aw⟩:∃cs:Array Value,cs=M:=⟨_,rfl⟩;rw[<-aw] at HI I1 T0⊢;clear aw;have HB:=I ((Below.refl w.heap.size w).alloc Ag (.cells cs 95));have HK:=I (Blk.new w 95 cs);cases O:mgB m with
 |false=>
  rw[O] at I1;have E:=I (show mgO m=none by unfold mgO limO;rw[O];rfl);rw[E.o];clear O E T0 Z hs h;go_enter Tryz.func136,Tryz.ntmps136
  go_wp2_with (first
   |(refine Am (by rfl) 95 (.tmp 1) (by rfl) w.heap.size 0 (by rfl) cs _ (Ad HK.o) Tryz.underlying95 (by rfl) HI.o ?_)
   |(go_at_call 177;refine Aj (I1.o _ HB.o) ?_;rintro w1 hb;replace HB:=HB.t hb;clear hb I1)
   |fail)
  go_ret2
  exact FW HB.o
 |true=>
  rw[O] at I1;have T1:=I (T0.o O);have av:=Z.o O;have E:=I (show mgO m=some (mgE m) from BS.2 ⟨O,av,rfl⟩);rw[E.o];obtain⟨l,el⟩:=Ak (mgE m);rw[<-el] at T1 av⊢;have LM:=I (fun A c w1=>Ij l A _ c w1 rfl av);clear O E el av T0 Z hs h;go_enter Tryz.func136,Tryz.ntmps136
  go_wp2_with (first
   |(refine Am (by rfl) 95 (.tmp 1) (by rfl) w.heap.size 0 (by rfl) cs _ (Ad HK.o) Tryz.underlying95 (by rfl) HI.o ?_)
   |(go_at_call 177;refine Aj (I1.o _ HB.o) ?_;rintro w1 hb;replace HK:=I (HK.o.below hb);replace HB:=HB.t hb;clear hb I1)
   |(go_at_call 179;refine Calls.mono (T1.o _ HB.o) ?_;rintro e w2 ⟨⟨g,c,rfl,h2,h3,h4⟩,hb⟩;have HG:=I (Bg (l:=l) ⟨⟨g,c,rfl,h2,h3,h4⟩,hb⟩ HB.o);clear h2 h3 h4 hb T1)
   |(go_at_call 178;refine Aj (LM.o _ _ _) ?_;rintro wy rfl;clear LM)
   |fail)
  go_ret2
  exact FX HG.o
end Mc
namespace Mc
open Go.RowKit Af DerP DerC Ms
def mgG (b:L):Mg:=(mgD b).getD mg0
def mgI (b:L):Int:=if (mgD b).isSome then 0 else 2
theorem JS:pSm pr0:=⟨by decide,by decide⟩
theorem dH {b:L} (Z:b.length<=100000):mSm (mgQ b):=by
 have z:=JS;have O:mSm ⟨0,as0,tg0,re0,ap0,fa0⟩:=⟨⟨z,z⟩,⟨z,z⟩,⟨z,z⟩,z⟩;cases b with
 |nil=>exact O
 |cons t r=>
  have M:∀u,((AP u (some (t :: r))).getD []).length<=100000:=fun u=>FJ u (show((some (t :: r):Option L).getD []).length<=100000 from Z)
  simp only[mgQ]
  split
  ·exact⟨⟨Hk (M _),Hk (BX 48 (M _))⟩,⟨z,z⟩,⟨z,z⟩,z⟩
  ·split
   ·exact⟨⟨z,z⟩,⟨Hk (FJ 97 (M _)),Hk (BX 4 (BX 97 (M _)))⟩,⟨z,z⟩,z⟩
   ·split
    ·exact⟨⟨z,z⟩,⟨z,z⟩,⟨Hk (M _),Hk (FJ 97 (BX 48 (M _)))⟩,z⟩
    ·split
     ·exact⟨⟨z,z⟩,⟨z,z⟩,⟨z,z⟩,Hk (FJ 97 (M _))⟩
     ·split
      ·exact⟨⟨z,z⟩,⟨z,z⟩,⟨z,z⟩,z⟩
      ·exact O
theorem zz_o (w:World) (B:Nat):MgO w B (mgA 0 zA zT zR zP zF) mg0:=⟨_,_,_,_,_,rfl,zM_o w B 0⟩
theorem UK (A:Option Addr) (b:L) (c:Nat) (w:World) (hr:Rd w w.heap.size A (bvs b)):Calls Tryz.prog 134 #[.slice A b.length c,.func (.func 135) #[] #[],.func (.func 136) #[] #[]] w fun e w'=>∃ds,e=.returned (.tuple #[.agg ds,.int .i64 (mgI b)])/\MgO w' w.heap.size ds (mgG b)/\Below w.heap.size w w':=by
 obtain⟨Z,bq⟩:∃z:Array Value,z=#[.int .i64 0,.string ⟨#[]⟩,.string ⟨#[]⟩,.string ⟨#[]⟩,.string ⟨#[]⟩,.int .i64 0,.int .i64 0,.string ⟨#[]⟩,.string ⟨#[]⟩,.int .i64 0,.slice none 0 0,.slice none 0 0,.string ⟨#[]⟩,.string ⟨#[]⟩,.int .i64 0,.int .i64 0,.string ⟨#[]⟩,.string ⟨#[]⟩,.string ⟨#[]⟩,.string ⟨#[]⟩,.int .i64 0,.slice none 0 0,.slice none 0 0,.string ⟨#[]⟩,.string ⟨#[]⟩,.int .i64 0,.slice none 0 0,.slice none 0 0,.int .i64 0,.int .i64 0]:=⟨_,rfl⟩;have cn:Z=mgA 0 zA zT zR zP zF:=by rw[bq];rfl
 have hz:∀(w1:World) (B:Nat),MgO w1 B Z mg0:=fun w1 B=>by rw[cn];exact zz_o w1 B
 have ca:Z.size=30:=(hz w 0).size;obtain⟨W,eW⟩:=Ak ((w.alloc (.cells Z 95)).alloc (.cells Z 95));have cm:W.heap.size=w.heap.size+1+1:=by rw[eW];simp
 have hq:=Blk.new (w.alloc (.cells Z 95)) 95 Z;rw[show(w.alloc (.cells Z 95)).heap.size=w.heap.size+1 by simp,<-eW] at hq;have HZ:=I hq;clear hq;have O:=I (show Blk W w.heap.size 95 Z by rw[eW];exact(Blk.new _ _ _).alloc _);have HG:=I (show Below w.heap.size w W by rw[eW];exact(Ah.alloc Ag _).alloc (by simp) _);have bz:=I (fun w1 (h:Below w.heap.size w w1)=>(hr.below h).more h.size);have bb:=I (show(Tryz.prog.info? 95).map (·.size)=some Z.size by rw[ca];exact AZ);have cj:=I (show Z.all (·.oneCell')=true from(hz w 0).one);have ck:=I ca;have cb:=I hz;have ED:=I (aF b);have cp:=I cm;clear cm ca cn hz
 by_cases hl:b.length<=2000
 ·have t1:decide ((2000:Int)<(b.length:Int))=false:=decide_eq_false (by omega)
  have cg:b.length<=100000:=by omega
  have av:=dH cg;have T1:=I (fun w1 (h:Rd w1 w1.heap.size A (bvs b))=>OL A b c w1 h cg);have EN:=I (fun w1 cs (h:MgV w1 w1.heap.size cs (mgQ b))=>aP cs (mgQ b) w1 h av);have BE:=I (fun(l:L) (g c2:Nat) (w1:World) (h:Rd w1 w1.heap.size (some ⟨g,0,none⟩) (bvs l)) (M:Below w.heap.size w w1)=>Gx l b (some ⟨g,0,none⟩) A c2 c w1.heap.size w1 h (bz.o w1 M));clear hl cg hr av;cases ho:mgO (mgQ b) with
  |none=>
   rw[ho] at EN;have hD:mgD b=none:=by rw[ED.o,ho];rfl
   have GE:=I (show mgG b=mg0 by rw[mgG,hD];rfl);have IE:=I (show mgI b=2 by rw[mgI,hD];rfl);clear ED ho hD BE;go_enter Tryz.func134,Tryz.ntmps134
   go_upto_region 2 with fail
   rw[<-bq,<-eW];clear bq eW
   go_wp2_with (first
    |(refine Am (by rfl) 95 (.tmp 8) (by rfl) (w.heap.size+1) 0 (by rfl) Z _ (Ad HZ.o) Tryz.underlying95 (by rfl) bb.o ?_)
    |(refine wpList_store_mid (by rfl) 95 (.tmp 6) (.tmp 33) (by rfl) w.heap.size 0 Z (by rfl) (by rfl) (Ar O.o _ Ag) bb.o cj.o ?_)
    |(go_at_call 135;refine Calls.mono (T1.o _ (bz.o _ HG.o)) ?_;rintro e w4 ⟨cs,rfl,hv,M⟩;clear T1;have HV:=I (hv.less (show w.heap.size+1<=_ by have:=O.o.lt;omega));have aw:=I (show(Tryz.prog.info? 95).map (·.size)=some cs.size by rw[hv.size];exact AZ);have bx:=I (show cs.all (·.oneCell')=true from hv.one);have bn:=I hv.size;clear hv;replace HZ:=I (HZ.o.below M);replace O:=I (O.o.below M);replace HG:=HG.t M;clear M)
    |(refine wpList_store_mid (by rfl) 95 (.tmp 9) (.tmp 18) (by rfl) w4.heap.size 0 cs (by rfl) (by rfl) (Ar (Blk.new w4 95 Ay) _ (by have:=bn.o;simp;omega)) aw.o bx.o ?_;have hV:=Bk w4 95 Ay cs (by have:=bn.o;simp;omega);generalize ((w4.alloc (.cells Ay 95)).setCells w4.heap.size 0 cs.toList)=V at hV⊢;have HX:=I hV.1;replace HV:=I (HV.o.below hV.2);replace HZ:=I (HZ.o.below hV.2);replace O:=I (O.o.below hV.2);replace HG:=I (HG.o.trans (hV.2.mono HG.o.size));clear hV)
    |(refine Am (by rfl) 95 (.tmp 9) (by rfl) w4.heap.size 0 (by rfl) cs _ (Ad HX.o) Tryz.underlying95 (by rfl) aw.o ?_)
    |(go_at_call 136;refine Calls.mono (EN.o _ _ HV.o.toV) ?_;rintro e we ⟨⟨v,i,rfl,hn,av⟩,M⟩;obtain⟨rfl,rfl⟩:=hn rfl;clear EN;replace HV:=I (HV.o.below M);replace HX:=I (HX.o.below M);replace HZ:=I (HZ.o.below M);replace O:=I (O.o.below M);replace HG:=HG.t M;clear M hn av)
    |fail)
   have hE:=AK (ds:=Z) O.o (by rfl);have hp:=AQ we w.heap.size Z.toList;have hq:=Ao (P:=Tryz.prog) hE Tryz.underlying95 rfl bb.o;refine bodyPost_ret (v:=.tuple #[.agg Z,.int .i64 2]) ?_ ?_ ?_
   ·exact Al (v:=.agg Z) 6 7 95 ⟨w.heap.size,0,none⟩ Tryz.results134 rfl hq rfl
   ·rfl
   refine⟨_,by rw[IE.o],?_,Az HG.o hp (by have:=O.o.lt;omega) Ag⟩;rw[GE.o];exact cb.o _ _
  |some l=>
   rw[ho] at EN
   by_cases hlb:l=b
   ·have BF:=I (decide_eq_true hlb)
    have hD:mgD b=some (mgQ b):=by rw[ED.o,ho,if_pos (by rw[hlb])]
    have GE:=I (show mgG b=mgQ b by rw[mgG,hD];rfl);have IE:=I (show mgI b=0 by rw[mgI,hD];rfl);clear ED ho hlb hD;go_enter Tryz.func134,Tryz.ntmps134
    go_upto_region 2 with fail
    rw[<-bq,<-eW];clear bq eW
    go_wp2_with (first
     |(refine Am (by rfl) 95 (.tmp 8) (by rfl) (w.heap.size+1) 0 (by rfl) Z _ (Ad HZ.o) Tryz.underlying95 (by rfl) bb.o ?_)
     |(refine wpList_store_mid (by rfl) 95 (.tmp 6) (.tmp 34) (by rfl) w.heap.size 0 cs (by rfl) (by rfl) (Ar O.o _ (by have:=ck.o;have:=bn.o;omega)) aw.o bx.o ?_)
     |(go_at_call 135;refine Calls.mono (T1.o _ (bz.o _ HG.o)) ?_;rintro e w4 ⟨cs,rfl,hv,M⟩;clear T1;have HV:=I (hv.less (show w.heap.size+1<=_ by have:=O.o.lt;omega));have aw:=I (show(Tryz.prog.info? 95).map (·.size)=some cs.size by rw[hv.size];exact AZ);have bx:=I (show cs.all (·.oneCell')=true from hv.one);have bn:=I hv.size;clear hv;replace HZ:=I (HZ.o.below M);replace O:=I (O.o.below M);replace HG:=HG.t M;clear M)
     |(refine wpList_store_mid (by rfl) 95 (.tmp 9) (.tmp 18) (by rfl) w4.heap.size 0 cs (by rfl) (by rfl) (Ar (Blk.new w4 95 Ay) _ (by have:=bn.o;simp;omega)) aw.o bx.o ?_;have hV:=Bk w4 95 Ay cs (by have:=bn.o;simp;omega);generalize ((w4.alloc (.cells Ay 95)).setCells w4.heap.size 0 cs.toList)=V at hV⊢;have HX:=I hV.1;replace HV:=I (HV.o.below hV.2);replace HZ:=I (HZ.o.below hV.2);replace O:=I (O.o.below hV.2);replace HG:=I (HG.o.trans (hV.2.mono HG.o.size));clear hV)
     |(refine Am (by rfl) 95 (.tmp 9) (by rfl) w4.heap.size 0 (by rfl) cs _ (Ad HX.o) Tryz.underlying95 (by rfl) aw.o ?_)
     |(go_at_call 136;refine Calls.mono (EN.o _ _ HV.o.toV) ?_;rintro e we ⟨⟨v,i,rfl,hn,av⟩,M⟩;obtain⟨rfl,gx,cx,rfl,cd,cc,bB⟩:=av l rfl;have cf:=I bB;clear cd cc bB;clear EN;replace HV:=I (HV.o.below M);replace HX:=I (HX.o.below M);replace HZ:=I (HZ.o.below M);replace O:=I (O.o.below M);replace HG:=HG.t M;clear M hn av)
     |(go_at_call 169;refine Calls.mono (BE.o l gx cx _ cf.o HG.o) ?_;rw[BF.o];rintro e wb ⟨rfl,hw⟩;subst hw;clear BE)
     |fail)
    have hE:=AK (ds:=cs) O.o (by have:=ck.o;have:=bn.o;omega);have hp:=AQ we w.heap.size cs.toList;have hq:=Ao (P:=Tryz.prog) hE Tryz.underlying95 rfl aw.o;refine bodyPost_ret (v:=.tuple #[.agg cs,.int .i64 0]) ?_ ?_ ?_
    ·exact Al (v:=.agg cs) 6 7 95 ⟨w.heap.size,0,none⟩ Tryz.results134 rfl hq rfl
    ·rfl
    refine⟨_,by rw[IE.o],?_,Az HG.o hp (by have:=O.o.lt;omega) Ag⟩;rw[GE.o];exact(HV.o.keep hp (by omega)).less (by omega)
   ·have BF:=I (decide_eq_false hlb)
    have hD:mgD b=none:=by rw[ED.o,ho,if_neg (fun h=>hlb (Option.some.inj h))]
    have GE:=I (show mgG b=mg0 by rw[mgG,hD];rfl);have IE:=I (show mgI b=2 by rw[mgI,hD];rfl);clear ED ho hlb hD;go_enter Tryz.func134,Tryz.ntmps134
    go_upto_region 2 with fail
    rw[<-bq,<-eW];clear bq eW
    go_wp2_with (first
     |(refine Am (by rfl) 95 (.tmp 8) (by rfl) (w.heap.size+1) 0 (by rfl) Z _ (Ad HZ.o) Tryz.underlying95 (by rfl) bb.o ?_)
     |(refine wpList_store_mid (by rfl) 95 (.tmp 6) (.tmp 33) (by rfl) w.heap.size 0 Z (by rfl) (by rfl) (Ar O.o _ Ag) bb.o cj.o ?_)
     |(go_at_call 135;refine Calls.mono (T1.o _ (bz.o _ HG.o)) ?_;rintro e w4 ⟨cs,rfl,hv,M⟩;clear T1;have HV:=I (hv.less (show w.heap.size+1<=_ by have:=O.o.lt;omega));have aw:=I (show(Tryz.prog.info? 95).map (·.size)=some cs.size by rw[hv.size];exact AZ);have bx:=I (show cs.all (·.oneCell')=true from hv.one);have bn:=I hv.size;clear hv;replace HZ:=I (HZ.o.below M);replace O:=I (O.o.below M);replace HG:=HG.t M;clear M)
     |(refine wpList_store_mid (by rfl) 95 (.tmp 9) (.tmp 18) (by rfl) w4.heap.size 0 cs (by rfl) (by rfl) (Ar (Blk.new w4 95 Ay) _ (by have:=bn.o;simp;omega)) aw.o bx.o ?_;have hV:=Bk w4 95 Ay cs (by have:=bn.o;simp;omega);generalize ((w4.alloc (.cells Ay 95)).setCells w4.heap.size 0 cs.toList)=V at hV⊢;have HX:=I hV.1;replace HV:=I (HV.o.below hV.2);replace HZ:=I (HZ.o.below hV.2);replace O:=I (O.o.below hV.2);replace HG:=I (HG.o.trans (hV.2.mono HG.o.size));clear hV)
     |(refine Am (by rfl) 95 (.tmp 9) (by rfl) w4.heap.size 0 (by rfl) cs _ (Ad HX.o) Tryz.underlying95 (by rfl) aw.o ?_)
     |(go_at_call 136;refine Calls.mono (EN.o _ _ HV.o.toV) ?_;rintro e we ⟨⟨v,i,rfl,hn,av⟩,M⟩;obtain⟨rfl,gx,cx,rfl,cd,cc,bB⟩:=av l rfl;have cf:=I bB;clear cd cc bB;clear EN;replace HV:=I (HV.o.below M);replace HX:=I (HX.o.below M);replace HZ:=I (HZ.o.below M);replace O:=I (O.o.below M);replace HG:=HG.t M;clear M hn av)
     |(go_at_call 169;refine Calls.mono (BE.o l gx cx _ cf.o HG.o) ?_;rw[BF.o];rintro e wb ⟨rfl,hw⟩;subst hw;clear BE)
     |fail)
    have hE:=AK (ds:=Z) O.o (by rfl);have hp:=AQ we w.heap.size Z.toList;have hq:=Ao (P:=Tryz.prog) hE Tryz.underlying95 rfl bb.o;refine bodyPost_ret (v:=.tuple #[.agg Z,.int .i64 2]) ?_ ?_ ?_
    ·exact Al (v:=.agg Z) 6 7 95 ⟨w.heap.size,0,none⟩ Tryz.results134 rfl hq rfl
    ·rfl
    refine⟨_,by rw[IE.o],?_,Az HG.o hp (by have:=O.o.lt;omega) Ag⟩;rw[GE.o];exact cb.o _ _
 ·have t1:decide ((2000:Int)<(b.length:Int))=true:=decide_eq_true (by omega)
  have hD:mgD b=none:=by
   rw[ED.o,if_neg];intro h;have h2:=BS.1 h;exact hl (by rw[<-h2.2.2];exact h2.2.1)
  have GE:=I (show mgG b=mg0 by rw[mgG,hD];rfl);have IE:=I (show mgI b=2 by rw[mgI,hD];rfl);clear ED hD hl hr bz;go_enter Tryz.func134,Tryz.ntmps134
  go_upto_region 2 with fail
  rw[<-bq,<-eW];clear bq eW
  go_wp2_with (first
   |(refine Am (by rfl) 95 (.tmp 8) (by rfl) (w.heap.size+1) 0 (by rfl) Z _ (Ad HZ.o) Tryz.underlying95 (by rfl) bb.o ?_)
   |(refine wpList_store_mid (by rfl) 95 (.tmp 6) (.tmp 15) (by rfl) w.heap.size 0 Z (by rfl) (by rfl) (Ar O.o _ Ag) bb.o cj.o ?_)
   |fail)
  have hE:=AK (ds:=Z) O.o (by rfl);have hp:=AQ W w.heap.size Z.toList;have hq:=Ao (P:=Tryz.prog) hE Tryz.underlying95 rfl bb.o;refine bodyPost_ret (v:=.tuple #[.agg Z,.int .i64 2]) ?_ ?_ ?_
  ·exact Al (v:=.agg Z) 6 7 95 ⟨w.heap.size,0,none⟩ Tryz.results134 rfl hq rfl
  ·rfl
  refine⟨_,by rw[IE.o],?_,Az HG.o hp (by have:=O.o.lt;omega) Ag⟩;rw[GE.o];exact cb.o _ _
theorem aQ (A:Option Addr) (b:L) (c:Nat) (w:World) (hr:Rd w w.heap.size A (bvs b)):Calls Tryz.prog 86 #[.slice A b.length c] w fun e w'=>∃ds,e=.returned (.tuple #[.agg ds,.int .i64 (mgI b)])/\MgO w' w.heap.size ds (mgG b)/\Below w.heap.size w w':=by
 obtain⟨O,M⟩:∃z:Array Value,z=#[.int .i64 0,.string ⟨#[]⟩,.string ⟨#[]⟩,.string ⟨#[]⟩,.string ⟨#[]⟩,.int .i64 0,.int .i64 0,.string ⟨#[]⟩,.string ⟨#[]⟩,.int .i64 0,.slice none 0 0,.slice none 0 0,.string ⟨#[]⟩,.string ⟨#[]⟩,.int .i64 0,.int .i64 0,.string ⟨#[]⟩,.string ⟨#[]⟩,.string ⟨#[]⟩,.string ⟨#[]⟩,.int .i64 0,.slice none 0 0,.slice none 0 0,.string ⟨#[]⟩,.string ⟨#[]⟩,.int .i64 0,.slice none 0 0,.slice none 0 0,.int .i64 0,.int .i64 0]:=⟨_,rfl⟩;have aw:=I (show O.size=30 by rw[M];simp);have c1:=UK A b c (w.alloc (.cells O 95)) ((hr.alloc Ag _).more (by simp));have HR:=I (Blk.new w 95 O);have HG:=I ((Below.refl w.heap.size w).alloc Ag (.cells O 95));have bb:=I (show(w.alloc (.cells O 95)).heap.size=w.heap.size+1 by simp);clear hr;go_enter Tryz.func86,Tryz.ntmps86
 go_upto_region 1 with fail
 rw[<-M];clear M
 go_wp2_with (first
  |(go_at_call 134;refine Calls.mono c1 ?_;rintro e w1 ⟨cs,rfl,Z,hb⟩;clear c1;have HV:=I (Z.less (show w.heap.size+1<=_ by have:=bb.o;omega));have HI:=I (show(Tryz.prog.info? 95).map (·.size)=some cs.size by rw[Z.size];exact AZ);have HO:=I (show cs.all (·.oneCell')=true from Z.one);have av:=I Z.size;clear Z;replace HR:=I (HR.o.below hb);replace HG:=HG.t hb;clear hb)
  |(refine wpList_store_mid (by rfl) 95 (.tmp 2) (.tmp 6) (by rfl) w.heap.size 0 cs (by rfl) (by rfl) (Ar HR.o _ (by have:=aw.o;have:=av.o;omega)) HI.o HO.o ?_)
  |fail)
 have hE:=AK (ds:=cs) HR.o (by have:=aw.o;have:=av.o;omega);have hp:=AQ w1 w.heap.size cs.toList;have hq:=Ao (P:=Tryz.prog) hE Tryz.underlying95 rfl HI.o;refine bodyPost_ret (v:=.tuple #[.agg cs,.int .i64 (mgI b)]) ?_ ?_ ?_
 ·exact Al (v:=.agg cs) 2 3 95 ⟨w.heap.size,0,none⟩ Tryz.results86 rfl hq rfl
 ·rfl
 exact⟨_,rfl,(HV.o.keep hp (by omega)).less (by omega),Az HG.o hp (by have:=HR.o.lt;omega) Ag⟩
end Mc
end Go.Proofs.YtfbnjcdhipplpaaGreat
