import Derived.Test.YtcpccikongbopaaGreatZClientFirst17
set_option maxHeartbeats 25600000
set_option maxRecDepth 100000
set_option linter.unusedVariables false
set_option linter.unusedSimpArgs false
namespace Go.Proofs.YtcpccikongbopaaGreat
namespace Mc
open Go.RowKit Ad DerP DerC DerR Ms
theorem XC {pa:Array Value} {x:As} (w:World) (h:AsV pa x) (s:pSm x.c/\pSm x.s):Calls Tryz.prog 154 #[.agg pa] w fun e w'=>e=.returned (.bool (asB x))/\Below w.heap.size w w':=by rw[h];exact SM x w s.1 s.2
theorem XD {pa:Array Value} {x:Tg} {w0:World} {B:Nat} (w:World) (h:TgV w0 B pa x) (s:pSm x.t.s/\pSm x.s):Calls Tryz.prog 155 #[.agg pa] w fun e w'=>e=.returned (.bool (tgB x))/\Below w.heap.size w w':=by
 obtain⟨b,a,rfl,⟨A1,c1,rfl,_,E⟩,⟨A2,c2,rfl,_,D⟩⟩:=h;exact QB x A1 A2 c1 c2 w s.1 s.2
theorem XE {pa:Array Value} {x:Re} {w0:World} {B:Nat} (w:World) (h:ReV w0 B pa x) (s:pSm x.c/\pSm x.t.s):Calls Tryz.prog 156 #[.agg pa] w fun e w'=>e=.returned (.bool (reB x))/\Below w.heap.size w w':=by
 obtain⟨b,a,rfl,⟨A1,c1,rfl,_,E⟩,⟨A2,c2,rfl,_,D⟩⟩:=h;exact SN x A1 A2 c1 c2 w s.2 s.1
theorem XF {pa:Array Value} {x:Ap} {w0:World} {B:Nat} (w:World) (h:ApV w0 B pa x) (s:pSm x.t.s):Calls Tryz.prog 157 #[.agg pa] w fun e w'=>e=.returned (.bool (apB x))/\Below w.heap.size w w':=by
 obtain⟨b,a,rfl,⟨A1,c1,rfl,_,E⟩,⟨A2,c2,rfl,_,D⟩⟩:=h;exact SP x A1 A2 c1 c2 w s
theorem XG {pa:Array Value} {x:Fa} (w:World) (h:FaV pa x):Calls Tryz.prog 158 #[.agg pa] w fun e w'=>e=.returned (.bool (faB x))/\Below w.heap.size w w':=by rw[h];exact SR x w
theorem VL {pa:Array Value} {x:As} (w:World) (h:AsV pa x) (s:asB x=true):Calls Tryz.prog 159 #[.agg pa] w (BS w (asE x)):=by rw[h];exact Qw x w s
theorem VM {pa:Array Value} {x:Tg} (w:World) (h:TgV w w.heap.size pa x) (s:tgB x=true):Calls Tryz.prog 160 #[.agg pa] w (BS w (tgE x)):=by
 obtain⟨b,a,rfl,⟨A1,c1,rfl,_,E⟩,⟨A2,c2,rfl,_,D⟩⟩:=h;exact Qx x A1 A2 c1 c2 w s E D
theorem VN {pa:Array Value} {x:Re} (w:World) (h:ReV w w.heap.size pa x) (s:reB x=true):Calls Tryz.prog 161 #[.agg pa] w (BS w (reE x)):=by
 obtain⟨b,a,rfl,⟨A1,c1,rfl,_,E⟩,⟨A2,c2,rfl,_,D⟩⟩:=h;exact Qy x A1 A2 c1 c2 w s E D
theorem VO {pa:Array Value} {x:Ap} (w:World) (h:ApV w w.heap.size pa x) (s:apB x=true):Calls Tryz.prog 162 #[.agg pa] w (BS w (apE x)):=by
 obtain⟨b,a,rfl,⟨A1,c1,rfl,_,E⟩,⟨A2,c2,rfl,_,D⟩⟩:=h;exact Qz x A1 A2 c1 c2 w s E D
theorem VP {pa:Array Value} {x:Fa} (w:World) (h:FaV pa x):Calls Tryz.prog 163 #[.agg pa] w (BS w (faE x)):=by rw[h];exact QA x w
def kdB (m:Mg):Bool:=if m.k=1 then asB m.aq else if m.k=2 then tgB m.tg else if m.k=3 then reB m.re else if m.k=4 then apB m.ap else if m.k=5 then faB m.fa else false
theorem XH (m:Mg):mgB m=(decide (m=nm m)&&kdB m):=by
 unfold mgB kdB nm
 by_cases h1:m.k=1
 ·simp only[if_pos h1];rw[Bool.and_comm]
 ·simp only[if_neg h1]
  by_cases h2:m.k=2
  ·simp only[if_pos h2];rw[Bool.and_comm]
  ·simp only[if_neg h2]
   by_cases h3:m.k=3
   ·simp only[if_pos h3];rw[Bool.and_comm]
   ·simp only[if_neg h3]
    by_cases h4:m.k=4
    ·simp only[if_pos h4];rw[Bool.and_comm]
    ·simp only[if_neg h4]
     by_cases h5:m.k=5
     ·simp only[if_pos h5];rw[Bool.and_comm]
     ·simp only[if_neg h5];rw[Bool.and_false]
section
variable {P:Program} {w:World} {o:Oper} {a:Act}
theorem Cy {w':World} {g:Nat} {t ty:TypeId} {cs:Array Value} {d:TypeDesc} (x:Operand) (D:o.op=.load ty x) (M:a.eval x=.pointer (some ⟨g,0,none⟩)) (h:Blk w' g t cs) (hu:P.underlying ty=some d) (F:d.isRow=true) (E:(P.info? ty).map (·.size)=some cs.size) :
  (execOp a.eval o).run P w'=.ok (.value (.agg cs)) w':=by
 unfold execOp;simp only[D,M,Instr.loadAt,Instr.sureAddr,Sem.run_bind,Sem.run_pure,Result.andThen_ok,Am h hu F E]
end
theorem QO (cs:Array Value) (m:Mg) (w:World) (h:MgV w w.heap.size cs m) (hs:mSm m):Calls Tryz.prog 109 #[.agg cs] w fun e w'=>e=.returned (.bool (mgB m))/\Below w.heap.size w w':=by
 have hV:=h;obtain⟨pa,pt,pr,pp,pf,hc,Y⟩:=h;have aa:cs.size=30:=by rw[hc];exact Y.size m.k
 have HI:=I (show(Tryz.prog.info? 63).map (·.size)=some cs.size by rw[aa];exact AQ);obtain⟨W,eW⟩:=Ah (w.alloc (.cells cs 63));have O:=I (show Blk W w.heap.size 63 cs by rw[eW];exact Blk.new _ _ _);have F:=I (show Below w.heap.size w W by rw[eW];exact Af.alloc Ae _);have EC:=I hc;have HP:=I Y;have TN:=I (fun M (h:Below w.heap.size w M)=>QJ cs m M ((hV.keep h).more h.size));have TE:=I (fun M ds (h:Below w.heap.size w M) (g:MgV M M.heap.size ds (nm m))=>QN cs ds m (nm m) M ((hV.keep h).more h.size) g);have T1:=I (fun M=>XC M Y.a hs.1);have T2:=I (fun M=>XD M Y.t hs.2.1);have T3:=I (fun M=>XE M Y.r hs.2.2.1);have T4:=I (fun M=>XF M Y.p hs.2.2.2);have T5:=I (fun M=>XG M Y.f);have MB:=I (XH m);clear hc Y hV aa hs;cases en:decide (m=nm m) with
 |false=>
  rw[en] at TE;have E:=I (show mgB m=false by rw[MB.o,en];rfl);clear en;go_enter Tryz.func109,Tryz.ntmps109
  go_upto_region 1 with fail
  rw[<-eW];clear eW;replace O:=I (show Blk W.drew _ _ _ from O.o.drewN 1);replace F:=I (show Below _ _ W.drew from below_drewN F.o 1);refine Reg.Cv 5 rfl (by kernel_rfl) ?_;refine Reg.tx 0 (v:=.agg cs) rfl (fun w' hS=>Cy (.tmp 1) rfl rfl (O.o.below hS) Tryz.underlying63 rfl HI.o) ?_;refine Reg.tx 1 (v:=.agg cs) rfl (fun w' hS=>Cy (.tmp 1) rfl rfl (O.o.below hS) Tryz.underlying63 rfl HI.o) ?_;refine Reg.DD 2 rfl (by kernel_rfl) (by rfl) 153 #[.agg cs] (by go_simp) ?_;refine Calls.mono (TN.o _ F.o) ?_;rintro e M ⟨ds,rfl,X,D⟩;refine⟨_,rfl,D,?_⟩;replace O:=I (O.o.below D);replace F:=F.t D;have HD:=I X;clear D X TN;simp only[Act.put,J,U,Aa];refine Reg.DD 3 rfl (by kernel_rfl) (by rfl) 152 #[.agg cs,.agg ds] (by go_simp) ?_;refine Ag (TE.o _ ds F.o HD.o) ?_;rintro w2 D;refine⟨_,rfl,D,?_⟩;replace O:=I (O.o.below D);replace F:=F.t D;clear D TE HD;simp only[Act.put,J,U,Aa];refine Reg.tx 4 (v:=.bool true) rfl (fun w' hS=>by go_simp) ?_;refine wpAnyH_done (by kernel_rfl) ?_ _
  go_wp2
  go_ret;exact⟨by rw[E.o];rfl,F.o⟩
 |true=>
  rw[en] at TE;have Z:=I (show mgB m=kdB m by rw[MB.o,en];rfl);clear en;go_enter Tryz.func109,Tryz.ntmps109
  go_upto_region 1 with fail
  rw[<-eW];clear eW;replace O:=I (show Blk W.drew _ _ _ from O.o.drewN 1);replace F:=I (show Below _ _ W.drew from below_drewN F.o 1);refine Reg.Cv 5 rfl (by kernel_rfl) ?_;refine Reg.tx 0 (v:=.agg cs) rfl (fun w' hS=>Cy (.tmp 1) rfl rfl (O.o.below hS) Tryz.underlying63 rfl HI.o) ?_;refine Reg.tx 1 (v:=.agg cs) rfl (fun w' hS=>Cy (.tmp 1) rfl rfl (O.o.below hS) Tryz.underlying63 rfl HI.o) ?_;refine Reg.DD 2 rfl (by kernel_rfl) (by rfl) 153 #[.agg cs] (by go_simp) ?_;refine Calls.mono (TN.o _ F.o) ?_;rintro e M ⟨ds,rfl,X,D⟩;refine⟨_,rfl,D,?_⟩;replace O:=I (O.o.below D);replace F:=F.t D;have HD:=I X;clear D X TN;simp only[Act.put,J,U,Aa];refine Reg.DD 3 rfl (by kernel_rfl) (by rfl) 152 #[.agg cs,.agg ds] (by go_simp) ?_;refine Ag (TE.o _ ds F.o HD.o) ?_;rintro w2 D;refine⟨_,rfl,D,?_⟩;replace O:=I (O.o.below D);replace F:=F.t D;clear D TE HD;simp only[Act.put,J,U,Aa];refine Reg.tx 4 (v:=.bool false) rfl (fun w' hS=>by go_simp) ?_;refine wpAnyH_done (by kernel_rfl) ?_ _;replace O:=I (EC.o▸O.o);have HA:=I (HP.o.at_ O.o);have k0:=HA.o.k
  by_cases m1:m.k=1
  ·have y1:(m.k==1)=true:=by simpa using m1
   have y2:(m.k==2)=false:=by simp;omega
   have y3:(m.k==3)=false:=by simp;omega
   have y4:(m.k==4)=false:=by simp;omega
   have y5:(m.k==5)=false:=by simp;omega
   have E:=I (show mgB m=asB m.aq by rw[Z.o,kdB,if_pos m1]);clear m1
   go_wp2_with (first
    |(refine Az (by rfl) 51 (.tmp 12) (by rfl) w.heap.size 1 (by rfl) pa _ HA.o.a Tryz.underlying51 (by rfl) (by rw[HP.o.a.size];exact Ch) ?_)
    |(go_at_call 154;refine Ag (T1.o _) ?_;rintro w3 D;replace F:=F.t D;clear D T1)
    |fail)
   go_ret;exact⟨by rw[E.o];rfl,F.o⟩
  ·have ae:=m1
   by_cases m2:m.k=2
   ·have y1:(m.k==1)=false:=by simp;omega
    have y2:(m.k==2)=true:=by simpa using m2
    have y3:(m.k==3)=false:=by simp;omega
    have y4:(m.k==4)=false:=by simp;omega
    have y5:(m.k==5)=false:=by simp;omega
    have E:=I (show mgB m=tgB m.tg by rw[Z.o,kdB,if_neg m1,if_pos m2]);clear m1 m2
    go_wp2_with (first
     |(refine Az (by rfl) 55 (.tmp 17) (by rfl) w.heap.size 7 (by rfl) pt _ HA.o.t Tryz.underlying55 (by rfl) (by rw[HP.o.t.size];exact BG) ?_)
     |(go_at_call 155;refine Ag (T2.o _) ?_;rintro w3 D;replace F:=F.t D;clear D T2)
     |fail)
    go_ret;exact⟨by rw[E.o];rfl,F.o⟩
   ·have af:=m2
    by_cases m3:m.k=3
    ·have y1:(m.k==1)=false:=by simp;omega
     have y2:(m.k==2)=false:=by simp;omega
     have y3:(m.k==3)=true:=by simpa using m3
     have y4:(m.k==4)=false:=by simp;omega
     have y5:(m.k==5)=false:=by simp;omega
     have E:=I (show mgB m=reB m.re by rw[Z.o,kdB,if_neg m1,if_neg m2,if_pos m3]);clear m1 m2 m3
     go_wp2_with (first
      |(refine Az (by rfl) 57 (.tmp 22) (by rfl) w.heap.size 16 (by rfl) pr _ HA.o.r Tryz.underlying57 (by rfl) (by rw[HP.o.r.size];exact Dh) ?_)
      |(go_at_call 156;refine Ag (T3.o _) ?_;rintro w3 D;replace F:=F.t D;clear D T3)
      |fail)
     go_ret;exact⟨by rw[E.o];rfl,F.o⟩
    ·have ab:=m3
     by_cases m4:m.k=4
     ·have y1:(m.k==1)=false:=by simp;omega
      have y2:(m.k==2)=false:=by simp;omega
      have y3:(m.k==3)=false:=by simp;omega
      have y4:(m.k==4)=true:=by simpa using m4
      have y5:(m.k==5)=false:=by simp;omega
      have E:=I (show mgB m=apB m.ap by rw[Z.o,kdB,if_neg m1,if_neg m2,if_neg m3,if_pos m4]);clear m1 m2 m3 m4
      go_wp2_with (first
       |(refine Az (by rfl) 59 (.tmp 27) (by rfl) w.heap.size 23 (by rfl) pp _ HA.o.p Tryz.underlying59 (by rfl) (by rw[HP.o.p.size];exact DE) ?_)
       |(go_at_call 157;refine Ag (T4.o _) ?_;rintro w3 D;replace F:=F.t D;clear D T4)
       |fail)
      go_ret;exact⟨by rw[E.o];rfl,F.o⟩
     ·have ad:=m4
      by_cases m5:m.k=5
      ·have y1:(m.k==1)=false:=by simp;omega
       have y2:(m.k==2)=false:=by simp;omega
       have y3:(m.k==3)=false:=by simp;omega
       have y4:(m.k==4)=false:=by simp;omega
       have y5:(m.k==5)=true:=by simpa using m5
       have E:=I (show mgB m=faB m.fa by rw[Z.o,kdB,if_neg m1,if_neg m2,if_neg m3,if_neg m4,if_pos m5]);clear m1 m2 m3 m4 m5
       go_wp2_with (first
        |(refine Az (by rfl) 61 (.tmp 32) (by rfl) w.heap.size 28 (by rfl) pf _ HA.o.f Tryz.underlying61 (by rfl) (by rw[HP.o.f.size];exact Ff) ?_)
        |(go_at_call 158;refine Ag (T5.o _) ?_;rintro w3 D;replace F:=F.t D;clear D T5)
        |fail)
       go_ret;exact⟨by rw[E.o];rfl,F.o⟩
      ·have ag:=m5
       have y1:(m.k==1)=false:=by simp;omega
       have y2:(m.k==2)=false:=by simp;omega
       have y3:(m.k==3)=false:=by simp;omega
       have y4:(m.k==4)=false:=by simp;omega
       have y5:(m.k==5)=false:=by simp;omega
       have E:=I (show mgB m=false by rw[Z.o,kdB,if_neg m1,if_neg m2,if_neg m3,if_neg m4,if_neg m5]);clear m1 m2 m3 m4 m5
       go_wp2
       go_ret;exact⟨by rw[E.o];rfl,F.o⟩
theorem Oq (cs:Array Value) (m:Mg) (w:World) (h:MgV w w.heap.size cs m) (hx:mgB m=true):Calls Tryz.prog 111 #[.agg cs] w (BS w (mgE m)):=by
 obtain⟨pa,pt,pr,pp,pf,hc,hp⟩:=h;obtain⟨W,eW⟩:=Ah (w.alloc (.cells cs 63));have HK:=I (show Blk W w.heap.size 63 (mgA m.k pa pt pr pp pf) by rw[eW,<-hc];exact Blk.new _ _ _);have HB:=I (show Below w.heap.size w W by rw[eW];exact Af.alloc Ae _);have HA:=I (hp.at_ HK.o);have k0:=HA.o.k;have HP:=I hp;clear hc;rcases Ge hx with⟨Z,e⟩ | ⟨Z,e⟩ | ⟨Z,e⟩ | ⟨Z,e⟩ | ⟨Z,e⟩
 ·have hk:m.k=1:=by rw[e]
  have y1:(m.k==1)=true:=by rw[hk];rfl
  have y2:(m.k==2)=false:=by rw[hk];rfl
  have y3:(m.k==3)=false:=by rw[hk];rfl
  have y4:(m.k==4)=false:=by rw[hk];rfl
  have y5:(m.k==5)=false:=by rw[hk];rfl
  have E:=I (show mgE m=asE m.aq by rw[e];rfl);have X:=I (fun F (h:Below w.heap.size w F)=>VL F hp.a Z);rw[E.o];clear hx Z e hk hp E;go_enter Tryz.func111,Tryz.ntmps111
  go_upto_region 1 with fail
  rw[<-eW];clear eW
  go_wp2_with (first
   |(refine Az (by rfl) 51 (.tmp 7) (by rfl) w.heap.size 1 (by rfl) pa _ HA.o.a Tryz.underlying51 (by rfl) (by rw[HP.o.a.size];exact Ch) ?_)
   |(go_at_call 159;refine Calls.mono (X.o _ HB.o) ?_;rintro e w3 ⟨⟨g,c,rfl,D,Y,M⟩,O⟩;have HG:=I (Ba (l:=asE m.aq) ⟨⟨g,c,rfl,D,Y,M⟩,O⟩ HB.o);clear D Y M O X)
   |fail)
  go_ret;exact HG.o
 ·have hk:m.k=2:=by rw[e]
  have y1:(m.k==1)=false:=by rw[hk];rfl
  have y2:(m.k==2)=true:=by rw[hk];rfl
  have y3:(m.k==3)=false:=by rw[hk];rfl
  have y4:(m.k==4)=false:=by rw[hk];rfl
  have y5:(m.k==5)=false:=by rw[hk];rfl
  have E:=I (show mgE m=tgE m.tg by rw[e];rfl);have X:=I (fun F (h:Below w.heap.size w F)=>VM F ((hp.t.keep h).more h.size) Z);rw[E.o];clear hx Z e hk hp E;go_enter Tryz.func111,Tryz.ntmps111
  go_upto_region 1 with fail
  rw[<-eW];clear eW
  go_wp2_with (first
   |(refine Az (by rfl) 55 (.tmp 12) (by rfl) w.heap.size 7 (by rfl) pt _ HA.o.t Tryz.underlying55 (by rfl) (by rw[HP.o.t.size];exact BG) ?_)
   |(go_at_call 160;refine Calls.mono (X.o _ HB.o) ?_;rintro e w3 ⟨⟨g,c,rfl,D,Y,M⟩,O⟩;have HG:=I (Ba (l:=tgE m.tg) ⟨⟨g,c,rfl,D,Y,M⟩,O⟩ HB.o);clear D Y M O X)
   |fail)
  go_ret;exact HG.o
 ·have hk:m.k=3:=by rw[e]
  have y1:(m.k==1)=false:=by rw[hk];rfl
  have y2:(m.k==2)=false:=by rw[hk];rfl
  have y3:(m.k==3)=true:=by rw[hk];rfl
  have y4:(m.k==4)=false:=by rw[hk];rfl
  have y5:(m.k==5)=false:=by rw[hk];rfl
  have E:=I (show mgE m=reE m.re by rw[e];rfl);have X:=I (fun F (h:Below w.heap.size w F)=>VN F ((hp.r.keep h).more h.size) Z);rw[E.o];clear hx Z e hk hp E;go_enter Tryz.func111,Tryz.ntmps111
  go_upto_region 1 with fail
  rw[<-eW];clear eW
  go_wp2_with (first
   |(refine Az (by rfl) 57 (.tmp 17) (by rfl) w.heap.size 16 (by rfl) pr _ HA.o.r Tryz.underlying57 (by rfl) (by rw[HP.o.r.size];exact Dh) ?_)
   |(go_at_call 161;refine Calls.mono (X.o _ HB.o) ?_;rintro e w3 ⟨⟨g,c,rfl,D,Y,M⟩,O⟩;have HG:=I (Ba (l:=reE m.re) ⟨⟨g,c,rfl,D,Y,M⟩,O⟩ HB.o);clear D Y M O X)
   |fail)
  go_ret;exact HG.o
 ·have hk:m.k=4:=by rw[e]
  have y1:(m.k==1)=false:=by rw[hk];rfl
  have y2:(m.k==2)=false:=by rw[hk];rfl
  have y3:(m.k==3)=false:=by rw[hk];rfl
  have y4:(m.k==4)=true:=by rw[hk];rfl
  have y5:(m.k==5)=false:=by rw[hk];rfl
  have E:=I (show mgE m=apE m.ap by rw[e];rfl);have X:=I (fun F (h:Below w.heap.size w F)=>VO F ((hp.p.keep h).more h.size) Z);rw[E.o];clear hx Z e hk hp E;go_enter Tryz.func111,Tryz.ntmps111
  go_upto_region 1 with fail
  rw[<-eW];clear eW
  go_wp2_with (first
   |(refine Az (by rfl) 59 (.tmp 22) (by rfl) w.heap.size 23 (by rfl) pp _ HA.o.p Tryz.underlying59 (by rfl) (by rw[HP.o.p.size];exact DE) ?_)
   |(go_at_call 162;refine Calls.mono (X.o _ HB.o) ?_;rintro e w3 ⟨⟨g,c,rfl,D,Y,M⟩,O⟩;have HG:=I (Ba (l:=apE m.ap) ⟨⟨g,c,rfl,D,Y,M⟩,O⟩ HB.o);clear D Y M O X)
   |fail)
  go_ret;exact HG.o
 ·have hk:m.k=5:=by rw[e]
  have y1:(m.k==1)=false:=by rw[hk];rfl
  have y2:(m.k==2)=false:=by rw[hk];rfl
  have y3:(m.k==3)=false:=by rw[hk];rfl
  have y4:(m.k==4)=false:=by rw[hk];rfl
  have y5:(m.k==5)=true:=by rw[hk];rfl
  have E:=I (show mgE m=faE m.fa by rw[e];rfl);have X:=I (fun F (h:Below w.heap.size w F)=>VP F hp.f);rw[E.o];clear hx Z e hk hp E;go_enter Tryz.func111,Tryz.ntmps111
  go_upto_region 1 with fail
  rw[<-eW];clear eW
  go_wp2_with (first
   |(refine Az (by rfl) 61 (.tmp 25) (by rfl) w.heap.size 28 (by rfl) pf _ HA.o.f Tryz.underlying61 (by rfl) (by rw[HP.o.f.size];exact Ff) ?_)
   |(go_at_call 163;refine Calls.mono (X.o _ HB.o) ?_;rintro e w3 ⟨⟨g,c,rfl,D,Y,M⟩,O⟩;have HG:=I (Ba (l:=faE m.fa) ⟨⟨g,c,rfl,D,Y,M⟩,O⟩ HB.o);clear D Y M O X)
   |fail)
  go_ret;exact HG.o
theorem XI {m:Mg} (X:mgB m=true):(mgE m).length<=2000:=by
 rcases Ge X with⟨F,e⟩ | ⟨F,e⟩ | ⟨F,e⟩ | ⟨F,e⟩ | ⟨F,e⟩
 ·have E:mgE m=asE m.aq:=by rw[e];rfl
  have D:prB m.aq.c=true/\prB m.aq.s=true/\tmB m.aq.t=true/\tmB m.aq.no=true:=by simpa [asB] using F
  have b1:=(AP D.1).1;have b2:=(AP D.2.1).1;have b3:=AB m.aq.t;have O:=AB m.aq.no;have:=Ax 106 [prE m.aq.c,prE m.aq.s,encI m.aq.t,encI m.aq.no].flatten;rw[E,asE];rw[IC] at this⊢;simp only[List.length_append] at this;omega
 ·have E:mgE m=tgE m.tg:=by rw[e];rfl
  have D:tkB m.tg.t=true/\Bv m.tg.a=true/\prB m.tg.s=true/\tmB m.tg.u=true/\tmB m.tg.no=true:=by simpa [tgB] using F
  have b1:=(BU D.1).1;have b2:=Ax 4 m.tg.a;have b3:=(AP D.2.2.1).1;have O:=AB m.tg.u;have Y:=AB m.tg.no;have M:=Bc D.2.1;have:=Ax 108 [tkE m.tg.t,elem 4 m.tg.a,prE m.tg.s,encI m.tg.u,encI m.tg.no].flatten;rw[E,tgE];rw[FG] at this⊢;simp only[List.length_append] at this;omega
 ·have E:mgE m=reE m.re:=by rw[e];rfl
  have D:prB m.re.c=true/\tkB m.re.t=true/\Bv m.re.b=true:=by simpa [reB] using F
  have b1:=(AP D.1).1;have b2:=(BU D.2.1).1;have b3:=Ax 4 m.re.b;have M:=Bc D.2.2;have:=Ax 107 [prE m.re.c,tkE m.re.t,elem 4 m.re.b].flatten;rw[E,reE];rw[Dz] at this⊢;simp only[List.length_append] at this;omega
 ·have E:mgE m=apE m.ap:=by rw[e];rfl
  have D:tkB m.ap.t=true/\Bv m.ap.a=true:=by simpa [apB] using F
  have b2:=(BU D.1).1;have b3:=Ax 4 m.ap.a;have M:=Bc D.2;have:=Ax 110 [tkE m.ap.t,elem 4 m.ap.a].flatten;rw[E,apE];rw[Dy] at this⊢;simp only[List.length_append] at this;omega
 ·have E:mgE m=faE m.fa:=by rw[e];rfl
  have b2:=AB m.fa.e;have b3:=AB m.fa.no;have:=Ax 126 [encI m.fa.e,encI m.fa.no].flatten;rw[E,faE];rw[Dy] at this⊢;simp only[List.length_append] at this;omega
theorem QP (D:Array Value) (m:Mg) (w:World) (h:MgV w w.heap.size D m) (hs:mSm m):Calls Tryz.prog 66 #[.agg D] w (EncR w (mgO m)):=by
 have HI:=I (show(Tryz.prog.info? 63).map (·.size)=some D.size by obtain⟨pa,pt,pr,pp,pf,hc,hp⟩:=h;rw[hc,hp.size];exact AQ);have I1:=I (fun X (h1:Below w.heap.size w X)=>QO D m X ((h.keep h1).more h1.size) hs);have T0:=I (fun(F:mgB m=true)=>fun X (h1:Below w.heap.size w X)=>Oq D m X ((h.keep h1).more h1.size) F);have M:=I (fun(F:mgB m=true)=>XI F);obtain⟨cs,aa⟩:∃cs:Array Value,cs=D:=⟨_,rfl⟩;rw[<-aa] at HI I1 T0⊢;clear aa;have O:=I ((Below.refl w.heap.size w).alloc Ae (.cells cs 63));have HK:=I (Blk.new w 63 cs);cases F:mgB m with
 |false=>
  rw[F] at I1;have E:=I (show mgO m=none by unfold mgO limO;rw[F];rfl);rw[E.o];clear F E T0 M hs h;go_enter Tryz.func66,Tryz.ntmps66
  go_wp2_with (first
   |(refine Ac (by rfl) 63 (.tmp 1) (by rfl) w.heap.size 0 (by rfl) cs _ (Ab HK.o) Tryz.underlying63 (by rfl) HI.o ?_)
   |(go_at_call 109;refine Ag (I1.o _ O.o) ?_;rintro X Z;replace O:=O.t Z;clear Z I1)
   |fail)
  go_ret2
  exact Gn O.o
 |true=>
  rw[F] at I1;have T1:=I (T0.o F);have Y:=M.o F;have E:=I (show mgO m=some (mgE m) from BA.2 ⟨F,Y,rfl⟩);rw[E.o];obtain⟨l,el⟩:=Ah (mgE m);rw[<-el] at T1 Y⊢;have LM:=I (fun A c X=>GN l A _ c X rfl Y);clear F E el Y T0 M hs h;go_enter Tryz.func66,Tryz.ntmps66
  go_wp2_with (first
   |(refine Ac (by rfl) 63 (.tmp 1) (by rfl) w.heap.size 0 (by rfl) cs _ (Ab HK.o) Tryz.underlying63 (by rfl) HI.o ?_)
   |(go_at_call 109;refine Ag (I1.o _ O.o) ?_;rintro X Z;replace HK:=I (HK.o.below Z);replace O:=O.t Z;clear Z I1)
   |(go_at_call 111;refine Calls.mono (T1.o _ O.o) ?_;rintro e w2 ⟨⟨g,c,rfl,h2,h3,h4⟩,Z⟩;have HG:=I (Ba (l:=l) ⟨⟨g,c,rfl,h2,h3,h4⟩,Z⟩ O.o);clear h2 h3 h4 Z T1)
   |(go_at_call 110;refine Ag (LM.o _ _ _) ?_;rintro wy rfl;clear LM)
   |fail)
  go_ret2
  exact Ft HG.o
end Mc
namespace Mc
open Go.RowKit Ad DerP DerC Ms
theorem Ot (g:Nat) (c:Option L) (w:World) (h:Cur w g c) (hs:(c.getD []).length<=100000):Calls Tryz.prog 105 #[.pointer (some ⟨g,0,none⟩)] w fun e w'=>∃z1,∃z2,e=.returned (.agg #[.string ⟨(tgQ c).1.t.s.1.toArray⟩,.string ⟨(tgQ c).1.t.s.2.toArray⟩,.int .i64 (tgQ c).1.t.k,z1,z2,.string ⟨(tgQ c).1.s.1.toArray⟩,.string ⟨(tgQ c).1.s.2.toArray⟩,.int .i64 (tgQ c).1.u,.int .i64 (tgQ c).1.no])/\OwnB w' w.heap.size z1 (tgQ c).1.t.b/\OwnB w' w.heap.size z2 (tgQ c).1.a/\Cur w' g (tgQ c).2/\w.grownBy w' (some g):=by
 obtain⟨W,eW⟩:=Ah (w.alloc (.cells #[.string ⟨#[]⟩,.string ⟨#[]⟩,.int .i64 0,.slice none 0 0,.slice none 0 0,.string ⟨#[]⟩,.string ⟨#[]⟩,.int .i64 0,.int .i64 0] 55));have aA:W.heap.size=w.heap.size+1:=by rw[eW];simp
 have E:=I (show Blk W w.heap.size 55 #[.string ⟨#[]⟩,.string ⟨#[]⟩,.int .i64 0,.slice none 0 0,.slice none 0 0,.string ⟨#[]⟩,.string ⟨#[]⟩,.int .i64 0,.int .i64 0] by rw[eW];exact Blk.new _ _ _);have au:=De h;have HC:=I (show Cur W g c by rw[eW];exact h.alloc _);have HG:=I (show w.grownBy W (some g) by rw[eW];exact Ce (World.grownBy.refl _ _) _);have af:=hs;obtain⟨s0,X⟩:∃s,s=c:=⟨_,rfl⟩;rw[<-X] at HC af;have F:=I au;have M:=I (show w.heap.size<W.heap.size by omega);have ai:(((tkQ s0).2).getD []).length<=100000:=Cn 97 af;have T1:=I (fun g w h=>DF g s0 w h af);obtain⟨v1,ah⟩:∃x:Tk,x=(tkQ s0).1:=⟨_,rfl⟩;obtain⟨s1,es1⟩:∃s,s=(tkQ s0).2:=⟨_,rfl⟩;rw[<-ah,<-es1] at T1;rw[<-es1] at ai;have ae:((AK 4 s1).getD []).length<=100000:=Cn 4 ai;have T2:=I (fun g w h=>Dx g s1 w h (by omega));obtain⟨v2,aj⟩:∃x:L,x=ocC s1:=⟨_,rfl⟩;obtain⟨s2,Y⟩:∃s,s=AK 4 s1:=⟨_,rfl⟩;rw[<-aj,<-Y] at T2;rw[<-Y] at ae;have ag:(((prQ s2).2).getD []).length<=100000:=Cn 48 ae;have T3:=I (fun g w h=>Cc g s2 w h ae);obtain⟨v3,ak⟩:∃x:Pr,x=(prQ s2).1:=⟨_,rfl⟩;obtain⟨s3,aa⟩:∃s,s=(prQ s2).2:=⟨_,rfl⟩;rw[<-ak,<-aa] at T3;rw[<-aa] at ag;have ao:(((intC s3).2).getD []).length<=100000:=Ef ag;have T4:=I (fun g w h=>BB g s3 w h (by omega));obtain⟨v4,an⟩:∃x:Int,x=((intC s3).1:Int):=⟨_,rfl⟩;obtain⟨s4,ab⟩:∃s,s=(intC s3).2:=⟨_,rfl⟩;rw[<-an,<-ab] at T4;rw[<-ab] at ao;have ax:(((intC s4).2).getD []).length<=100000:=Ef ao;have T5:=I (fun g w h=>BB g s4 w h (by omega));obtain⟨v5,al⟩:∃x:Int,x=((intC s4).1:Int):=⟨_,rfl⟩;obtain⟨s5,ad⟩:∃s,s=(intC s4).2:=⟨_,rfl⟩;rw[<-al,<-ad] at T5;rw[<-ad] at ax;have ay:=I (show(tgQ c).1.t=v1 by rw[ah,X];rfl);have az:=I (show(tgQ c).1.a=v2 by rw[aj,es1,X];rfl);have aw:=I (show(tgQ c).1.s=v3 by rw[ak,Y,es1,X];rfl);have ar:=I (show(tgQ c).1.u=v4 by rw[an,aa,Y,es1,X];rfl);have av:=I (show(tgQ c).1.no=v5 by rw[al,ab,aa,Y,es1,X];rfl);have FS:=I (show(tgQ c).2=s5 by rw[ad,ab,aa,Y,es1,X];rfl);rw[ay.o,az.o,aw.o,ar.o,av.o,FS.o];clear h hs af ai ae ag ao ax ay ah es1 az aj Y aw ak aa ar an ab av al ad X FS au;have aB:=I aA;clear aA;subst eW;go_enter Tryz.func105,Tryz.ntmps105
 go_wp2_with (first
  |(go_at_call 150;(with_reducible refine Calls.mono (T1.o _ _ HC.o) ?_);rintro e w1 ⟨y,rfl,ho,hd,D⟩;clear T1;replace ho:=ho.less (show w.heap.size+1<=_ from M.o);obtain⟨b1,c1,rfl,x1,x2,x3,x4⟩:=ho;have O:Hid (OwnB w1 (w.heap.size+1) (.slice (some ⟨b1,0,none⟩) _ c1) _):=I ⟨b1,c1,rfl,x1,x2,x3,x4⟩;clear x1 x2 x3 x4;replace HC:=I hd;replace E:=I (E.o.grown D (by intro e;injection e with e;have:=F.o;omega));replace HG:=I (Cw HG.o D);replace M:=I (Nat.lt_of_lt_of_le M.o D.size);clear hd D)
  |(go_at_call 151;(with_reducible refine Calls.mono (T2.o _ _ HC.o) ?_);rintro e w2 ⟨⟨y,rfl,ho⟩,hd,D⟩;clear T2;replace ho:=ho.less (show w.heap.size+1<=_ from M.o);obtain⟨b2,c2,rfl,x1,x2,x3,x4⟩:=ho;have Z:Hid (OwnB w2 (w.heap.size+1) (.slice (some ⟨b2,0,none⟩) _ c2) _):=I ⟨b2,c2,rfl,x1,x2,x3,x4⟩;clear x1 x2 x3 x4;replace HC:=I hd;replace O:=I (O.o.keep D (by have:=F.o;omega));replace E:=I (E.o.grown D (by intro e;injection e with e;have:=F.o;omega));replace HG:=I (Cw HG.o D);replace M:=I (Nat.lt_of_lt_of_le M.o D.size);clear hd D)
  |(go_at_call 148;(with_reducible refine Calls.mono (T3.o _ _ HC.o) ?_);rintro e w3 ⟨rfl,hd,D⟩;clear T3;replace HC:=I hd;replace O:=I (O.o.keep D (by have:=F.o;omega));replace Z:=I (Z.o.keep D (by have:=F.o;omega));replace E:=I (E.o.grown D (by intro e;injection e with e;have:=F.o;omega));replace HG:=I (Cw HG.o D);replace M:=I (Nat.lt_of_lt_of_le M.o D.size);clear hd D)
  |(go_at_call 149;(with_reducible refine Calls.mono (T4.o _ _ HC.o) ?_);rintro e w4 ⟨rfl,hd,D⟩;clear T4;replace HC:=I hd;replace O:=I (O.o.keep D (by have:=F.o;omega));replace Z:=I (Z.o.keep D (by have:=F.o;omega));replace E:=I (E.o.grown D (by intro e;injection e with e;have:=F.o;omega));replace HG:=I (Cw HG.o D);replace M:=I (Nat.lt_of_lt_of_le M.o D.size);clear hd D)
  |(go_at_call 149;(with_reducible refine Calls.mono (T5.o _ _ HC.o) ?_);rintro e w5 ⟨rfl,hd,D⟩;clear T5;replace HC:=I hd;replace O:=I (O.o.keep D (by have:=F.o;omega));replace Z:=I (Z.o.keep D (by have:=F.o;omega));replace E:=I (E.o.grown D (by intro e;injection e with e;have:=F.o;omega));replace HG:=I (Cw HG.o D);replace M:=I (Nat.lt_of_lt_of_le M.o D.size);clear hd D;have n0:w5.cell? ⟨w.heap.size,0,none⟩=some (.string ⟨#[]⟩):=E.o.cell 0;have y0:=E.o.frozen 0;have n1:w5.cell? ⟨w.heap.size,1,none⟩=some (.string ⟨#[]⟩):=E.o.cell 1;have y1:=E.o.frozen 1;have n2:w5.cell? ⟨w.heap.size,2,none⟩=some (.int .i64 0):=E.o.cell 2;have y2:=E.o.frozen 2;have n3:w5.cell? ⟨w.heap.size,3,none⟩=some (.slice none 0 0):=E.o.cell 3;have y3:=E.o.frozen 3;have n4:w5.cell? ⟨w.heap.size,4,none⟩=some (.slice none 0 0):=E.o.cell 4;have y4:=E.o.frozen 4;have n5:w5.cell? ⟨w.heap.size,5,none⟩=some (.string ⟨#[]⟩):=E.o.cell 5;have y5:=E.o.frozen 5;have n6:w5.cell? ⟨w.heap.size,6,none⟩=some (.string ⟨#[]⟩):=E.o.cell 6;have y6:=E.o.frozen 6;have n7:w5.cell? ⟨w.heap.size,7,none⟩=some (.int .i64 0):=E.o.cell 7;have y7:=E.o.frozen 7;have n8:w5.cell? ⟨w.heap.size,8,none⟩=some (.int .i64 0):=E.o.cell 8;have y8:=E.o.frozen 8)
  |fail)
 have hE:Blk (((((((((w5.setCell ⟨w.heap.size,0,none⟩ (.string ⟨v1.s.1.toArray⟩)).setCell ⟨w.heap.size,1,none⟩ (.string ⟨v1.s.2.toArray⟩)).setCell ⟨w.heap.size,2,none⟩ (.int .i64 v1.k)).setCell ⟨w.heap.size,3,none⟩ (.slice (some ⟨b1,0,none⟩) v1.b.length c1)).setCell ⟨w.heap.size,4,none⟩ (.slice (some ⟨b2,0,none⟩) v2.length c2)).setCell ⟨w.heap.size,5,none⟩ (.string ⟨v3.1.toArray⟩)).setCell ⟨w.heap.size,6,none⟩ (.string ⟨v3.2.toArray⟩)).setCell ⟨w.heap.size,7,none⟩ (.int .i64 v4)).setCell ⟨w.heap.size,8,none⟩ (.int .i64 v5)) w.heap.size 55 #[.string ⟨v1.s.1.toArray⟩,.string ⟨v1.s.2.toArray⟩,.int .i64 v1.k,.slice (some ⟨b1,0,none⟩) v1.b.length c1,.slice (some ⟨b2,0,none⟩) v2.length c2,.string ⟨v3.1.toArray⟩,.string ⟨v3.2.toArray⟩,.int .i64 v4,.int .i64 v5]:=(((((((((E.o.set 0 (.string ⟨v1.s.1.toArray⟩)).set 1 (.string ⟨v1.s.2.toArray⟩)).set 2 (.int .i64 v1.k)).set 3 (.slice (some ⟨b1,0,none⟩) v1.b.length c1)).set 4 (.slice (some ⟨b2,0,none⟩) v2.length c2)).set 5 (.string ⟨v3.1.toArray⟩)).set 6 (.string ⟨v3.2.toArray⟩)).set 7 (.int .i64 v4)).set 8 (.int .i64 v5));have hp:=(Ay (Ay (Ay (Ay (Ay (Ay (Ay (Ay (Ay (World.grownBy.refl w5 (some w.heap.size)) (p:=⟨w.heap.size,0,none⟩) (.inl rfl) (.string ⟨v1.s.1.toArray⟩)) (p:=⟨w.heap.size,1,none⟩) (.inl rfl) (.string ⟨v1.s.2.toArray⟩)) (p:=⟨w.heap.size,2,none⟩) (.inl rfl) (.int .i64 v1.k)) (p:=⟨w.heap.size,3,none⟩) (.inl rfl) (.slice (some ⟨b1,0,none⟩) v1.b.length c1)) (p:=⟨w.heap.size,4,none⟩) (.inl rfl) (.slice (some ⟨b2,0,none⟩) v2.length c2)) (p:=⟨w.heap.size,5,none⟩) (.inl rfl) (.string ⟨v3.1.toArray⟩)) (p:=⟨w.heap.size,6,none⟩) (.inl rfl) (.string ⟨v3.2.toArray⟩)) (p:=⟨w.heap.size,7,none⟩) (.inl rfl) (.int .i64 v4)) (p:=⟨w.heap.size,8,none⟩) (.inl rfl) (.int .i64 v5));have hq:=Am (P:=Tryz.prog) hE Tryz.underlying55 rfl (by kernel_rfl);refine bodyPost_ret (v:=.agg #[.string ⟨v1.s.1.toArray⟩,.string ⟨v1.s.2.toArray⟩,.int .i64 v1.k,.slice (some ⟨b1,0,none⟩) v1.b.length c1,.slice (some ⟨b2,0,none⟩) v2.length c2,.string ⟨v3.1.toArray⟩,.string ⟨v3.2.toArray⟩,.int .i64 v4,.int .i64 v5]) ?_ ?_ ?_
 ·exact Aj 2 55 ⟨w.heap.size,0,none⟩ Tryz.results105 rfl hq
 ·rfl
 exact⟨_,_,rfl,(O.o.keep hp (by omega)).less (by omega),(Z.o.keep hp (by omega)).less (by omega),CJ HC.o hp (by have:=F.o;omega),Fy HG.o hp Ae⟩
def OwnN (w:World) (base:Nat) (v:Value) (l:L):Prop:=(v=.slice none 0 0/\l = [])\/OwnB w base v l
section
variable {w w':World} {base base' g:Nat} {v:Value} {l:L} {cs:Array Value}
theorem OwnN.keep (h:OwnN w base v l) (E:w.grownBy w' (some g)) (D:g<base):OwnN w' base v l:=h.imp id fun h=>h.keep E D
theorem OwnN.below (h:OwnN w base v l) (D:Below w.heap.size w w'):OwnN w' base v l:=h.imp id fun h=>h.below D
theorem OwnN.less (h:OwnN w base v l) (D:base'<=base):OwnN w base' v l:=h.imp id fun h=>h.less D
theorem OwnN.slb (h:OwnN w base v l):SlB w w.heap.size v l:=by
 rcases h with⟨rfl,rfl⟩ | h
 ·exact SlB.nil _ _
 ·exact h.slb
def TgO (w:World) (B:Nat) (cs:Array Value) (q:Tg):Prop:=∃b a,cs=(tgC q b a).toArray/\OwnN w B b q.t.b/\OwnN w B a q.a
def ReO (w:World) (B:Nat) (cs:Array Value) (q:Re):Prop:=∃b a,cs=(reC q b a).toArray/\OwnN w B b q.t.b/\OwnN w B a q.b
def ApO (w:World) (B:Nat) (cs:Array Value) (q:Ap):Prop:=∃b a,cs=(apC q b a).toArray/\OwnN w B b q.t.b/\OwnN w B a q.a
theorem TgO.keep {q:Tg} (h:TgO w base cs q) (E:w.grownBy w' (some g)) (D:g<base):TgO w' base cs q:=by obtain⟨b,a,M,F,O⟩:=h;exact⟨b,a,M,F.keep E D,O.keep E D⟩
theorem TgO.below {q:Tg} (h:TgO w base cs q) (D:Below w.heap.size w w'):TgO w' base cs q:=by obtain⟨b,a,F,E,M⟩:=h;exact⟨b,a,F,E.below D,M.below D⟩
theorem TgO.less {q:Tg} (h:TgO w base cs q) (D:base'<=base):TgO w base' cs q:=by obtain⟨b,a,F,E,M⟩:=h;exact⟨b,a,F,E.less D,M.less D⟩
theorem TgO.toV {q:Tg} (h:TgO w base cs q):TgV w w.heap.size cs q:=by obtain⟨b,a,E,D,F⟩:=h;exact⟨b,a,E,D.slb,F.slb⟩
theorem ReO.keep {q:Re} (h:ReO w base cs q) (E:w.grownBy w' (some g)) (D:g<base):ReO w' base cs q:=by obtain⟨b,a,M,F,O⟩:=h;exact⟨b,a,M,F.keep E D,O.keep E D⟩
theorem ReO.below {q:Re} (h:ReO w base cs q) (D:Below w.heap.size w w'):ReO w' base cs q:=by obtain⟨b,a,F,E,M⟩:=h;exact⟨b,a,F,E.below D,M.below D⟩
theorem ReO.less {q:Re} (h:ReO w base cs q) (D:base'<=base):ReO w base' cs q:=by obtain⟨b,a,F,E,M⟩:=h;exact⟨b,a,F,E.less D,M.less D⟩
theorem ReO.toV {q:Re} (h:ReO w base cs q):ReV w w.heap.size cs q:=by obtain⟨b,a,E,D,F⟩:=h;exact⟨b,a,E,D.slb,F.slb⟩
theorem ApO.keep {q:Ap} (h:ApO w base cs q) (E:w.grownBy w' (some g)) (D:g<base):ApO w' base cs q:=by obtain⟨b,a,M,F,O⟩:=h;exact⟨b,a,M,F.keep E D,O.keep E D⟩
theorem ApO.below {q:Ap} (h:ApO w base cs q) (D:Below w.heap.size w w'):ApO w' base cs q:=by obtain⟨b,a,F,E,M⟩:=h;exact⟨b,a,F,E.below D,M.below D⟩
theorem ApO.less {q:Ap} (h:ApO w base cs q) (D:base'<=base):ApO w base' cs q:=by obtain⟨b,a,F,E,M⟩:=h;exact⟨b,a,F,E.less D,M.less D⟩
theorem ApO.toV {q:Ap} (h:ApO w base cs q):ApV w w.heap.size cs q:=by obtain⟨b,a,E,D,F⟩:=h;exact⟨b,a,E,D.slb,F.slb⟩
structure MpO (w:World) (B:Nat) (pa pt pr pp pf:Array Value) (m:Mg):Prop where
 a:AsV pa m.aq
 t:TgO w B pt m.tg
 r:ReO w B pr m.re
 p:ApO w B pp m.ap
 f:FaV pf m.fa
def MgO (w:World) (B:Nat) (cs:Array Value) (m:Mg):Prop:=∃pa pt pr pp pf,cs=mgA m.k pa pt pr pp pf/\MpO w B pa pt pr pp pf m
variable {pa pt pr pp pf:Array Value} {m:Mg}
theorem MpO.toV (h:MpO w base pa pt pr pp pf m):MgP w w.heap.size pa pt pr pp pf m:=⟨h.a,h.t.toV,h.r.toV,h.p.toV,h.f⟩
theorem MpO.keep (h:MpO w base pa pt pr pp pf m) (E:w.grownBy w' (some g)) (D:g<base):MpO w' base pa pt pr pp pf m:=⟨h.a,h.t.keep E D,h.r.keep E D,h.p.keep E D,h.f⟩
theorem MpO.below (h:MpO w base pa pt pr pp pf m) (D:Below w.heap.size w w'):MpO w' base pa pt pr pp pf m:=⟨h.a,h.t.below D,h.r.below D,h.p.below D,h.f⟩
theorem MpO.less (h:MpO w base pa pt pr pp pf m) (D:base'<=base):MpO w base' pa pt pr pp pf m:=⟨h.a,h.t.less D,h.r.less D,h.p.less D,h.f⟩
theorem MgO.toV (h:MgO w base cs m):MgV w w.heap.size cs m:=by obtain⟨pa,pt,pr,pp,pf,E,D⟩:=h;exact⟨pa,pt,pr,pp,pf,E,D.toV⟩
theorem MgO.keep (h:MgO w base cs m) (F:w.grownBy w' (some g)) (D:g<base):MgO w' base cs m:=by obtain⟨pa,pt,pr,pp,pf,M,E⟩:=h;exact⟨pa,pt,pr,pp,pf,M,E.keep F D⟩
theorem MgO.below (h:MgO w base cs m) (E:Below w.heap.size w w'):MgO w' base cs m:=by obtain⟨pa,pt,pr,pp,pf,F,D⟩:=h;exact⟨pa,pt,pr,pp,pf,F,D.below E⟩
theorem MgO.less (h:MgO w base cs m) (E:base'<=base):MgO w base' cs m:=by obtain⟨pa,pt,pr,pp,pf,F,D⟩:=h;exact⟨pa,pt,pr,pp,pf,F,D.less E⟩
theorem MgO.size (h:MgO w base cs m):cs.size=30:=by obtain⟨pa,pt,pr,pp,pf,E,D⟩:=h;rw[E];exact D.toV.size m.k
theorem MgO.one (h:MgO w base cs m):One cs:=by obtain⟨pa,pt,pr,pp,pf,E,D⟩:=h;rw[E];exact D.toV.one m.k
end
theorem zT_o (w:World) (B:Nat):TgO w B zT tg0:=⟨_,_,rfl,.inl ⟨rfl,rfl⟩,.inl ⟨rfl,rfl⟩⟩
theorem zR_o (w:World) (B:Nat):ReO w B zR re0:=⟨_,_,rfl,.inl ⟨rfl,rfl⟩,.inl ⟨rfl,rfl⟩⟩
theorem zP_o (w:World) (B:Nat):ApO w B zP ap0:=⟨_,_,rfl,.inl ⟨rfl,rfl⟩,.inl ⟨rfl,rfl⟩⟩
theorem zM_o (w:World) (B:Nat) (k:Int):MpO w B zA zT zR zP zF ⟨k,as0,tg0,re0,ap0,fa0⟩:=⟨zA_v,zT_o w B,zR_o w B,zP_o w B,zF_v⟩
section
variable (g:Nat) (c:Option L) (w:World) (h:Cur w g c) (hs:(c.getD []).length<=100000)
include h hs
theorem Td:Calls Tryz.prog 104 #[.pointer (some ⟨g,0,none⟩)] w fun e w'=>∃ps,e=.returned (.agg ps)/\AsV ps (asQ c).1/\w.grownBy w' (some g):=
 (Oi g c w h hs).mono fun e w' E=>by obtain⟨rfl,_,D⟩:=E;exact⟨_,rfl,rfl,D⟩
theorem Te:Calls Tryz.prog 105 #[.pointer (some ⟨g,0,none⟩)] w fun e w'=>∃ps,e=.returned (.agg ps)/\TgO w' w.heap.size ps (tgQ c).1/\w.grownBy w' (some g):=
 (Ot g c w h hs).mono fun e w' E=>by obtain⟨O,X,rfl,M,F,_,D⟩:=E;exact⟨_,rfl,⟨_,_,rfl,.inr M,.inr F⟩,D⟩
theorem Tf:Calls Tryz.prog 106 #[.pointer (some ⟨g,0,none⟩)] w fun e w'=>∃ps,e=.returned (.agg ps)/\ReO w' w.heap.size ps (reQ c).1/\w.grownBy w' (some g):=
 (Oj g c w h hs).mono fun e w' E=>by obtain⟨O,X,rfl,M,F,_,D⟩:=E;exact⟨_,rfl,⟨_,_,rfl,.inr M,.inr F⟩,D⟩
theorem Th:Calls Tryz.prog 107 #[.pointer (some ⟨g,0,none⟩)] w fun e w'=>∃ps,e=.returned (.agg ps)/\ApO w' w.heap.size ps (apQ c).1/\w.grownBy w' (some g):=
 (Ok g c w h hs).mono fun e w' E=>by obtain⟨O,X,rfl,M,F,_,D⟩:=E;exact⟨_,rfl,⟨_,_,rfl,.inr M,.inr F⟩,D⟩
theorem Ti:Calls Tryz.prog 108 #[.pointer (some ⟨g,0,none⟩)] w fun e w'=>∃ps,e=.returned (.agg ps)/\FaV ps (faQ c).1/\w.grownBy w' (some g):=
 (Ol g c w h hs).mono fun e w' E=>by obtain⟨rfl,_,D⟩:=E;exact⟨_,rfl,rfl,D⟩
end
theorem MR {ps:Array Value} {q:As} (h:AsV ps q):Tryz.prog.built 63 [(0,.int .i64 1),(1,.agg ps)]=some (mgA 1 ps zT zR zP zF):=by rw[h];kernel_rfl
theorem Tj {w:World} {B:Nat} {ps:Array Value} {q:Tg} (h:TgO w B ps q):Tryz.prog.built 63 [(0,.int .i64 2),(2,.agg ps)]=some (mgA 2 zA ps zR zP zF):=by obtain⟨b,a,rfl,_⟩:=h;kernel_rfl
theorem Tl {w:World} {B:Nat} {ps:Array Value} {q:Re} (h:ReO w B ps q):Tryz.prog.built 63 [(0,.int .i64 3),(3,.agg ps)]=some (mgA 3 zA zT ps zP zF):=by obtain⟨b,a,rfl,_⟩:=h;kernel_rfl
theorem Tm {w:World} {B:Nat} {ps:Array Value} {q:Ap} (h:ApO w B ps q):Tryz.prog.built 63 [(0,.int .i64 4),(4,.agg ps)]=some (mgA 4 zA zT zR ps zF):=by obtain⟨b,a,rfl,_⟩:=h;kernel_rfl
theorem Tn {ps:Array Value} {q:Fa} (h:FaV ps q):Tryz.prog.built 63 [(0,.int .i64 5),(5,.agg ps)]=some (mgA 5 zA zT zR zP ps):=by rw[h];kernel_rfl
theorem GR:Tryz.prog.built 63 []=some (mgA 0 zA zT zR zP zF):=by kernel_rfl
theorem LS (A:Option Addr) (b:L) (cap:Nat) (w:World) (h:Rd w w.heap.size A (bvs b)) (hs:b.length<=100000):Calls Tryz.prog 65 #[.slice A b.length cap] w fun e w'=>∃ds,e=.returned (.agg ds)/\MgO w' w.heap.size ds (mgQ b)/\Below w.heap.size w w':=by
 obtain⟨zz,ad⟩:∃z:Array Value,z=#[.int .i64 0,.string ⟨#[]⟩,.string ⟨#[]⟩,.string ⟨#[]⟩,.string ⟨#[]⟩,.int .i64 0,.int .i64 0,.string ⟨#[]⟩,.string ⟨#[]⟩,.int .i64 0,.slice none 0 0,.slice none 0 0,.string ⟨#[]⟩,.string ⟨#[]⟩,.int .i64 0,.int .i64 0,.string ⟨#[]⟩,.string ⟨#[]⟩,.string ⟨#[]⟩,.string ⟨#[]⟩,.int .i64 0,.slice none 0 0,.slice none 0 0,.string ⟨#[]⟩,.string ⟨#[]⟩,.int .i64 0,.slice none 0 0,.slice none 0 0,.int .i64 0,.int .i64 0]:=⟨_,rfl⟩;have ar:zz=mgA 0 zA zT zR zP zF:=by rw[ad];rfl
 have af:=I (show zz.size=30 by rw[ar];exact(zM_v w 0 0).size 0);obtain⟨W,eW⟩:=Ah (w.alloc (.cells zz 63));have ah:=I (show W.heap.size=w.heap.size+1 by rw[eW];simp);have F:=I (show Blk W w.heap.size 63 zz by rw[eW];exact Blk.new _ _ _);have D:=I (show Below w.heap.size w W by rw[eW];exact Af.alloc Ae _);clear ar;cases b with
 |nil=>
  have EQ:=I (show mgQ []=⟨0,as0,tg0,re0,ap0,fa0⟩ from rfl);have E:=I ((zM_v w 0 0).size 0);have ag:=I ((zM_v w 0 0).one 0);clear h hs;go_enter Tryz.func65,Tryz.ntmps65
  go_upto_region 1 with fail
  rw[<-ad,<-eW];clear ad eW
  go_wp2_with (first
   |(refine Au (by rfl) 63 #[] (by rfl) (mgA 0 zA zT zR zP zF) GR ?_)
   |(refine wpList_store_mid (by rfl) 63 (.tmp 2) (.tmp 7) (by rfl) w.heap.size 0 (mgA 0 zA zT zR zP zF) (by rfl) (by rfl) (Ak F.o _ (by rw[E.o];have:=af.o;omega)) (by rw[E.o];exact AQ) ag.o ?_)
   |fail)
  have hE:=AE (ds:=mgA 0 zA zT zR zP zF) F.o (by rw[E.o];exact af.o);have hp:=AJ W w.heap.size (mgA 0 zA zT zR zP zF).toList;have hq:=Am (P:=Tryz.prog) hE Tryz.underlying63 rfl (by rw[E.o];exact AQ);refine bodyPost_ret (v:=.agg (mgA 0 zA zT zR zP zF)) ?_ ?_ ?_
  ·exact Aj 2 63 ⟨w.heap.size,0,none⟩ Tryz.results65 rfl hq
  ·rfl
  refine⟨_,rfl,?_,Al D.o hp (by have:=F.o.lt;omega) Ae⟩;rw[EQ.o];exact⟨zA,zT,zR,zP,zF,rfl,⟨zA_v,zT_o _ _,zR_o _ _,zP_o _ _,zF_v⟩⟩
 |cons t r=>
  obtain⟨bb,oo,rfl,au,ab⟩:∃bb oo,A=some ⟨bb,oo,none⟩/\bb<w.heap.size/\w.cell? ⟨bb,oo,none⟩=some (.int .u8 (t.toNat:Int)):=by
   obtain⟨bb,oo,rfl,h1,h2⟩:=h.at_ (i:=0) (u:=bv t) rfl;exact⟨bb,oo,rfl,h1,h2⟩
  have ai:=I (fun w1 (h1:Below w.heap.size w w1)=>show w1.cell? ⟨bb,oo,none⟩=some (.int .u8 (t.toNat:Int)) from(h1.cell (p:=⟨bb,oo,none⟩) au).trans ab);have hu:=By t;have c0:=I (fun w1 (h1:Below w.heap.size w w1)=>ML w1.heap.size (some ⟨bb,oo,none⟩) (t :: r) (t :: r).length cap w1 ((h.below h1).more h1.size) rfl);have ao:((some (t :: r):Option L).getD []).length<=100000:=hs;have c1:=I (fun g w1 h=>Ho t g (some (t :: r)) w1 h (by omega));have aa:=FD t ao;have HL:=I (show(0:Int)<(((t :: r).length:Nat):Int) by simp)
  by_cases m1:t=106
  ·have d1:((t.toNat:Int)==106)=true:=by rw[m1];rfl
   have EQ:=I (show mgQ (t :: r)=⟨1,(asQ (Ar t (some (t :: r)))).1,tg0,re0,ap0,fa0⟩ by subst m1;rfl);obtain⟨s0,ae⟩:∃s,s=Ar t (some (t :: r)):=⟨_,rfl⟩;rw[<-ae] at c1 aa EQ;have T1:=I (fun g w1 h=>Td g s0 w1 h aa);clear ae aa ao hs h ab hu m1;go_enter Tryz.func65,Tryz.ntmps65
   go_upto_region 1 with fail
   rw[<-ad,<-eW];clear ad eW
   go_upto_region 3 with fail
   replace F:=I (show Blk W.drew _ _ _ from F.o.drewN 1);replace D:=I (show Below _ _ W.drew from below_drewN D.o 1)
   go_region_held3 (fun w'=>w'.cell? ⟨bb,oo,none⟩=some (.int .u8 (t.toNat:Int))) (exact ai.o _ D.o) ((first
    |(go_at_call 102;refine Calls.mono (c0.o _ D.o) ?_;rintro e wo ⟨go,rfl,ak,Y,hb⟩;clear c0;have HC:=I Y;have O:=I (show w.heap.size+1<=go by have:=ah.o;have:W.drew.heap.size=W.heap.size:=rfl;omega);replace F:=I (F.o.below hb);replace D:=D.t hb;have Z:=I (show w.heap.size+1<=wo.heap.size by have:=hb.size;have:=ah.o;have:W.drew.heap.size=W.heap.size:=rfl;omega);clear ak Y hb)
    |(go_at_call 103;refine Calls.mono (c1.o _ _ HC.o) ?_;rintro e wi ⟨⟨gd,rfl,aj,hd⟩,hc,X⟩;clear c1 HC;have HD:=I hd;have M:=I (show w.heap.size+1<=gd by have:=Z.o;omega);have an:=I (De hd);replace F:=I (F.o.grown X (by intro e;injection e with e;have:=O.o;omega));replace D:=I (Al D.o X D.o.size (by have:=O.o;omega));clear aj hd hc X Z O)))
   have k9:=ai.o _ D.o
   go_wp2_with (first
    |(go_at_call 104;refine Calls.mono (T1.o _ _ HD.o) ?_;rintro e w3 ⟨ps,rfl,ho,X⟩;clear T1 HD;replace F:=I (F.o.grown X (by intro e;injection e with e;have:=M.o;omega));replace D:=I (Al D.o X D.o.size (by have:=M.o;omega));have al:=I (MR ho);have HM:=I (show MpO w3 (gd+1) ps zT zR zP zF ⟨1,(asQ s0).1,tg0,re0,ap0,fa0⟩ from⟨ho,zT_o _ _,zR_o _ _,zP_o _ _,zF_v⟩);have E:=I (HM.o.toV.size 1);have ag:=I (HM.o.toV.one 1);clear X ho)
    |(refine Au (by rfl) 63 #[(0,.const (.int .i64 1)),(1,.tmp 20)] (by rfl) (mgA 1 ps zT zR zP zF) (by simp only[List.map_toArray,List.map_cons,List.map_nil];exact al.o) ?_)
    |(refine wpList_store_mid (by rfl) 63 (.tmp 2) (.tmp 21) (by rfl) w.heap.size 0 (mgA 1 ps zT zR zP zF) (by rfl) (by rfl) (Ak F.o _ (by rw[E.o];have:=af.o;omega)) (by rw[E.o];exact AQ) ag.o ?_)
    |fail)
   have hE:=AE (ds:=mgA 1 ps zT zR zP zF) F.o (by rw[E.o];exact af.o);have hp:=AJ w3 w.heap.size (mgA 1 ps zT zR zP zF).toList;have hq:=Am (P:=Tryz.prog) hE Tryz.underlying63 rfl (by rw[E.o];exact AQ);refine bodyPost_ret (v:=.agg (mgA 1 ps zT zR zP zF)) ?_ ?_ ?_
   ·exact Aj 2 63 ⟨w.heap.size,0,none⟩ Tryz.results65 rfl hq
   ·rfl
   refine⟨_,rfl,?_,Al D.o hp (by have:=F.o.lt;omega) Ae⟩;rw[EQ.o];exact⟨ps,zT,zR,zP,zF,rfl,(HM.o.keep hp (by have:=M.o;omega)).less (by have:=M.o;omega)⟩
  ·have d1:((t.toNat:Int)==106)=false:=by simp;intro e;exact m1 (UInt8.toNat_inj.1 (by rw[show(106:UInt8).toNat=106 from rfl];omega))
   by_cases m2:t=108
   ·have d2:((t.toNat:Int)==108)=true:=by rw[m2];rfl
    have EQ:=I (show mgQ (t :: r)=⟨2,as0,(tgQ (Ar t (some (t :: r)))).1,re0,ap0,fa0⟩ by subst m2;rfl);obtain⟨s0,ae⟩:∃s,s=Ar t (some (t :: r)):=⟨_,rfl⟩;rw[<-ae] at c1 aa EQ;have T1:=I (fun g w1 h=>Te g s0 w1 h aa);clear ae aa ao hs h ab hu m1 m2;go_enter Tryz.func65,Tryz.ntmps65
    go_upto_region 1 with fail
    rw[<-ad,<-eW];clear ad eW
    go_upto_region 3 with fail
    replace F:=I (show Blk W.drew _ _ _ from F.o.drewN 1);replace D:=I (show Below _ _ W.drew from below_drewN D.o 1)
    go_region_held3 (fun w'=>w'.cell? ⟨bb,oo,none⟩=some (.int .u8 (t.toNat:Int))) (exact ai.o _ D.o) ((first
     |(go_at_call 102;refine Calls.mono (c0.o _ D.o) ?_;rintro e wo ⟨go,rfl,ak,Y,hb⟩;clear c0;have HC:=I Y;have O:=I (show w.heap.size+1<=go by have:=ah.o;have:W.drew.heap.size=W.heap.size:=rfl;omega);replace F:=I (F.o.below hb);replace D:=D.t hb;have Z:=I (show w.heap.size+1<=wo.heap.size by have:=hb.size;have:=ah.o;have:W.drew.heap.size=W.heap.size:=rfl;omega);clear ak Y hb)
     |(go_at_call 103;refine Calls.mono (c1.o _ _ HC.o) ?_;rintro e wi ⟨⟨gd,rfl,aj,hd⟩,hc,X⟩;clear c1 HC;have HD:=I hd;have M:=I (show w.heap.size+1<=gd by have:=Z.o;omega);have an:=I (De hd);replace F:=I (F.o.grown X (by intro e;injection e with e;have:=O.o;omega));replace D:=I (Al D.o X D.o.size (by have:=O.o;omega));clear aj hd hc X Z O)))
    have k9:=ai.o _ D.o
    go_wp2_with (first
     |(go_at_call 105;refine Calls.mono (T1.o _ _ HD.o) ?_;rintro e w3 ⟨ps,rfl,ho,X⟩;clear T1 HD;replace ho:=ho.less (show gd+1<=_ from an.o);replace F:=I (F.o.grown X (by intro e;injection e with e;have:=M.o;omega));replace D:=I (Al D.o X D.o.size (by have:=M.o;omega));have al:=I (Tj ho);have HM:=I (show MpO w3 (gd+1) zA ps zR zP zF ⟨2,as0,(tgQ s0).1,re0,ap0,fa0⟩ from⟨zA_v,ho,zR_o _ _,zP_o _ _,zF_v⟩);have E:=I (HM.o.toV.size 2);have ag:=I (HM.o.toV.one 2);clear X ho)
     |(refine Au (by rfl) 63 #[(0,.const (.int .i64 2)),(2,.tmp 25)] (by rfl) (mgA 2 zA ps zR zP zF) (by simp only[List.map_toArray,List.map_cons,List.map_nil];exact al.o) ?_)
     |(refine wpList_store_mid (by rfl) 63 (.tmp 2) (.tmp 26) (by rfl) w.heap.size 0 (mgA 2 zA ps zR zP zF) (by rfl) (by rfl) (Ak F.o _ (by rw[E.o];have:=af.o;omega)) (by rw[E.o];exact AQ) ag.o ?_)
     |fail)
    have hE:=AE (ds:=mgA 2 zA ps zR zP zF) F.o (by rw[E.o];exact af.o);have hp:=AJ w3 w.heap.size (mgA 2 zA ps zR zP zF).toList;have hq:=Am (P:=Tryz.prog) hE Tryz.underlying63 rfl (by rw[E.o];exact AQ);refine bodyPost_ret (v:=.agg (mgA 2 zA ps zR zP zF)) ?_ ?_ ?_
    ·exact Aj 2 63 ⟨w.heap.size,0,none⟩ Tryz.results65 rfl hq
    ·rfl
    refine⟨_,rfl,?_,Al D.o hp (by have:=F.o.lt;omega) Ae⟩;rw[EQ.o];exact⟨zA,ps,zR,zP,zF,rfl,(HM.o.keep hp (by have:=M.o;omega)).less (by have:=M.o;omega)⟩
   ·have d2:((t.toNat:Int)==108)=false:=by simp;intro e;exact m2 (UInt8.toNat_inj.1 (by rw[show(108:UInt8).toNat=108 from rfl];omega))
    by_cases m3:t=107
    ·have d3:((t.toNat:Int)==107)=true:=by rw[m3];rfl
     have EQ:=I (show mgQ (t :: r)=⟨3,as0,tg0,(reQ (Ar t (some (t :: r)))).1,ap0,fa0⟩ by subst m3;rfl);obtain⟨s0,ae⟩:∃s,s=Ar t (some (t :: r)):=⟨_,rfl⟩;rw[<-ae] at c1 aa EQ;have T1:=I (fun g w1 h=>Tf g s0 w1 h aa);clear ae aa ao hs h ab hu m1 m2 m3;go_enter Tryz.func65,Tryz.ntmps65
     go_upto_region 1 with fail
     rw[<-ad,<-eW];clear ad eW
     go_upto_region 3 with fail
     replace F:=I (show Blk W.drew _ _ _ from F.o.drewN 1);replace D:=I (show Below _ _ W.drew from below_drewN D.o 1)
     go_region_held3 (fun w'=>w'.cell? ⟨bb,oo,none⟩=some (.int .u8 (t.toNat:Int))) (exact ai.o _ D.o) ((first
      |(go_at_call 102;refine Calls.mono (c0.o _ D.o) ?_;rintro e wo ⟨go,rfl,ak,Y,hb⟩;clear c0;have HC:=I Y;have O:=I (show w.heap.size+1<=go by have:=ah.o;have:W.drew.heap.size=W.heap.size:=rfl;omega);replace F:=I (F.o.below hb);replace D:=D.t hb;have Z:=I (show w.heap.size+1<=wo.heap.size by have:=hb.size;have:=ah.o;have:W.drew.heap.size=W.heap.size:=rfl;omega);clear ak Y hb)
      |(go_at_call 103;refine Calls.mono (c1.o _ _ HC.o) ?_;rintro e wi ⟨⟨gd,rfl,aj,hd⟩,hc,X⟩;clear c1 HC;have HD:=I hd;have M:=I (show w.heap.size+1<=gd by have:=Z.o;omega);have an:=I (De hd);replace F:=I (F.o.grown X (by intro e;injection e with e;have:=O.o;omega));replace D:=I (Al D.o X D.o.size (by have:=O.o;omega));clear aj hd hc X Z O)))
     have k9:=ai.o _ D.o
     go_wp2_with (first
      |(go_at_call 106;refine Calls.mono (T1.o _ _ HD.o) ?_;rintro e w3 ⟨ps,rfl,ho,X⟩;clear T1 HD;replace ho:=ho.less (show gd+1<=_ from an.o);replace F:=I (F.o.grown X (by intro e;injection e with e;have:=M.o;omega));replace D:=I (Al D.o X D.o.size (by have:=M.o;omega));have al:=I (Tl ho);have HM:=I (show MpO w3 (gd+1) zA zT ps zP zF ⟨3,as0,tg0,(reQ s0).1,ap0,fa0⟩ from⟨zA_v,zT_o _ _,ho,zP_o _ _,zF_v⟩);have E:=I (HM.o.toV.size 3);have ag:=I (HM.o.toV.one 3);clear X ho)
      |(refine Au (by rfl) 63 #[(0,.const (.int .i64 3)),(3,.tmp 30)] (by rfl) (mgA 3 zA zT ps zP zF) (by simp only[List.map_toArray,List.map_cons,List.map_nil];exact al.o) ?_)
      |(refine wpList_store_mid (by rfl) 63 (.tmp 2) (.tmp 31) (by rfl) w.heap.size 0 (mgA 3 zA zT ps zP zF) (by rfl) (by rfl) (Ak F.o _ (by rw[E.o];have:=af.o;omega)) (by rw[E.o];exact AQ) ag.o ?_)
      |fail)
     have hE:=AE (ds:=mgA 3 zA zT ps zP zF) F.o (by rw[E.o];exact af.o);have hp:=AJ w3 w.heap.size (mgA 3 zA zT ps zP zF).toList;have hq:=Am (P:=Tryz.prog) hE Tryz.underlying63 rfl (by rw[E.o];exact AQ);refine bodyPost_ret (v:=.agg (mgA 3 zA zT ps zP zF)) ?_ ?_ ?_
     ·exact Aj 2 63 ⟨w.heap.size,0,none⟩ Tryz.results65 rfl hq
     ·rfl
     refine⟨_,rfl,?_,Al D.o hp (by have:=F.o.lt;omega) Ae⟩;rw[EQ.o];exact⟨zA,zT,ps,zP,zF,rfl,(HM.o.keep hp (by have:=M.o;omega)).less (by have:=M.o;omega)⟩
    ·have d3:((t.toNat:Int)==107)=false:=by simp;intro e;exact m3 (UInt8.toNat_inj.1 (by rw[show(107:UInt8).toNat=107 from rfl];omega))
     by_cases m4:t=110
     ·have d4:((t.toNat:Int)==110)=true:=by rw[m4];rfl
      have EQ:=I (show mgQ (t :: r)=⟨4,as0,tg0,re0,(apQ (Ar t (some (t :: r)))).1,fa0⟩ by subst m4;rfl);obtain⟨s0,ae⟩:∃s,s=Ar t (some (t :: r)):=⟨_,rfl⟩;rw[<-ae] at c1 aa EQ;have T1:=I (fun g w1 h=>Th g s0 w1 h aa);clear ae aa ao hs h ab hu m1 m2 m3 m4;go_enter Tryz.func65,Tryz.ntmps65
      go_upto_region 1 with fail
      rw[<-ad,<-eW];clear ad eW
      go_upto_region 3 with fail
      replace F:=I (show Blk W.drew _ _ _ from F.o.drewN 1);replace D:=I (show Below _ _ W.drew from below_drewN D.o 1)
      go_region_held3 (fun w'=>w'.cell? ⟨bb,oo,none⟩=some (.int .u8 (t.toNat:Int))) (exact ai.o _ D.o) ((first
       |(go_at_call 102;refine Calls.mono (c0.o _ D.o) ?_;rintro e wo ⟨go,rfl,ak,Y,hb⟩;clear c0;have HC:=I Y;have O:=I (show w.heap.size+1<=go by have:=ah.o;have:W.drew.heap.size=W.heap.size:=rfl;omega);replace F:=I (F.o.below hb);replace D:=D.t hb;have Z:=I (show w.heap.size+1<=wo.heap.size by have:=hb.size;have:=ah.o;have:W.drew.heap.size=W.heap.size:=rfl;omega);clear ak Y hb)
       |(go_at_call 103;refine Calls.mono (c1.o _ _ HC.o) ?_;rintro e wi ⟨⟨gd,rfl,aj,hd⟩,hc,X⟩;clear c1 HC;have HD:=I hd;have M:=I (show w.heap.size+1<=gd by have:=Z.o;omega);have an:=I (De hd);replace F:=I (F.o.grown X (by intro e;injection e with e;have:=O.o;omega));replace D:=I (Al D.o X D.o.size (by have:=O.o;omega));clear aj hd hc X Z O)))
      have k9:=ai.o _ D.o
      go_wp2_with (first
       |(go_at_call 107;refine Calls.mono (T1.o _ _ HD.o) ?_;rintro e w3 ⟨ps,rfl,ho,X⟩;clear T1 HD;replace ho:=ho.less (show gd+1<=_ from an.o);replace F:=I (F.o.grown X (by intro e;injection e with e;have:=M.o;omega));replace D:=I (Al D.o X D.o.size (by have:=M.o;omega));have al:=I (Tm ho);have HM:=I (show MpO w3 (gd+1) zA zT zR ps zF ⟨4,as0,tg0,re0,(apQ s0).1,fa0⟩ from⟨zA_v,zT_o _ _,zR_o _ _,ho,zF_v⟩);have E:=I (HM.o.toV.size 4);have ag:=I (HM.o.toV.one 4);clear X ho)
       |(refine Au (by rfl) 63 #[(0,.const (.int .i64 4)),(4,.tmp 35)] (by rfl) (mgA 4 zA zT zR ps zF) (by simp only[List.map_toArray,List.map_cons,List.map_nil];exact al.o) ?_)
       |(refine wpList_store_mid (by rfl) 63 (.tmp 2) (.tmp 36) (by rfl) w.heap.size 0 (mgA 4 zA zT zR ps zF) (by rfl) (by rfl) (Ak F.o _ (by rw[E.o];have:=af.o;omega)) (by rw[E.o];exact AQ) ag.o ?_)
       |fail)
      have hE:=AE (ds:=mgA 4 zA zT zR ps zF) F.o (by rw[E.o];exact af.o);have hp:=AJ w3 w.heap.size (mgA 4 zA zT zR ps zF).toList;have hq:=Am (P:=Tryz.prog) hE Tryz.underlying63 rfl (by rw[E.o];exact AQ);refine bodyPost_ret (v:=.agg (mgA 4 zA zT zR ps zF)) ?_ ?_ ?_
      ·exact Aj 2 63 ⟨w.heap.size,0,none⟩ Tryz.results65 rfl hq
      ·rfl
      refine⟨_,rfl,?_,Al D.o hp (by have:=F.o.lt;omega) Ae⟩;rw[EQ.o];exact⟨zA,zT,zR,ps,zF,rfl,(HM.o.keep hp (by have:=M.o;omega)).less (by have:=M.o;omega)⟩
     ·have d4:((t.toNat:Int)==110)=false:=by simp;intro e;exact m4 (UInt8.toNat_inj.1 (by rw[show(110:UInt8).toNat=110 from rfl];omega))
      by_cases m5:t=126
      ·have d5:((t.toNat:Int)==126)=true:=by rw[m5];rfl
       have EQ:=I (show mgQ (t :: r)=⟨5,as0,tg0,re0,ap0,(faQ (Ar t (some (t :: r)))).1⟩ by subst m5;rfl);obtain⟨s0,ae⟩:∃s,s=Ar t (some (t :: r)):=⟨_,rfl⟩;rw[<-ae] at c1 aa EQ;have T1:=I (fun g w1 h=>Ti g s0 w1 h aa);clear ae aa ao hs h ab hu m1 m2 m3 m4 m5;go_enter Tryz.func65,Tryz.ntmps65
       go_upto_region 1 with fail
       rw[<-ad,<-eW];clear ad eW
       go_upto_region 3 with fail
       replace F:=I (show Blk W.drew _ _ _ from F.o.drewN 1);replace D:=I (show Below _ _ W.drew from below_drewN D.o 1)
       go_region_held3 (fun w'=>w'.cell? ⟨bb,oo,none⟩=some (.int .u8 (t.toNat:Int))) (exact ai.o _ D.o) ((first
        |(go_at_call 102;refine Calls.mono (c0.o _ D.o) ?_;rintro e wo ⟨go,rfl,ak,Y,hb⟩;clear c0;have HC:=I Y;have O:=I (show w.heap.size+1<=go by have:=ah.o;have:W.drew.heap.size=W.heap.size:=rfl;omega);replace F:=I (F.o.below hb);replace D:=D.t hb;have Z:=I (show w.heap.size+1<=wo.heap.size by have:=hb.size;have:=ah.o;have:W.drew.heap.size=W.heap.size:=rfl;omega);clear ak Y hb)
        |(go_at_call 103;refine Calls.mono (c1.o _ _ HC.o) ?_;rintro e wi ⟨⟨gd,rfl,aj,hd⟩,hc,X⟩;clear c1 HC;have HD:=I hd;have M:=I (show w.heap.size+1<=gd by have:=Z.o;omega);have an:=I (De hd);replace F:=I (F.o.grown X (by intro e;injection e with e;have:=O.o;omega));replace D:=I (Al D.o X D.o.size (by have:=O.o;omega));clear aj hd hc X Z O)))
       have k9:=ai.o _ D.o
       go_wp2_with (first
        |(go_at_call 108;refine Calls.mono (T1.o _ _ HD.o) ?_;rintro e w3 ⟨ps,rfl,ho,X⟩;clear T1 HD;replace F:=I (F.o.grown X (by intro e;injection e with e;have:=M.o;omega));replace D:=I (Al D.o X D.o.size (by have:=M.o;omega));have al:=I (Tn ho);have HM:=I (show MpO w3 (gd+1) zA zT zR zP ps ⟨5,as0,tg0,re0,ap0,(faQ s0).1⟩ from⟨zA_v,zT_o _ _,zR_o _ _,zP_o _ _,ho⟩);have E:=I (HM.o.toV.size 5);have ag:=I (HM.o.toV.one 5);clear X ho)
        |(refine Au (by rfl) 63 #[(0,.const (.int .i64 5)),(5,.tmp 40)] (by rfl) (mgA 5 zA zT zR zP ps) (by simp only[List.map_toArray,List.map_cons,List.map_nil];exact al.o) ?_)
        |(refine wpList_store_mid (by rfl) 63 (.tmp 2) (.tmp 41) (by rfl) w.heap.size 0 (mgA 5 zA zT zR zP ps) (by rfl) (by rfl) (Ak F.o _ (by rw[E.o];have:=af.o;omega)) (by rw[E.o];exact AQ) ag.o ?_)
        |fail)
       have hE:=AE (ds:=mgA 5 zA zT zR zP ps) F.o (by rw[E.o];exact af.o);have hp:=AJ w3 w.heap.size (mgA 5 zA zT zR zP ps).toList;have hq:=Am (P:=Tryz.prog) hE Tryz.underlying63 rfl (by rw[E.o];exact AQ);refine bodyPost_ret (v:=.agg (mgA 5 zA zT zR zP ps)) ?_ ?_ ?_
       ·exact Aj 2 63 ⟨w.heap.size,0,none⟩ Tryz.results65 rfl hq
       ·rfl
       refine⟨_,rfl,?_,Al D.o hp (by have:=F.o.lt;omega) Ae⟩;rw[EQ.o];exact⟨zA,zT,zR,zP,ps,rfl,(HM.o.keep hp (by have:=M.o;omega)).less (by have:=M.o;omega)⟩
      ·have d5:((t.toNat:Int)==126)=false:=by simp;intro e;exact m5 (UInt8.toNat_inj.1 (by rw[show(126:UInt8).toNat=126 from rfl];omega))
       have EQ:=I (show mgQ (t :: r)=⟨0,as0,tg0,re0,ap0,fa0⟩ by simp only[mgQ,if_neg m1,if_neg m2,if_neg m3,if_neg m4,if_neg m5];rfl);have E:=I ((zM_v w 0 0).size 0);have ag:=I ((zM_v w 0 0).one 0);clear m1 m2 m3 m4 m5 aa ao hs h ab hu;go_enter Tryz.func65,Tryz.ntmps65
       go_upto_region 1 with fail
       rw[<-ad,<-eW];clear ad eW
       go_upto_region 3 with fail
       replace F:=I (show Blk W.drew _ _ _ from F.o.drewN 1);replace D:=I (show Below _ _ W.drew from below_drewN D.o 1)
       go_region_held3 (fun w'=>w'.cell? ⟨bb,oo,none⟩=some (.int .u8 (t.toNat:Int))) (exact ai.o _ D.o) ((first
        |(go_at_call 102;refine Calls.mono (c0.o _ D.o) ?_;rintro e wo ⟨go,rfl,ak,Y,hb⟩;clear c0;have HC:=I Y;have O:=I (show w.heap.size+1<=go by have:=ah.o;have:W.drew.heap.size=W.heap.size:=rfl;omega);replace F:=I (F.o.below hb);replace D:=D.t hb;have Z:=I (show w.heap.size+1<=wo.heap.size by have:=hb.size;have:=ah.o;have:W.drew.heap.size=W.heap.size:=rfl;omega);clear ak Y hb)
        |(go_at_call 103;refine Calls.mono (c1.o _ _ HC.o) ?_;rintro e wi ⟨⟨gd,rfl,aj,hd⟩,hc,X⟩;clear c1 HC;have HD:=I hd;have M:=I (show w.heap.size+1<=gd by have:=Z.o;omega);have an:=I (De hd);replace F:=I (F.o.grown X (by intro e;injection e with e;have:=O.o;omega));replace D:=I (Al D.o X D.o.size (by have:=O.o;omega));clear aj hd hc X Z O)))
       have k9:=ai.o _ D.o
       go_wp2_with (first
        |(refine Au (by rfl) 63 #[] (by rfl) (mgA 0 zA zT zR zP zF) GR ?_)
        |(refine wpList_store_mid (by rfl) 63 (.tmp 2) (.tmp 42) (by rfl) w.heap.size 0 (mgA 0 zA zT zR zP zF) (by rfl) (by rfl) (Ak F.o _ (by rw[E.o];have:=af.o;omega)) (by rw[E.o];exact AQ) ag.o ?_)
        |fail)
       have hE:=AE (ds:=mgA 0 zA zT zR zP zF) F.o (by rw[E.o];exact af.o);have hp:=AJ wi w.heap.size (mgA 0 zA zT zR zP zF).toList;have hq:=Am (P:=Tryz.prog) hE Tryz.underlying63 rfl (by rw[E.o];exact AQ);refine bodyPost_ret (v:=.agg (mgA 0 zA zT zR zP zF)) ?_ ?_ ?_
       ·exact Aj 2 63 ⟨w.heap.size,0,none⟩ Tryz.results65 rfl hq
       ·rfl
       refine⟨_,rfl,?_,Al D.o hp (by have:=F.o.lt;omega) Ae⟩;rw[EQ.o];exact⟨zA,zT,zR,zP,zF,rfl,⟨zA_v,zT_o _ _,zR_o _ _,zP_o _ _,zF_v⟩⟩
def mgG (b:L):Mg:=(mgD b).getD mg0
def mgI (b:L):Int:=if (mgD b).isSome then 0 else 2
theorem Co:pSm pr0:=⟨by decide,by decide⟩
theorem Uk {b:L} (F:b.length<=100000):mSm (mgQ b):=by
 have z:=Co;have E:mSm ⟨0,as0,tg0,re0,ap0,fa0⟩:=⟨⟨z,z⟩,⟨z,z⟩,⟨z,z⟩,z⟩;cases b with
 |nil=>exact E
 |cons t r=>
  have D:∀u,((Ar u (some (t :: r))).getD []).length<=100000:=fun u=>FD u (show((some (t :: r):Option L).getD []).length<=100000 from F)
  simp only[mgQ]
  split
  ·exact⟨⟨Gq (D _),Gq (Cn 48 (D _))⟩,⟨z,z⟩,⟨z,z⟩,z⟩
  ·split
   ·exact⟨⟨z,z⟩,⟨Gq (FD 97 (D _)),Gq (Cn 4 (Cn 97 (D _)))⟩,⟨z,z⟩,z⟩
   ·split
    ·exact⟨⟨z,z⟩,⟨z,z⟩,⟨Gq (D _),Gq (FD 97 (Cn 48 (D _)))⟩,z⟩
    ·split
     ·exact⟨⟨z,z⟩,⟨z,z⟩,⟨z,z⟩,Gq (FD 97 (D _))⟩
     ·split
      ·exact⟨⟨z,z⟩,⟨z,z⟩,⟨z,z⟩,z⟩
      ·exact E
theorem zz_o (w:World) (B:Nat):MgO w B (mgA 0 zA zT zR zP zF) mg0:=⟨_,_,_,_,_,rfl,zM_o w B 0⟩
theorem QQ (A:Option Addr) (b:L) (c:Nat) (w:World) (hr:Rd w w.heap.size A (bvs b)):Calls Tryz.prog 64 #[.slice A b.length c,.func (.func 65) #[] #[],.func (.func 66) #[] #[]] w fun e w'=>∃ds,e=.returned (.tuple #[.agg ds,.int .i64 (mgI b)])/\MgO w' w.heap.size ds (mgG b)/\Below w.heap.size w w':=by
 obtain⟨M,ad⟩:∃z:Array Value,z=#[.int .i64 0,.string ⟨#[]⟩,.string ⟨#[]⟩,.string ⟨#[]⟩,.string ⟨#[]⟩,.int .i64 0,.int .i64 0,.string ⟨#[]⟩,.string ⟨#[]⟩,.int .i64 0,.slice none 0 0,.slice none 0 0,.string ⟨#[]⟩,.string ⟨#[]⟩,.int .i64 0,.int .i64 0,.string ⟨#[]⟩,.string ⟨#[]⟩,.string ⟨#[]⟩,.string ⟨#[]⟩,.int .i64 0,.slice none 0 0,.slice none 0 0,.string ⟨#[]⟩,.string ⟨#[]⟩,.int .i64 0,.slice none 0 0,.slice none 0 0,.int .i64 0,.int .i64 0]:=⟨_,rfl⟩;have ar:M=mgA 0 zA zT zR zP zF:=by rw[ad];rfl
 have hz:∀(w1:World) (B:Nat),MgO w1 B M mg0:=fun w1 B=>by rw[ar];exact zz_o w1 B
 have ao:M.size=30:=(hz w 0).size;obtain⟨W,eW⟩:=Ah ((w.alloc (.cells M 63)).alloc (.cells M 63));have av:W.heap.size=w.heap.size+1+1:=by rw[eW];simp
 have hq:=Blk.new (w.alloc (.cells M 63)) 63 M;rw[show(w.alloc (.cells M 63)).heap.size=w.heap.size+1 by simp,<-eW] at hq;have X:=I hq;clear hq;have E:=I (show Blk W w.heap.size 63 M by rw[eW];exact(Blk.new _ _ _).alloc _);have F:=I (show Below w.heap.size w W by rw[eW];exact(Af.alloc Ae _).alloc (by simp) _);have af:=I (fun w1 (h:Below w.heap.size w w1)=>(hr.below h).more h.size);have ab:=I (show(Tryz.prog.info? 63).map (·.size)=some M.size by rw[ao];exact AQ);have ak:=I (show M.all (·.oneCell')=true from(hz w 0).one);have au:=I ao;have ai:=I hz;have ED:=I (QE b);have aw:=I av;clear av ao ar hz
 by_cases hl:b.length<=2000
 ·have t1:decide ((2000:Int)<(b.length:Int))=false:=decide_eq_false (by omega)
  have al:b.length<=100000:=by omega
  have aa:=Uk al;have T1:=I (fun w1 (h:Rd w1 w1.heap.size A (bvs b))=>LS A b c w1 h al);have EN:=I (fun w1 cs (h:MgV w1 w1.heap.size cs (mgQ b))=>QP cs (mgQ b) w1 h aa);have BE:=I (fun(l:L) (g c2:Nat) (w1:World) (h:Rd w1 w1.heap.size (some ⟨g,0,none⟩) (bvs l)) (D:Below w.heap.size w w1)=>GP l b (some ⟨g,0,none⟩) A c2 c w1.heap.size w1 h (af.o w1 D));clear hl al hr aa;cases ho:mgO (mgQ b) with
  |none=>
   rw[ho] at EN;have hD:mgD b=none:=by rw[ED.o,ho];rfl
   have GE:=I (show mgG b=mg0 by rw[mgG,hD];rfl);have IE:=I (show mgI b=2 by rw[mgI,hD];rfl);clear ED ho hD BE;go_enter Tryz.func64,Tryz.ntmps64
   go_upto_region 2 with fail
   rw[<-ad,<-eW];clear ad eW
   go_wp2_with (first
    |(refine Ac (by rfl) 63 (.tmp 8) (by rfl) (w.heap.size+1) 0 (by rfl) M _ (Ab X.o) Tryz.underlying63 (by rfl) ab.o ?_)
    |(refine wpList_store_mid (by rfl) 63 (.tmp 6) (.tmp 33) (by rfl) w.heap.size 0 M (by rfl) (by rfl) (Ak E.o _ Ae) ab.o ak.o ?_)
    |(go_at_call 65;refine Calls.mono (T1.o _ (af.o _ F.o)) ?_;rintro e w4 ⟨cs,rfl,hv,D⟩;clear T1;have HV:=I (hv.less (show w.heap.size+1<=_ by have:=E.o.lt;omega));have Y:=I (show(Tryz.prog.info? 63).map (·.size)=some cs.size by rw[hv.size];exact AQ);have ae:=I (show cs.all (·.oneCell')=true from hv.one);have Z:=I hv.size;clear hv;replace X:=I (X.o.below D);replace E:=I (E.o.below D);replace F:=F.t D;clear D)
    |(refine wpList_store_mid (by rfl) 63 (.tmp 9) (.tmp 18) (by rfl) w4.heap.size 0 cs (by rfl) (by rfl) (Ak (Blk.new w4 63 #[.int .i64 0,.string ⟨#[]⟩,.string ⟨#[]⟩,.string ⟨#[]⟩,.string ⟨#[]⟩,.int .i64 0,.int .i64 0,.string ⟨#[]⟩,.string ⟨#[]⟩,.int .i64 0,.slice none 0 0,.slice none 0 0,.string ⟨#[]⟩,.string ⟨#[]⟩,.int .i64 0,.int .i64 0,.string ⟨#[]⟩,.string ⟨#[]⟩,.string ⟨#[]⟩,.string ⟨#[]⟩,.int .i64 0,.slice none 0 0,.slice none 0 0,.string ⟨#[]⟩,.string ⟨#[]⟩,.int .i64 0,.slice none 0 0,.slice none 0 0,.int .i64 0,.int .i64 0]) _ (by have:=Z.o;simp;omega)) Y.o ae.o ?_;have O:=Bp w4 63 #[.int .i64 0,.string ⟨#[]⟩,.string ⟨#[]⟩,.string ⟨#[]⟩,.string ⟨#[]⟩,.int .i64 0,.int .i64 0,.string ⟨#[]⟩,.string ⟨#[]⟩,.int .i64 0,.slice none 0 0,.slice none 0 0,.string ⟨#[]⟩,.string ⟨#[]⟩,.int .i64 0,.int .i64 0,.string ⟨#[]⟩,.string ⟨#[]⟩,.string ⟨#[]⟩,.string ⟨#[]⟩,.int .i64 0,.slice none 0 0,.slice none 0 0,.string ⟨#[]⟩,.string ⟨#[]⟩,.int .i64 0,.slice none 0 0,.slice none 0 0,.int .i64 0,.int .i64 0] cs (by have:=Z.o;simp;omega);generalize ((w4.alloc (.cells #[.int .i64 0,.string ⟨#[]⟩,.string ⟨#[]⟩,.string ⟨#[]⟩,.string ⟨#[]⟩,.int .i64 0,.int .i64 0,.string ⟨#[]⟩,.string ⟨#[]⟩,.int .i64 0,.slice none 0 0,.slice none 0 0,.string ⟨#[]⟩,.string ⟨#[]⟩,.int .i64 0,.int .i64 0,.string ⟨#[]⟩,.string ⟨#[]⟩,.string ⟨#[]⟩,.string ⟨#[]⟩,.int .i64 0,.slice none 0 0,.slice none 0 0,.string ⟨#[]⟩,.string ⟨#[]⟩,.int .i64 0,.slice none 0 0,.slice none 0 0,.int .i64 0,.int .i64 0] 63)).setCells w4.heap.size 0 cs.toList)=V at O⊢;have HX:=I O.1;replace HV:=I (HV.o.below O.2);replace X:=I (X.o.below O.2);replace E:=I (E.o.below O.2);replace F:=I (F.o.trans (O.2.mono F.o.size));clear O)
    |(refine Ac (by rfl) 63 (.tmp 9) (by rfl) w4.heap.size 0 (by rfl) cs _ (Ab HX.o) Tryz.underlying63 (by rfl) Y.o ?_)
    |(go_at_call 66;refine Calls.mono (EN.o _ _ HV.o.toV) ?_;rintro e we ⟨⟨v,i,rfl,hn,aa⟩,D⟩;obtain⟨rfl,rfl⟩:=hn rfl;clear EN;replace HV:=I (HV.o.below D);replace HX:=I (HX.o.below D);replace X:=I (X.o.below D);replace E:=I (E.o.below D);replace F:=F.t D;clear D hn aa)
    |fail)
   have hE:=AE (ds:=M) E.o (by rfl);have hp:=AJ we w.heap.size M.toList;have hq:=Am (P:=Tryz.prog) hE Tryz.underlying63 rfl ab.o;refine bodyPost_ret (v:=.tuple #[.agg M,.int .i64 2]) ?_ ?_ ?_
   ·exact AD (v:=.agg M) 6 7 63 ⟨w.heap.size,0,none⟩ Tryz.results64 rfl hq rfl
   ·rfl
   refine⟨_,by rw[IE.o],?_,Al F.o hp (by have:=E.o.lt;omega) Ae⟩;rw[GE.o];exact ai.o _ _
  |some l=>
   rw[ho] at EN
   by_cases hlb:l=b
   ·have BF:=I (decide_eq_true hlb)
    have hD:mgD b=some (mgQ b):=by rw[ED.o,ho,if_pos (by rw[hlb])]
    have GE:=I (show mgG b=mgQ b by rw[mgG,hD];rfl);have IE:=I (show mgI b=0 by rw[mgI,hD];rfl);clear ED ho hlb hD;go_enter Tryz.func64,Tryz.ntmps64
    go_upto_region 2 with fail
    rw[<-ad,<-eW];clear ad eW
    go_wp2_with (first
     |(refine Ac (by rfl) 63 (.tmp 8) (by rfl) (w.heap.size+1) 0 (by rfl) M _ (Ab X.o) Tryz.underlying63 (by rfl) ab.o ?_)
     |(refine wpList_store_mid (by rfl) 63 (.tmp 6) (.tmp 34) (by rfl) w.heap.size 0 cs (by rfl) (by rfl) (Ak E.o _ (by have:=au.o;have:=Z.o;omega)) Y.o ae.o ?_)
     |(go_at_call 65;refine Calls.mono (T1.o _ (af.o _ F.o)) ?_;rintro e w4 ⟨cs,rfl,hv,D⟩;clear T1;have HV:=I (hv.less (show w.heap.size+1<=_ by have:=E.o.lt;omega));have Y:=I (show(Tryz.prog.info? 63).map (·.size)=some cs.size by rw[hv.size];exact AQ);have ae:=I (show cs.all (·.oneCell')=true from hv.one);have Z:=I hv.size;clear hv;replace X:=I (X.o.below D);replace E:=I (E.o.below D);replace F:=F.t D;clear D)
     |(refine wpList_store_mid (by rfl) 63 (.tmp 9) (.tmp 18) (by rfl) w4.heap.size 0 cs (by rfl) (by rfl) (Ak (Blk.new w4 63 #[.int .i64 0,.string ⟨#[]⟩,.string ⟨#[]⟩,.string ⟨#[]⟩,.string ⟨#[]⟩,.int .i64 0,.int .i64 0,.string ⟨#[]⟩,.string ⟨#[]⟩,.int .i64 0,.slice none 0 0,.slice none 0 0,.string ⟨#[]⟩,.string ⟨#[]⟩,.int .i64 0,.int .i64 0,.string ⟨#[]⟩,.string ⟨#[]⟩,.string ⟨#[]⟩,.string ⟨#[]⟩,.int .i64 0,.slice none 0 0,.slice none 0 0,.string ⟨#[]⟩,.string ⟨#[]⟩,.int .i64 0,.slice none 0 0,.slice none 0 0,.int .i64 0,.int .i64 0]) _ (by have:=Z.o;simp;omega)) Y.o ae.o ?_;have O:=Bp w4 63 #[.int .i64 0,.string ⟨#[]⟩,.string ⟨#[]⟩,.string ⟨#[]⟩,.string ⟨#[]⟩,.int .i64 0,.int .i64 0,.string ⟨#[]⟩,.string ⟨#[]⟩,.int .i64 0,.slice none 0 0,.slice none 0 0,.string ⟨#[]⟩,.string ⟨#[]⟩,.int .i64 0,.int .i64 0,.string ⟨#[]⟩,.string ⟨#[]⟩,.string ⟨#[]⟩,.string ⟨#[]⟩,.int .i64 0,.slice none 0 0,.slice none 0 0,.string ⟨#[]⟩,.string ⟨#[]⟩,.int .i64 0,.slice none 0 0,.slice none 0 0,.int .i64 0,.int .i64 0] cs (by have:=Z.o;simp;omega);generalize ((w4.alloc (.cells #[.int .i64 0,.string ⟨#[]⟩,.string ⟨#[]⟩,.string ⟨#[]⟩,.string ⟨#[]⟩,.int .i64 0,.int .i64 0,.string ⟨#[]⟩,.string ⟨#[]⟩,.int .i64 0,.slice none 0 0,.slice none 0 0,.string ⟨#[]⟩,.string ⟨#[]⟩,.int .i64 0,.int .i64 0,.string ⟨#[]⟩,.string ⟨#[]⟩,.string ⟨#[]⟩,.string ⟨#[]⟩,.int .i64 0,.slice none 0 0,.slice none 0 0,.string ⟨#[]⟩,.string ⟨#[]⟩,.int .i64 0,.slice none 0 0,.slice none 0 0,.int .i64 0,.int .i64 0] 63)).setCells w4.heap.size 0 cs.toList)=V at O⊢;have HX:=I O.1;replace HV:=I (HV.o.below O.2);replace X:=I (X.o.below O.2);replace E:=I (E.o.below O.2);replace F:=I (F.o.trans (O.2.mono F.o.size));clear O)
     |(refine Ac (by rfl) 63 (.tmp 9) (by rfl) w4.heap.size 0 (by rfl) cs _ (Ab HX.o) Tryz.underlying63 (by rfl) Y.o ?_)
     |(go_at_call 66;refine Calls.mono (EN.o _ _ HV.o.toV) ?_;rintro e we ⟨⟨v,i,rfl,hn,aa⟩,D⟩;obtain⟨rfl,gx,cx,rfl,aj,an,ag⟩:=aa l rfl;have ah:=I ag;clear aj an ag;clear EN;replace HV:=I (HV.o.below D);replace HX:=I (HX.o.below D);replace X:=I (X.o.below D);replace E:=I (E.o.below D);replace F:=F.t D;clear D hn aa)
     |(go_at_call 101;refine Calls.mono (BE.o l gx cx _ ah.o F.o) ?_;rw[BF.o];rintro e wb ⟨rfl,hw⟩;subst hw;clear BE)
     |fail)
    have hE:=AE (ds:=cs) E.o (by have:=au.o;have:=Z.o;omega);have hp:=AJ we w.heap.size cs.toList;have hq:=Am (P:=Tryz.prog) hE Tryz.underlying63 rfl Y.o;refine bodyPost_ret (v:=.tuple #[.agg cs,.int .i64 0]) ?_ ?_ ?_
    ·exact AD (v:=.agg cs) 6 7 63 ⟨w.heap.size,0,none⟩ Tryz.results64 rfl hq rfl
    ·rfl
    refine⟨_,by rw[IE.o],?_,Al F.o hp (by have:=E.o.lt;omega) Ae⟩;rw[GE.o];exact(HV.o.keep hp (by omega)).less (by omega)
   ·have BF:=I (decide_eq_false hlb)
    have hD:mgD b=none:=by rw[ED.o,ho,if_neg (fun h=>hlb (Option.some.inj h))]
    have GE:=I (show mgG b=mg0 by rw[mgG,hD];rfl);have IE:=I (show mgI b=2 by rw[mgI,hD];rfl);clear ED ho hlb hD;go_enter Tryz.func64,Tryz.ntmps64
    go_upto_region 2 with fail
    rw[<-ad,<-eW];clear ad eW
    go_wp2_with (first
     |(refine Ac (by rfl) 63 (.tmp 8) (by rfl) (w.heap.size+1) 0 (by rfl) M _ (Ab X.o) Tryz.underlying63 (by rfl) ab.o ?_)
     |(refine wpList_store_mid (by rfl) 63 (.tmp 6) (.tmp 33) (by rfl) w.heap.size 0 M (by rfl) (by rfl) (Ak E.o _ Ae) ab.o ak.o ?_)
     |(go_at_call 65;refine Calls.mono (T1.o _ (af.o _ F.o)) ?_;rintro e w4 ⟨cs,rfl,hv,D⟩;clear T1;have HV:=I (hv.less (show w.heap.size+1<=_ by have:=E.o.lt;omega));have Y:=I (show(Tryz.prog.info? 63).map (·.size)=some cs.size by rw[hv.size];exact AQ);have ae:=I (show cs.all (·.oneCell')=true from hv.one);have Z:=I hv.size;clear hv;replace X:=I (X.o.below D);replace E:=I (E.o.below D);replace F:=F.t D;clear D)
     |(refine wpList_store_mid (by rfl) 63 (.tmp 9) (.tmp 18) (by rfl) w4.heap.size 0 cs (by rfl) (by rfl) (Ak (Blk.new w4 63 #[.int .i64 0,.string ⟨#[]⟩,.string ⟨#[]⟩,.string ⟨#[]⟩,.string ⟨#[]⟩,.int .i64 0,.int .i64 0,.string ⟨#[]⟩,.string ⟨#[]⟩,.int .i64 0,.slice none 0 0,.slice none 0 0,.string ⟨#[]⟩,.string ⟨#[]⟩,.int .i64 0,.int .i64 0,.string ⟨#[]⟩,.string ⟨#[]⟩,.string ⟨#[]⟩,.string ⟨#[]⟩,.int .i64 0,.slice none 0 0,.slice none 0 0,.string ⟨#[]⟩,.string ⟨#[]⟩,.int .i64 0,.slice none 0 0,.slice none 0 0,.int .i64 0,.int .i64 0]) _ (by have:=Z.o;simp;omega)) Y.o ae.o ?_;have O:=Bp w4 63 #[.int .i64 0,.string ⟨#[]⟩,.string ⟨#[]⟩,.string ⟨#[]⟩,.string ⟨#[]⟩,.int .i64 0,.int .i64 0,.string ⟨#[]⟩,.string ⟨#[]⟩,.int .i64 0,.slice none 0 0,.slice none 0 0,.string ⟨#[]⟩,.string ⟨#[]⟩,.int .i64 0,.int .i64 0,.string ⟨#[]⟩,.string ⟨#[]⟩,.string ⟨#[]⟩,.string ⟨#[]⟩,.int .i64 0,.slice none 0 0,.slice none 0 0,.string ⟨#[]⟩,.string ⟨#[]⟩,.int .i64 0,.slice none 0 0,.slice none 0 0,.int .i64 0,.int .i64 0] cs (by have:=Z.o;simp;omega);generalize ((w4.alloc (.cells #[.int .i64 0,.string ⟨#[]⟩,.string ⟨#[]⟩,.string ⟨#[]⟩,.string ⟨#[]⟩,.int .i64 0,.int .i64 0,.string ⟨#[]⟩,.string ⟨#[]⟩,.int .i64 0,.slice none 0 0,.slice none 0 0,.string ⟨#[]⟩,.string ⟨#[]⟩,.int .i64 0,.int .i64 0,.string ⟨#[]⟩,.string ⟨#[]⟩,.string ⟨#[]⟩,.string ⟨#[]⟩,.int .i64 0,.slice none 0 0,.slice none 0 0,.string ⟨#[]⟩,.string ⟨#[]⟩,.int .i64 0,.slice none 0 0,.slice none 0 0,.int .i64 0,.int .i64 0] 63)).setCells w4.heap.size 0 cs.toList)=V at O⊢;have HX:=I O.1;replace HV:=I (HV.o.below O.2);replace X:=I (X.o.below O.2);replace E:=I (E.o.below O.2);replace F:=I (F.o.trans (O.2.mono F.o.size));clear O)
     |(refine Ac (by rfl) 63 (.tmp 9) (by rfl) w4.heap.size 0 (by rfl) cs _ (Ab HX.o) Tryz.underlying63 (by rfl) Y.o ?_)
     |(go_at_call 66;refine Calls.mono (EN.o _ _ HV.o.toV) ?_;rintro e we ⟨⟨v,i,rfl,hn,aa⟩,D⟩;obtain⟨rfl,gx,cx,rfl,aj,an,ag⟩:=aa l rfl;have ah:=I ag;clear aj an ag;clear EN;replace HV:=I (HV.o.below D);replace HX:=I (HX.o.below D);replace X:=I (X.o.below D);replace E:=I (E.o.below D);replace F:=F.t D;clear D hn aa)
     |(go_at_call 101;refine Calls.mono (BE.o l gx cx _ ah.o F.o) ?_;rw[BF.o];rintro e wb ⟨rfl,hw⟩;subst hw;clear BE)
     |fail)
    have hE:=AE (ds:=M) E.o (by rfl);have hp:=AJ we w.heap.size M.toList;have hq:=Am (P:=Tryz.prog) hE Tryz.underlying63 rfl ab.o;refine bodyPost_ret (v:=.tuple #[.agg M,.int .i64 2]) ?_ ?_ ?_
    ·exact AD (v:=.agg M) 6 7 63 ⟨w.heap.size,0,none⟩ Tryz.results64 rfl hq rfl
    ·rfl
    refine⟨_,by rw[IE.o],?_,Al F.o hp (by have:=E.o.lt;omega) Ae⟩;rw[GE.o];exact ai.o _ _
 ·have t1:decide ((2000:Int)<(b.length:Int))=true:=decide_eq_true (by omega)
  have hD:mgD b=none:=by
   rw[ED.o,if_neg];intro h;have h2:=BA.1 h;exact hl (by rw[<-h2.2.2];exact h2.2.1)
  have GE:=I (show mgG b=mg0 by rw[mgG,hD];rfl);have IE:=I (show mgI b=2 by rw[mgI,hD];rfl);clear ED hD hl hr af;go_enter Tryz.func64,Tryz.ntmps64
  go_upto_region 2 with fail
  rw[<-ad,<-eW];clear ad eW
  go_wp2_with (first
   |(refine Ac (by rfl) 63 (.tmp 8) (by rfl) (w.heap.size+1) 0 (by rfl) M _ (Ab X.o) Tryz.underlying63 (by rfl) ab.o ?_)
   |(refine wpList_store_mid (by rfl) 63 (.tmp 6) (.tmp 15) (by rfl) w.heap.size 0 M (by rfl) (by rfl) (Ak E.o _ Ae) ab.o ak.o ?_)
   |fail)
  have hE:=AE (ds:=M) E.o (by rfl);have hp:=AJ W w.heap.size M.toList;have hq:=Am (P:=Tryz.prog) hE Tryz.underlying63 rfl ab.o;refine bodyPost_ret (v:=.tuple #[.agg M,.int .i64 2]) ?_ ?_ ?_
  ·exact AD (v:=.agg M) 6 7 63 ⟨w.heap.size,0,none⟩ Tryz.results64 rfl hq rfl
  ·rfl
  refine⟨_,by rw[IE.o],?_,Al F.o hp (by have:=E.o.lt;omega) Ae⟩;rw[GE.o];exact ai.o _ _
theorem VQ (A:Option Addr) (b:L) (c:Nat) (w:World) (hr:Rd w w.heap.size A (bvs b)):Calls Tryz.prog 31 #[.slice A b.length c] w fun e w'=>∃ds,e=.returned (.tuple #[.agg ds,.int .i64 (mgI b)])/\MgO w' w.heap.size ds (mgG b)/\Below w.heap.size w w':=by
 obtain⟨F,D⟩:∃z:Array Value,z=#[.int .i64 0,.string ⟨#[]⟩,.string ⟨#[]⟩,.string ⟨#[]⟩,.string ⟨#[]⟩,.int .i64 0,.int .i64 0,.string ⟨#[]⟩,.string ⟨#[]⟩,.int .i64 0,.slice none 0 0,.slice none 0 0,.string ⟨#[]⟩,.string ⟨#[]⟩,.int .i64 0,.int .i64 0,.string ⟨#[]⟩,.string ⟨#[]⟩,.string ⟨#[]⟩,.string ⟨#[]⟩,.int .i64 0,.slice none 0 0,.slice none 0 0,.string ⟨#[]⟩,.string ⟨#[]⟩,.int .i64 0,.slice none 0 0,.slice none 0 0,.int .i64 0,.int .i64 0]:=⟨_,rfl⟩;have M:=I (show F.size=30 by rw[D];simp);have c1:=QQ A b c (w.alloc (.cells F 63)) ((hr.alloc Ae _).more (by simp));have X:=I (Blk.new w 63 F);have Z:=I ((Below.refl w.heap.size w).alloc Ae (.cells F 63));have Y:=I (show(w.alloc (.cells F 63)).heap.size=w.heap.size+1 by simp);clear hr;go_enter Tryz.func31,Tryz.ntmps31
 go_upto_region 1 with fail
 rw[<-D];clear D
 go_wp2_with (first
  |(go_at_call 64;refine Calls.mono c1 ?_;rintro e w1 ⟨cs,rfl,E,hb⟩;clear c1;have HV:=I (E.less (show w.heap.size+1<=_ by have:=Y.o;omega));have HI:=I (show(Tryz.prog.info? 63).map (·.size)=some cs.size by rw[E.size];exact AQ);have HO:=I (show cs.all (·.oneCell')=true from E.one);have O:=I E.size;clear E;replace X:=I (X.o.below hb);replace Z:=Z.t hb;clear hb)
  |(refine wpList_store_mid (by rfl) 63 (.tmp 2) (.tmp 6) (by rfl) w.heap.size 0 cs (by rfl) (by rfl) (Ak X.o _ (by have:=M.o;have:=O.o;omega)) HI.o HO.o ?_)
  |fail)
 have hE:=AE (ds:=cs) X.o (by have:=M.o;have:=O.o;omega);have hp:=AJ w1 w.heap.size cs.toList;have hq:=Am (P:=Tryz.prog) hE Tryz.underlying63 rfl HI.o;refine bodyPost_ret (v:=.tuple #[.agg cs,.int .i64 (mgI b)]) ?_ ?_ ?_
 ·exact AD (v:=.agg cs) 2 3 63 ⟨w.heap.size,0,none⟩ Tryz.results31 rfl hq rfl
 ·rfl
 exact⟨_,rfl,(HV.o.keep hp (by omega)).less (by omega),Al Z.o hp (by have:=X.o.lt;omega) Ae⟩
end Mc
end Go.Proofs.YtcpccikongbopaaGreat
