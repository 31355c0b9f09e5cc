import Derived.Test.YtnmeicnppablkaaProg
import Derived.Deep.LoopGhost
import Derived.StillTailTactics
import Derived.Deep.CutBlock
import Derived.Laws.StructEq
import Derived.Deep.RegionHeld3
import Derived.BigQuiet
import Derived.SizedLaws
import Derived.Test.YtnmeicnppablkaaRows
import Derived.Lib.SmallJoins
import Derived.Deep.Strs
import Derived.ChangeSame
import Derived.Test.YtnmeicnppablkaaZReplayOnce1
import Derived.Test.YtnmeicnppablkaaZReplayOnce2
section
set_option linter.unusedVariables false
set_option linter.unusedSimpArgs false
namespace Go.Proofs.Ytnmeicnppablkaa.Rp
open Go.RowKit Go.Proofs.Ytnmeicnppablkaa.Mem Go.Proofs.Ytnmeicnppablkaa.Se
open Go.Proofs.Ytnmeicnppablkaa.Ms (An)
open Go.Proofs.Ytnmeicnppablkaa.Rg (RdR own_rdr own_chg)
section
variable {P:Program} {a:Act} {w w':World} {ty:TypeId} {dst:Option Tmp} {pos:String} {after:Array _} {guard:Option (Nat×Bool)}
theorem exec_build {t:TypeId} {parts:Array (Nat×Operand)} {vs:List (Nat×Value)} {cells:Array Value} (hv:(parts.map fun x=>(x.1,a.eval x.2)).toList=vs) (h:P.built t vs=some cells):(execOp a.eval ⟨dst,.build t parts,ty,pos,after,guard⟩).run P w = .ok (.value (.agg cells)) w:=by
 have:=run_build (P:=P) w t (parts.map fun x=>(x.1,a.eval x.2)) cells (by rw[hv];exact h)
 simp only[execOp,Sem.run_bind,this,Result.andThen_ok,Sem.run_pure]
theorem exec_slice {t:TypeId} {x:Operand} {cs:Array Value} {s:Value} (hx:a.eval x = .agg cs) (h:(Instr.buildSlice t 1 #[(0,.agg cs)]).run P w = .ok s w'):(execOp a.eval ⟨dst,.buildSlice t 1 #[(0,x)],ty,pos,after,guard⟩).run P w = .ok (.value s) w':=by
 simp only[execOp,Sem.run_bind,List.map_toArray,List.map_cons,List.map_nil,hx,h,Result.andThen_ok,Sem.run_pure]
theorem exec_app {t:TypeId} {x y:Operand} {u v s:Value} (hx:a.eval x=u) (hy:a.eval y=v) (h:(Builtin.append_ #[t,t] ty #[u,v]).run P w = .ok s w'):(execOp a.eval ⟨dst,.call {callee:=.builtin .append,args:=#[x,y],argTypes:=#[t,t]},ty,pos,after,guard⟩).run P w = .ok (.value s) w':=by
 simp only[execOp,resolve,invoke,builtin,Sem.run_bind,Sem.run_pure,Result.andThen_ok,List.map_toArray,List.map_cons,List.map_nil,hx,hy,h]
end
theorem chg_row {w w':World} {row:Option Nat} (h:w.grownBy w' row):Chg (fun q=>row=some q) w w':=⟨h.os,h.tape,h.output,h.size,fun i hi hn=>h.block i hi (fun e=>hn e.symm)⟩
structure Stp (w w':World) (B r:Nat) (v v':Value) (on:Bool) (st:Int) (l:List An):Prop where
 rp:Rp w' B r v' on st l
 chg:Chg (RO r v) w w'
 new:∀q,RO r v' q→RO r v q∨w.heap.size≤q
section
variable {w w0 w1 W w2 w5 w6:World} {B r:Nat} {v v1 v2 v6:Value} {on:Bool} {st:Int} {l l1 l2:List An}
theorem Stp.refl (h:Rp w B r v on st l):Stp w w B r v v on st l:=⟨h,Chg.refl _ _,fun q hq=>.inl hq⟩
theorem Stp.trans {on2:Bool} {st2:Int} (h:Stp w w1 B r v v1 on st l1) (k:Stp w1 w2 B r v1 v2 on2 st2 l2):Stp w w2 B r v v2 on2 st2 l2:=
 ⟨k.rp,h.chg.trans k.chg (fun q hq x=>by
  rcases h.new q x with g | g
  ·exact g
  ·omega),fun q hq=>by
  rcases k.new q hq with g | g
  ·exact h.new q g
  ·exact .inr (Nat.le_trans h.chg.size g)⟩
theorem Stp.below (h:Stp w w1 B r v v1 on st l1) (hb:Below w1.heap.size w1 w2):Stp w w2 B r v v1 on st l1:=
 h.trans ⟨h.rp.below hb,Chg.of_below hb,fun q hq=>.inl hq⟩
theorem rp_rest (h:Rp W B r v on st l) (hg:W.grownBy w2 v.ownBlock) (ho:w2.ownsRow B 31 4 v1 l1.length (l1.flatMap anC)) (hv:v1.ownBlock=v.ownBlock) (hs:∀x∈l1,x∈l) :
  Stp W (w2.setCell ⟨r,0,none⟩ v1) B r v v1 on st l1:=by
 have hset:Chg (fun q=>q=r) w2 (w2.setCell ⟨r,0,none⟩ v1):=Chg.set (p:=⟨r,0,none⟩) (Chg.refl (fun q=>q=r) w2) (.inl rfl) v1
 have hc:Chg (RO r v) W (w2.setCell ⟨r,0,none⟩ v1):=((chg_row hg).mono (fun q _ x=>.inr x)).trans hset (fun q _ x=>.inl x)
 have hvr:v1.ownBlock≠some r:=by rw[hv];exact h.vr
 exact⟨⟨(h.blk.grown hg h.vr).set 0 v1,own_chg hset ho (fun k hk x=>hvr (x▸hk)),h.lo,hvr,fun y hy=>h.tm y (hs y hy)⟩,hc,fun q hq=>.inl (hq.imp id (fun x=>hv▸x))⟩
theorem rp_put {e:An} (h5:Rp w5 B r v on st l1) (ht:Tm e.t) (ho:w6.ownsRow B 31 4 v6 (l1++[e]).length ((l1++[e]).flatMap anC)) (hg:w5.grownBy w6 v.ownBlock) (hv:v6.ownBlock=v.ownBlock∨v6.ownBlock=some w5.heap.size) :
  Stp w5 (w6.setCell ⟨r,0,none⟩ v6) B r v v6 on st (l1++[e]):=by
 have hset:Chg (fun q=>q=r) w6 (w6.setCell ⟨r,0,none⟩ v6):=Chg.set (p:=⟨r,0,none⟩) (Chg.refl (fun q=>q=r) w6) (.inl rfl) v6
 have hc5:Chg (RO r v) w5 (w6.setCell ⟨r,0,none⟩ v6):=((chg_row hg).mono (fun q _ x=>.inr x)).trans hset (fun q _ x=>.inl x)
 have hrl:=h5.lt
 have hvr:v6.ownBlock≠some r:=fun x=>by
  rcases hv with g | g
  ·rw[g] at x;exact h5.vr x
  ·rw[g] at x;injection x with x;omega
 refine⟨⟨(h5.blk.grown hg h5.vr).set 0 v6,own_chg hset ho (fun k hk x=>hvr (x▸hk)),h5.lo,hvr,fun y hy=>?_⟩,hc5,fun q hq=>?_⟩
 ·rcases List.mem_append.1 hy with hy | hy
  ·exact h5.tm y hy
  ·rw[List.mem_singleton] at hy;exact hy▸ht
 ·rcases hq with hq | hq
  ·exact .inl (.inl hq)
  ·rcases hv with g | g
   ·exact .inl (.inr (g▸hq))
   ·rw[g] at hq;injection hq with hq;exact .inr (by omega)
end
theorem built_pr (p:Go.Proofs.Ytnmeicnppablkaa.Rg.Pr):Try.prog.built 29 [(0,.string ⟨p.1.toArray⟩),(1,.string ⟨p.2.toArray⟩)]=some #[.string ⟨p.1.toArray⟩,.string ⟨p.2.toArray⟩]:=by kernel_rfl
theorem stp_far {w w1 w2:World} {B r NB:Nat} {v v1:Value} {on:Bool} {st:Int} {l:List An} (h:Stp w w1 B r v v1 on st l) (hc:Chg (fun q=>q=NB) w1 w2) (hn:∀q,RO r v1 q→¬q=NB) (hN:w.heap.size≤NB):Stp w w2 B r v v1 on st l:=
 ⟨h.rp.chg hc hn,h.chg.trans hc (fun q hq x=>absurd hN (by subst x;omega)),fun q hq=>h.new q hq⟩
set_option maxRecDepth 100000 in
set_option maxHeartbeats 3200000 in
theorem see_any (B r:Nat) (v:Value) (on:Bool) (st:Int) (l:List An) (a:An) (now:Int) (w:World) (h:Rp w B r v on st l) (hs:Tm st) (ha:Tm a.t) (hn:Tm now) (h1:a.c.1.length≤140737488351232) (h2:a.c.2.length≤140737488351232) (hl:l.length≤1000) :
  Calls Try.prog 15 #[.pointer (some ⟨r,0,none⟩),.agg (anA a),.int .i64 now] w fun e w'=>e = .returned (.int .i64 (seeE on st l a now))∧∃v',Stp w w' B r v v' on st (seeL on st l a now):=by
 obtain⟨W,eW⟩:∃W,W=(w.alloc (.cells (anA a) 31)).alloc (.cells #[.int .i64 now] 3):=⟨_,rfl⟩
 have hb:Below w.heap.size w W:=eW▸((Below.refl _ _).alloc (Nat.le_refl _) _).alloc (by simp) _
 have ha0:Blk W w.heap.size 31 (anA a):=eW▸(Blk.new w _ _).alloc _
 have hn0:Blk W (w.heap.size+1) 3 #[.int .i64 now]:=by
  have:=Blk.new (w.alloc (.cells (anA a) 31)) 3 #[.int .i64 now]
  simp only[World.size_alloc] at this
  exact eW▸this
 have hrp:=h.below hb
 have hvn:∀k,w.heap.size≤k→v.ownBlock≠some k:=fun k hk x=>by have:=(World.ownsRow.lt h.row _ x).2;omega
 have HRN:=Lib.hid (show ∀k,w.heap.size≤k→k≠r from fun k hk x=>by have:=h.lt;omega)
 have HVN:=Lib.hid hvn
 have C1:=Lib.hid (fun w1 (hk:Blk w1 r 50 #[v,.bool on,.int .i64 st])=>skewed_any r v on st a.t now w1 hk ha hn hs)
 have CD:=delf_any l now (w.heap.size+1) B v W hrp.row hrp.big (hn0.cell 0) ⟨hn,h.tm⟩ (hvn _ (by omega)) hl
 have CL1:=Lib.hid (fun(w1:World)=>Ca.sclone_big a.c.1 w1 h1)
 have CL2:=Lib.hid (fun(w1:World)=>Ca.sclone_big a.c.2 w1 h2)
 have HS0:=Lib.hid (⟨hrp,Chg.of_below hb,fun q hq=>.inl hq⟩:Stp w W B r v v on st l)
 have HA:=Lib.hid ha0
 have HTA:=Lib.hid ha
 obtain⟨l1,el⟩:∃l1,l1=keepL now l:=⟨_,rfl⟩
 have EL:=Lib.hid el
 obtain⟨iE,hiE,hzE,hsE,hbE⟩:=info_parts an_all
 have KI1:=Lib.hid hiE;have KI2:=Lib.hid hzE;have KI3:=Lib.hid hsE;have KI4:=Lib.hid hbE
 have SL1:=Lib.hid (fun(w1:World)=>Wh.run_build_one (P:=Try.prog) w1 39 31 (anA a) iE _ Try.underlying39 hiE hzE (by rw[hsE];rfl) (by simp) (by simp))
 have HLL:=Lib.hid hl
 have ka:=ha0.cell 2
 have kn:W.cell? ⟨w.heap.size+1,0,none⟩=some (.int .i64 now):=hn0.cell 0
 obtain⟨b0,e0⟩:∃b,b=skw on st a.t now:=⟨_,rfl⟩
 rw[←e0] at C1
 have E0:=Lib.hid e0
 clear hb ha0 hn0 hvn h hs ha hn h1 h2 hl hiE hzE hsE hbE e0
 cases b0 with
 |true=>
  clear CD CL1 CL2 SL1 HA
  go_enter Try.func15,Try.ntmps15
  go_upto_region 1 with fail
  rw[←eW]
  clear eW
  go_wp2_with (first
   |(go_at_call 19;refine Calls.mono (C1.out _ HS0.out.rp.blk) ?_;rintro e w1 ⟨rfl,hw⟩;subst hw;clear C1)
   |fail)
  go_ret
  exact⟨by rw[seeE,if_pos E0.out.symm];rfl,v,by rw[seeL,if_pos E0.out.symm];exact HS0.out⟩
 |false=>
  obtain⟨A0,c0,ev,_,_,_⟩:=hrp.num
  obtain⟨n,en⟩:∃n,n=l.length:=⟨_,rfl⟩
  have k0:W.cell? ⟨r,0,none⟩=some (.slice A0 n c0):=by rw[en,←ev];exact hrp.blk.cell 0
  have EV:=Lib.hid (show v = .slice A0 n c0 by rw[en];exact ev)
  have EV2:=EV.out
  rw[←el] at CD
  rw[EV2] at CD
  have HSK:=Lib.hid (fun x hx=>keep_mem (a:=x) (el▸hx):∀x∈l1,x∈l)
  clear en ev hrp el EV2
  go_enter Try.func15,Try.ntmps15
  go_upto_region 1 with fail
  rw[←eW]
  clear eW
  go_upto_region 6 with(first
   |(go_at_call 19;refine Calls.mono (C1.out _ HS0.out.rp.blk) ?_;rintro e w1 ⟨rfl,hw⟩;subst hw;clear C1)
   |(go_at_call 20;refine Calls.mono CD ?_;rintro e w2 ⟨v1,rfl,ho,hg,hv⟩;obtain⟨A1,c1,rfl,_⟩:=own_rdr anC_length ho;rw[←EV.out] at hg hv;have HG:=Lib.hid hg;have HV:=Lib.hid hv;have HO:=Lib.hid ho;clear hg hv ho CD k0;have hr2:=HS0.out.rp.blk.grown HG.out HS0.out.rp.vr;have f0:=hr2.frozen 0;have k0:w2.cell? ⟨r,0,none⟩=some v:=hr2.cell 0;clear hr2)
   |fail)
  obtain⟨m,em⟩:∃m,m=l1.length:=⟨_,rfl⟩
  have EM:=Lib.hid em
  have hm:m≤1000:=by have:=keep_le now l;have:=HLL.out;rw[em,EL.out];omega
  have hst:=HS0.out.trans (rp_rest HS0.out.rp HG.out HO.out HV.out HSK.out)
  rw[←em] at hst HV⊢
  have HP:=Lib.hid hst.rp
  replace HA:=Lib.hid (Si.Blk.far (HA.out.grown HG.out (HVN.out _ (Nat.le_refl _))) ⟨r,0,none⟩ (.slice A1 m c1) (fun x=>HRN.out _ (Nat.le_refl _) x.symm))
  obtain⟨W3,eW3⟩:∃W3,W3=w2.setCell ⟨r,0,none⟩ (.slice A1 m c1):=⟨_,rfl⟩
  rw[←eW3] at hst HP HA⊢
  have HST:=Lib.hid hst
  have hdr:Below W3.heap.size W3 W3.drew:=below_drewN (Below.refl _ _) 1
  replace HST:=Lib.hid (HST.out.below hdr)
  replace HP:=Lib.hid HST.out.rp
  replace HA:=Lib.hid (HA.out.below hdr)
  have CC:=Lib.hid (show ∀w1:World,Rp w1 B r (.slice A1 m c1) on st l1→Calls Try.prog 23 #[.slice A1 m c1,.agg (anA a)] w1 fun e w'=>e = .returned (.bool (decide (a∈l1)))∧Below w1.heap.size w1 w' from fun w1 h=>by
   obtain⟨A2,c2,e2,_,_,hr⟩:=h.num
   injection e2 with q1 _ q2
   have:=acontains_any l1 a A1 c1 w1.heap.size w1 (q1▸hr) (Nat.le_refl _) (by rw[←EM.out];exact hm)
   rw[←EM.out] at this
   exact this)
  have HNO:=Lib.hid (show ∀k,RO r (.slice A1 m c1) k→k=w.heap.size→False from fun k hk e=>by
   rcases hk with hk | hk
   ·exact HRN.out k (by omega) hk
   ·rw[HV.out] at hk;exact HVN.out k (by omega) hk)
  clear hst hdr em eW3 f0 k0 HG HV HO HS0 ka kn
  obtain⟨b1,e1⟩:∃b,b=decide (a∈l1):=⟨_,rfl⟩
  rw[←e1] at CC
  have E1:=Lib.hid e1
  obtain⟨NB,eNB⟩:∃z,z=w.heap.size:=⟨_,rfl⟩
  have HNR:=Lib.hid (show NB≠r from HRN.out _ (by omega))
  have HNV:Hid (Value.ownBlock (.slice A1 m c1)=some NB→False∨True):=Lib.hid (fun _=>.inr trivial)
  have HNL:=Lib.hid (show NB<W3.drew.heap.size from by rw[eNB];exact HA.out.lt)
  rw[←eNB] at HA⊢
  have HRN2:=Lib.hid (show ∀k,NB≤k→k≠r from fun k hk=>HRN.out k (by omega))
  have HNW:=Lib.hid (show ∀q,RO r (.slice A1 m c1) q→¬q=NB from fun q hq e=>HNO.out q hq (by omega))
  have HNG:=Lib.hid (show w.heap.size≤NB by omega)
  clear e1 hm HRN HVN HNV HNO eNB
  cases b1 with
  |true=>
   refine Reg.any_begin (fun w'=>Blk w' r 50 #[.slice A1 m c1,.bool on,.int .i64 st]∧Blk w' NB 31 (anA a)) 6 rfl (by kernel_rfl) ⟨HP.out.blk,HA.out⟩ ?_
   refine Reg.tk 0 (v:=?vta1) rfl ⟨HP.out.blk,HA.out⟩ (fun w' hS=>?hta1) ?rta1
   case hta1=>go_simp<;>rfl
   simp only[Act.put,Reg.s0,Reg.s1,Reg.s2]
   refine Reg.tk 1 (v:=?vta2) rfl ⟨HP.out.blk,HA.out⟩ (fun w' hS=>?hta2) ?rta2
   case hta2=>go_simp<;>rfl
   simp only[Act.put,Reg.s0,Reg.s1,Reg.s2]
   refine Reg.tk 2 (v:=?vta3) rfl ⟨HP.out.blk,HA.out⟩ (fun w' hS=>?hta3) ?rta3
   case hta3=>go_simp<;>rfl
   simp only[Act.put,Reg.s0,Reg.s1,Reg.s2]
   refine Reg.tk 3 (v:=?vta4) rfl ⟨HP.out.blk,HA.out⟩ (fun w' hS=>?hta4) ?rta4
   case hta4=>(have kq:w'.cell? ⟨r,0,none⟩=some (.slice A1 m c1):=hS.1.cell 0;go_simp<;>rfl)
   simp only[Act.put,Reg.s0,Reg.s1,Reg.s2]
   refine Reg.tk 4 (v:=.agg (anA a)) rfl ⟨HP.out.blk,HA.out⟩ (fun w' hS=>?hta5) ?rta5
   case hta5=>exact Wh.exec_load (.tmp 4) rfl rfl hS.2 Try.underlying31 rfl an_info
   simp only[Act.put,Reg.s0,Reg.s1,Reg.s2]
   refine Reg.both_all [5] (by kernel_rfl) (by simp) ?_
   intro j0 hj0
   obtain rfl:j0=5:=by simpa using hj0
   clear hj0
   right
   refine⟨_,_,_,_,_,_,23,#[.slice A1 m c1,.agg (anA a)],rfl,by rfl,by go_simp,?_⟩
   refine(CC.out _ HP.out).mono ?_
   rintro e WB ⟨rfl,hb⟩
   replace HST:=Lib.hid (HST.out.below hb)
   replace HP:=Lib.hid HST.out.rp
   replace HA:=Lib.hid (HA.out.below hb)
   clear hb
   refine⟨_,rfl,⟨HP.out.blk,HA.out⟩,?_⟩
   simp only[Act.put,Reg.s0,Reg.s1,Reg.s2]
   refine wpAnyH_done (by kernel_rfl) ?_ _
   go_wp2
   go_ret
   have hk:a∈keepL now l:=by rw[←EL.out];exact of_decide_eq_true E1.out.symm
   exact⟨by rw[seeE,if_neg (by rw[←E0.out];simp),if_pos hk];rfl,_,by rw[seeL,if_neg (by rw[←E0.out];simp),if_pos (.inl hk),←EL.out];exact HST.out⟩
  |false=>
   refine Reg.any_begin (fun w'=>Blk w' r 50 #[.slice A1 m c1,.bool on,.int .i64 st]∧Blk w' NB 31 (anA a)) 6 rfl (by kernel_rfl) ⟨HP.out.blk,HA.out⟩ ?_
   refine Reg.tk 0 (v:=?vtb1) rfl ⟨HP.out.blk,HA.out⟩ (fun w' hS=>?htb1) ?rtb1
   case htb1=>go_simp<;>rfl
   simp only[Act.put,Reg.s0,Reg.s1,Reg.s2]
   refine Reg.tk 1 (v:=?vtb2) rfl ⟨HP.out.blk,HA.out⟩ (fun w' hS=>?htb2) ?rtb2
   case htb2=>go_simp<;>rfl
   simp only[Act.put,Reg.s0,Reg.s1,Reg.s2]
   refine Reg.tk 2 (v:=?vtb3) rfl ⟨HP.out.blk,HA.out⟩ (fun w' hS=>?htb3) ?rtb3
   case htb3=>go_simp<;>rfl
   simp only[Act.put,Reg.s0,Reg.s1,Reg.s2]
   refine Reg.tk 3 (v:=?vtb4) rfl ⟨HP.out.blk,HA.out⟩ (fun w' hS=>?htb4) ?rtb4
   case htb4=>(have kq:w'.cell? ⟨r,0,none⟩=some (.slice A1 m c1):=hS.1.cell 0;go_simp<;>rfl)
   simp only[Act.put,Reg.s0,Reg.s1,Reg.s2]
   refine Reg.tk 4 (v:=.agg (anA a)) rfl ⟨HP.out.blk,HA.out⟩ (fun w' hS=>?htb5) ?rtb5
   case htb5=>exact Wh.exec_load (.tmp 4) rfl rfl hS.2 Try.underlying31 rfl an_info
   simp only[Act.put,Reg.s0,Reg.s1,Reg.s2]
   refine Reg.both_all [5] (by kernel_rfl) (by simp) ?_
   intro j0 hj0
   obtain rfl:j0=5:=by simpa using hj0
   clear hj0
   right
   refine⟨_,_,_,_,_,_,23,#[.slice A1 m c1,.agg (anA a)],rfl,by rfl,by go_simp,?_⟩
   refine(CC.out _ HP.out).mono ?_
   rintro e WB ⟨rfl,hb⟩
   replace HST:=Lib.hid (HST.out.below hb)
   replace HP:=Lib.hid HST.out.rp
   replace HA:=Lib.hid (HA.out.below hb)
   clear hb
   refine⟨_,rfl,⟨HP.out.blk,HA.out⟩,?_⟩
   simp only[Act.put,Reg.s0,Reg.s1,Reg.s2]
   refine wpAnyH_done (by kernel_rfl) ?_ _
   clear CC
   by_cases hfull:8≤m
   ·have t1:decide ((8:Int)≤(m:Int))=true:=decide_eq_true (by omega)
    have kr:WB.cell? ⟨r,0,none⟩=some (.slice A1 m c1):=HP.out.blk.cell 0
    have HF:=Lib.hid hfull
    clear hfull
    go_wp2
    go_ret
    have hk:¬a∈keepL now l:=by rw[←EL.out];exact of_decide_eq_false E1.out.symm
    have hf:8≤(keepL now l).length:=by rw[←EL.out,←EM.out];exact HF.out
    exact⟨by rw[seeE,if_neg (by rw[←E0.out];simp),if_neg hk,if_pos hf];rfl,_,by rw[seeL,if_neg (by rw[←E0.out];simp),if_pos (.inr hf),←EL.out];exact HST.out⟩
   ·have t1:decide ((8:Int)≤(m:Int))=false:=decide_eq_false (by omega)
    have kr:WB.cell? ⟨r,0,none⟩=some (.slice A1 m c1):=HP.out.blk.cell 0
    have HF:=Lib.hid hfull
    clear hfull
    go_upto_region 10 with fail
    clear kr t1
    have hdr:Below WB.heap.size WB WB.drew:=below_drewN (Below.refl _ _) 1
    replace HST:=Lib.hid (HST.out.below hdr)
    replace HP:=Lib.hid HST.out.rp
    replace HA:=Lib.hid (HA.out.below hdr)
    clear hdr
    refine Reg.any_begin (fun w'=>Blk w' NB 31 (anA a)) 11 rfl (by kernel_rfl) HA.out ?_
    refine Reg.tk 0 (v:=?vu1) rfl HA.out (fun w' hS=>?hu1) ?ru1
    case hu1=>go_simp<;>rfl
    simp only[Act.put,Reg.s0,Reg.s1,Reg.s2]
    refine Reg.tk 1 (v:=?vu2) rfl HA.out (fun w' hS=>?hu2) ?ru2
    case hu2=>go_simp<;>rfl
    simp only[Act.put,Reg.s0,Reg.s1,Reg.s2]
    refine Reg.tk 2 (v:=?vu3) rfl HA.out (fun w' hS=>?hu3) ?ru3
    case hu3=>(have kq:w'.cell? ⟨NB,0,none⟩=some (.string ⟨a.c.1.toArray⟩):=hS.cell 0;go_simp<;>rfl)
    simp only[Act.put,Reg.s0,Reg.s1,Reg.s2]
    refine Reg.tk 4 (v:=?vu4) rfl HA.out (fun w' hS=>?hu4) ?ru4
    case hu4=>go_simp<;>rfl
    simp only[Act.put,Reg.s0,Reg.s1,Reg.s2]
    refine Reg.tk 5 (v:=?vu5) rfl HA.out (fun w' hS=>?hu5) ?ru5
    case hu5=>go_simp<;>rfl
    simp only[Act.put,Reg.s0,Reg.s1,Reg.s2]
    refine Reg.tk 6 (v:=?vu6) rfl HA.out (fun w' hS=>?hu6) ?ru6
    case hu6=>(have kq:w'.cell? ⟨NB,1,none⟩=some (.string ⟨a.c.2.toArray⟩):=hS.cell 1;go_simp<;>rfl)
    simp only[Act.put,Reg.s0,Reg.s1,Reg.s2]
    refine Reg.both_all [3] (by kernel_rfl) (by simp) ?_
    intro j0 hj0
    obtain rfl:j0=3:=by simpa using hj0
    clear hj0
    right
    refine⟨_,_,_,_,_,_,24,#[.string ⟨a.c.1.toArray⟩],rfl,by rfl,by go_simp,?_⟩
    refine(CL1.out _).mono ?_
    rintro e wcu7 ⟨rfl,hb⟩
    replace HST:=Lib.hid (HST.out.below hb)
    replace HP:=Lib.hid HST.out.rp
    replace HA:=Lib.hid (HA.out.below hb)
    clear hb
    refine⟨_,rfl,HA.out,?_⟩
    simp only[Act.put,Reg.s0,Reg.s1,Reg.s2]
    refine Reg.both_all [7] (by kernel_rfl) (by simp) ?_
    intro j0 hj0
    obtain rfl:j0=7:=by simpa using hj0
    clear hj0
    right
    refine⟨_,_,_,_,_,_,24,#[.string ⟨a.c.2.toArray⟩],rfl,by rfl,by go_simp,?_⟩
    refine(CL2.out _).mono ?_
    rintro e wcu8 ⟨rfl,hb⟩
    replace HST:=Lib.hid (HST.out.below hb)
    replace HP:=Lib.hid HST.out.rp
    replace HA:=Lib.hid (HA.out.below hb)
    clear hb
    refine⟨_,rfl,HA.out,?_⟩
    simp only[Act.put,Reg.s0,Reg.s1,Reg.s2]
    refine Reg.tk 8 (v:=.agg #[.string ⟨a.c.1.toArray⟩,.string ⟨a.c.2.toArray⟩]) rfl HA.out (fun w' hS=>?hu9) ?ru9
    case hu9=>exact exec_build (by go_simp) (built_pr a.c)
    simp only[Act.put,Reg.s0,Reg.s1,Reg.s2]
    refine Reg.tk 9 (v:=?vu10) rfl HA.out (fun w' hS=>?hu10) ?ru10
    case hu10=>go_simp<;>rfl
    simp only[Act.put,Reg.s0,Reg.s1,Reg.s2]
    have q0:=HA.out.cell 0
    have q1:=HA.out.cell 1
    have fz0:=HA.out.frozen 0
    have fz1:=HA.out.frozen 1
    have ha2:Blk ((wcu8.setCell ⟨NB,0,none⟩ (.string ⟨a.c.1.toArray⟩)).setCell ⟨NB,1,none⟩ (.string ⟨a.c.2.toArray⟩)) NB 31 (anA a):=(HA.out.set 0 _).set 1 _
    have hc2:Chg (fun q=>q=NB) wcu8 ((wcu8.setCell ⟨NB,0,none⟩ (.string ⟨a.c.1.toArray⟩)).setCell ⟨NB,1,none⟩ (.string ⟨a.c.2.toArray⟩)):=((Chg.refl (fun q=>q=NB) wcu8).set (p:=⟨NB,0,none⟩) (.inl rfl) _).set (p:=⟨NB,1,none⟩) (.inl rfl) _
    refine Reg.any_store 10 ((wcu8.setCell ⟨NB,0,none⟩ (.string ⟨a.c.1.toArray⟩)).setCell ⟨NB,1,none⟩ (.string ⟨a.c.2.toArray⟩)) rfl (by kernel_rfl) (by rfl) (by go_simp) ha2 ?_
    simp only[Act.put,Reg.s0,Reg.s1,Reg.s2]
    clear q0 q1 fz0 fz1
    replace HST:=Lib.hid (stp_far HST.out hc2 HNW.out HNG.out)
    replace HP:=Lib.hid HST.out.rp
    replace HA:=Lib.hid ha2
    obtain⟨WSu11,eWSu11⟩:∃z,z=((wcu8.setCell ⟨NB,0,none⟩ (.string ⟨a.c.1.toArray⟩)).setCell ⟨NB,1,none⟩ (.string ⟨a.c.2.toArray⟩)):=⟨_,rfl⟩
    rw[←eWSu11] at HST HP HA⊢
    clear ha2 hc2 eWSu11
    refine wpAnyH_done (by kernel_rfl) ?_ _
    go_upto_region 11 with fail
    have hdr:Below WSu11.heap.size WSu11 WSu11.drew:=below_drewN (Below.refl _ _) 1
    replace HST:=Lib.hid (HST.out.below hdr)
    replace HP:=Lib.hid HST.out.rp
    replace HA:=Lib.hid (HA.out.below hdr)
    clear hdr
    refine Reg.any_begin (fun w'=>Blk w' NB 31 (anA a)) 11 rfl (by kernel_rfl) HA.out ?_
    refine Reg.tk 0 (v:=?vv11) rfl HA.out (fun w' hS=>?hv11) ?rv11
    case hv11=>go_simp<;>rfl
    simp only[Act.put,Reg.s0,Reg.s1,Reg.s2]
    refine Reg.tk 1 (v:=?vv12) rfl HA.out (fun w' hS=>?hv12) ?rv12
    case hv12=>go_simp<;>rfl
    simp only[Act.put,Reg.s0,Reg.s1,Reg.s2]
    refine Reg.tk 2 (v:=?vv13) rfl HA.out (fun w' hS=>?hv13) ?rv13
    case hv13=>go_simp<;>rfl
    simp only[Act.put,Reg.s0,Reg.s1,Reg.s2]
    refine Reg.tk 3 (v:=?vv14) rfl HA.out (fun w' hS=>?hv14) ?rv14
    case hv14=>go_simp<;>rfl
    simp only[Act.put,Reg.s0,Reg.s1,Reg.s2]
    refine Reg.tk 5 (v:=.agg (anA a)) rfl HA.out (fun w' hS=>?hv15) ?rv15
    case hv15=>exact Wh.exec_load (.tmp 4) rfl rfl hS Try.underlying31 rfl an_info
    simp only[Act.put,Reg.s0,Reg.s1,Reg.s2]
    refine Reg.both_all [4,6] (by kernel_rfl) (by simp) ?_
    intro j0 hj0
    have hj0:j0=4∨j0=6:=by simpa using hj0
    rcases hj0 with rfl | rfl
    ·left
     have kr:WSu11.drew.cell? ⟨r,0,none⟩=some (.slice A1 m c1):=HP.out.blk.cell 0
     refine⟨_,_,_,_,_,_,_,_,rfl,by rfl,by(go_simp;rfl),HA.out,?_⟩
     simp only[Act.put,Reg.s0,Reg.s1,Reg.s2]
     clear kr
     refine Reg.both_all [6] (by kernel_rfl) (by simp) ?_
     intro j0 hj0
     obtain rfl:j0=6:=by simpa using hj0
     clear hj0
     left
     have hb:Below WSu11.drew.heap.size WSu11.drew (WSu11.drew.alloc (.cells (anA a) 31)):=(Below.refl _ _).alloc (Nat.le_refl _) _
     refine⟨_,_,_,_,_,_,.slice (some ⟨WSu11.drew.heap.size,0,none⟩) 1 1,(WSu11.drew.alloc (.cells (anA a) 31)),rfl,by rfl,exec_slice rfl (SL1.out _),HA.out.below hb,?_⟩
     simp only[Act.put,Reg.s0,Reg.s1,Reg.s2]
     have HNB:=Lib.hid (Blk.new WSu11.drew 31 (anA a))
     replace HST:=Lib.hid (HST.out.below hb)
     replace HP:=Lib.hid HST.out.rp
     replace HA:=Lib.hid (HA.out.below hb)
     clear hb
     obtain⟨WTv16,eWTv16⟩:∃z,z=(WSu11.drew.alloc (.cells (anA a) 31)):=⟨_,rfl⟩
     rw[←eWTv16] at HNB HST HP HA⊢
     clear eWTv16
     refine Reg.both_all [7] (by kernel_rfl) (by simp) ?_
     intro j0 hj0
     obtain rfl:j0=7:=by simpa using hj0
     clear hj0
     left
     obtain⟨v6,w6,hrun,ho6,hg6,hv6⟩:=Wh.app_run (P:=Try.prog) anC 4 48 anC_length anC_one WTv16 39 39 31 iE _ Try.underlying39 KI1.out KI2.out KI3.out KI4.out rfl (by omega) B (.slice A1 m c1) l1 HP.out.row a WSu11.drew.heap.size HNB.out (by have:=EM.out;have:=HF.out;omega) (by omega) HP.out.big
     have hfin:=HST.out.trans (rp_put HP.out HTA.out ho6 hg6 hv6)
     have hr6:=HP.out.blk.grown hg6 HP.out.vr
     replace HA:=Lib.hid (HA.out.grown hg6 (fun x=>HNW.out _ (.inr x) rfl))
     refine⟨_,_,_,_,_,_,v6,w6,rfl,by rfl,exec_app rfl rfl hrun,HA.out,?_⟩
     simp only[Act.put,Reg.s0,Reg.s1,Reg.s2]
     refine Reg.tk 8 (v:=?vv17) rfl HA.out (fun w' hS=>?hv17) ?rv17
     case hv17=>go_simp<;>rfl
     simp only[Act.put,Reg.s0,Reg.s1,Reg.s2]
     refine Reg.tk 9 (v:=?vv18) rfl HA.out (fun w' hS=>?hv18) ?rv18
     case hv18=>go_simp<;>rfl
     simp only[Act.put,Reg.s0,Reg.s1,Reg.s2]
     obtain⟨A7,c7,e7,_⟩:=own_rdr anC_length ho6
     obtain⟨m7,em7⟩:∃m7,m7=(l1++[a]).length:=⟨_,rfl⟩
     rw[←em7] at e7
     subst e7
     have f0:=hr6.frozen 0
     have k6:w6.cell? ⟨r,0,none⟩=some _:=hr6.cell 0
     refine Reg.any_store 10 (w6.setCell ⟨r,0,none⟩ (.slice A7 m7 c7)) rfl (by kernel_rfl) (by rfl) (by go_simp) (Si.Blk.far HA.out _ _ (fun x=>HNR.out x.symm)) ?_
     simp only[Act.put,Reg.s0,Reg.s1,Reg.s2]
     clear f0 k6 hr6 ho6 hg6 hv6 hrun em7 HA HNB HP
     refine wpAnyH_done (by kernel_rfl) ?_ _
     have HFIN:=Lib.hid hfin
     clear hfin HST
     go_wp2
     go_ret
     have hk:¬a∈keepL now l:=by rw[←EL.out];exact of_decide_eq_false E1.out.symm
     have hf:¬8≤(keepL now l).length:=by rw[←EL.out,←EM.out];exact HF.out
     exact⟨by rw[seeE,if_neg (by rw[←E0.out];simp),if_neg hk,if_neg hf];rfl,_,by rw[seeL,if_neg (by rw[←E0.out];simp),if_neg (fun x=>x.elim hk hf),←EL.out];exact HFIN.out⟩
    ·left
     have hb:Below WSu11.drew.heap.size WSu11.drew (WSu11.drew.alloc (.cells (anA a) 31)):=(Below.refl _ _).alloc (Nat.le_refl _) _
     refine⟨_,_,_,_,_,_,.slice (some ⟨WSu11.drew.heap.size,0,none⟩) 1 1,(WSu11.drew.alloc (.cells (anA a) 31)),rfl,by rfl,exec_slice rfl (SL1.out _),HA.out.below hb,?_⟩
     simp only[Act.put,Reg.s0,Reg.s1,Reg.s2]
     have HNB:=Lib.hid (Blk.new WSu11.drew 31 (anA a))
     replace HST:=Lib.hid (HST.out.below hb)
     replace HP:=Lib.hid HST.out.rp
     replace HA:=Lib.hid (HA.out.below hb)
     clear hb
     obtain⟨WTv19,eWTv19⟩:∃z,z=(WSu11.drew.alloc (.cells (anA a) 31)):=⟨_,rfl⟩
     rw[←eWTv19] at HNB HST HP HA⊢
     clear eWTv19
     refine Reg.both_all [4] (by kernel_rfl) (by simp) ?_
     intro j0 hj0
     obtain rfl:j0=4:=by simpa using hj0
     clear hj0
     left
     have kr:WTv19.cell? ⟨r,0,none⟩=some (.slice A1 m c1):=HP.out.blk.cell 0
     refine⟨_,_,_,_,_,_,_,_,rfl,by rfl,by(go_simp;rfl),HA.out,?_⟩
     simp only[Act.put,Reg.s0,Reg.s1,Reg.s2]
     clear kr
     refine Reg.both_all [7] (by kernel_rfl) (by simp) ?_
     intro j0 hj0
     obtain rfl:j0=7:=by simpa using hj0
     clear hj0
     left
     obtain⟨v6,w6,hrun,ho6,hg6,hv6⟩:=Wh.app_run (P:=Try.prog) anC 4 48 anC_length anC_one WTv19 39 39 31 iE _ Try.underlying39 KI1.out KI2.out KI3.out KI4.out rfl (by omega) B (.slice A1 m c1) l1 HP.out.row a WSu11.drew.heap.size HNB.out (by have:=EM.out;have:=HF.out;omega) (by omega) HP.out.big
     have hfin:=HST.out.trans (rp_put HP.out HTA.out ho6 hg6 hv6)
     have hr6:=HP.out.blk.grown hg6 HP.out.vr
     replace HA:=Lib.hid (HA.out.grown hg6 (fun x=>HNW.out _ (.inr x) rfl))
     refine⟨_,_,_,_,_,_,v6,w6,rfl,by rfl,exec_app rfl rfl hrun,HA.out,?_⟩
     simp only[Act.put,Reg.s0,Reg.s1,Reg.s2]
     refine Reg.tk 8 (v:=?vv110) rfl HA.out (fun w' hS=>?hv110) ?rv110
     case hv110=>go_simp<;>rfl
     simp only[Act.put,Reg.s0,Reg.s1,Reg.s2]
     refine Reg.tk 9 (v:=?vv111) rfl HA.out (fun w' hS=>?hv111) ?rv111
     case hv111=>go_simp<;>rfl
     simp only[Act.put,Reg.s0,Reg.s1,Reg.s2]
     obtain⟨A7,c7,e7,_⟩:=own_rdr anC_length ho6
     obtain⟨m7,em7⟩:∃m7,m7=(l1++[a]).length:=⟨_,rfl⟩
     rw[←em7] at e7
     subst e7
     have f0:=hr6.frozen 0
     have k6:w6.cell? ⟨r,0,none⟩=some _:=hr6.cell 0
     refine Reg.any_store 10 (w6.setCell ⟨r,0,none⟩ (.slice A7 m7 c7)) rfl (by kernel_rfl) (by rfl) (by go_simp) (Si.Blk.far HA.out _ _ (fun x=>HNR.out x.symm)) ?_
     simp only[Act.put,Reg.s0,Reg.s1,Reg.s2]
     clear f0 k6 hr6 ho6 hg6 hv6 hrun em7 HA HNB HP
     refine wpAnyH_done (by kernel_rfl) ?_ _
     have HFIN:=Lib.hid hfin
     clear hfin HST
     go_wp2
     go_ret
     have hk:¬a∈keepL now l:=by rw[←EL.out];exact of_decide_eq_false E1.out.symm
     have hf:¬8≤(keepL now l).length:=by rw[←EL.out,←EM.out];exact HF.out
     exact⟨by rw[seeE,if_neg (by rw[←E0.out];simp),if_neg hk,if_neg hf];rfl,_,by rw[seeL,if_neg (by rw[←E0.out];simp),if_neg (fun x=>x.elim hk hf),←EL.out];exact HFIN.out⟩
end Go.Proofs.Ytnmeicnppablkaa.Rp
end

section
set_option linter.unusedVariables false
set_option linter.unusedSimpArgs false
namespace Go.Proofs.Ytnmeicnppablkaa.Rp
open Go.RowKit Go.Proofs.Ytnmeicnppablkaa.Mem Go.Proofs.Ytnmeicnppablkaa.Se
open Go.Proofs.Ytnmeicnppablkaa.Ms (An)
open Go.Proofs.Ytnmeicnppablkaa.Rg (RdR own_rdr own_chg)
structure Mkd (w w':World) (r:Nat) (v:Value) (on:Bool) (st:Int) (l:List An):Prop where
 rp:Rp w' w.heap.size r v on st l
 low:Below w.heap.size w w'
theorem new_any (t:Int) (w:World):Calls Try.prog 11 #[.int .i64 t] w fun e w'=>∃r,e = .returned (.pointer (some ⟨r,0,none⟩))∧Mkd w w' r (.slice none 0 0) (!decide (t=0)) t []:=by
 obtain⟨b,eb⟩:∃b,b = !decide (t=0):=⟨_,rfl⟩
 have h1:((t:Int) != 0)=b:=by rw[eb];rfl
 rw[←eb]
 clear eb
 go_enter Try.func11,Try.ntmps11
 go_wp2
 go_ret
 exact⟨_,rfl,⟨Blk.new _ _ _,⟨rfl,.inl ⟨rfl,rfl⟩⟩,Nat.le_refl _,by simp [Value.ownBlock],by simp⟩,(Below.refl _ _).alloc (Nat.le_refl _) _⟩
theorem len_any {w:World} {B r:Nat} {v:Value} {on:Bool} {st:Int} {l:List An} (h:Rp w B r v on st l):Calls Try.prog 17 #[.pointer (some ⟨r,0,none⟩)] w fun e w'=>e = .returned (.int .i64 (l.length:Int))∧w'=w:=by
 obtain⟨A,c,rfl,_,_,_⟩:=h.num
 obtain⟨n,en⟩:∃n,n=l.length:=⟨_,rfl⟩
 rw[←en] at h⊢
 have k0:w.cell? ⟨r,0,none⟩=some (.slice A n c):=h.blk.cell 0
 clear h en
 go_enter Try.func17,Try.ntmps17
 go_wp2
 go_ret
 exact⟨rfl,rfl⟩
theorem restart_any {w:World} {B r:Nat} {v:Value} {on:Bool} {st:Int} {l:List An} (t:Int) (h:Rp w B r v on st l):Calls Try.prog 13 #[.pointer (some ⟨r,0,none⟩),.int .i64 t] w fun e w'=>e = .returned (.tuple #[])∧Stp w w' B r v (.slice none 0 0) true t []:=by
 have k0:w.cell? ⟨r,0,none⟩=some v:=h.blk.cell 0
 have k1:w.cell? ⟨r,1,none⟩=some (.bool on):=h.blk.cell 1
 have k2:w.cell? ⟨r,2,none⟩=some (.int .i64 st):=h.blk.cell 2
 have f0:=h.blk.frozen
 have HB:=Lib.hid (((h.blk.set 0 (.slice none 0 0)).set 1 (.bool true)).set 2 (.int .i64 t))
 have HC:=Lib.hid ((((Chg.refl (fun q=>q=r) w).set (p:=⟨r,0,none⟩) (.inl rfl) (.slice none 0 0)).set (p:=⟨r,1,none⟩) (.inl rfl) (.bool true)).set (p:=⟨r,2,none⟩) (.inl rfl) (.int .i64 t))
 have HL:=Lib.hid h.lo
 clear h
 go_enter Try.func13,Try.ntmps13
 go_wp2
 go_end0
 refine⟨rfl,⟨HB.out,⟨rfl,.inl ⟨rfl,rfl⟩⟩,HL.out,by simp [Value.ownBlock],by simp⟩,HC.out.mono (fun q _ x=>.inl x),fun q hq=>?_⟩
 rcases hq with hq | hq
 ·exact .inl (.inl hq)
 ·simp [Value.ownBlock] at hq
section
variable {w w1 w2:World} {B r:Nat} {v v2:Value} {on on2:Bool} {st st2:Int} {l l2:List An}
theorem Stp.low (h:Stp w1 w2 B r v v2 on2 st2 l2) (hr:Rp w1 B r v on st l) (hB:Below B w w1):Below B w w2:=hB.trans (h.chg.below hr.big (fun i _ hi=>hr.own_lo hi))
theorem new_b (t:Int) (on:Bool) (ho:(!decide (t=0))=on) (w:World) (hB:w.heap.size=B):Calls Try.prog 11 #[.int .i64 t] w fun e w'=>∃r,e = .returned (.pointer (some ⟨r,0,none⟩))∧Rp w' B r (.slice none 0 0) on t []∧Below B w w':=by
 subst ho hB
 refine(new_any t w).mono ?_
 rintro e w' ⟨r,rfl,h⟩
 exact⟨r,rfl,h.rp,h.low⟩
theorem see_b (a:An) (now:Int) {cs:Array Value} {n:Int} (hc:anA a=cs) (hE:seeE on st l a now=n) (hL:seeL on st l a now=l2) (h:Rp w1 B r v on st l) (hs:Tm st) (ha:Tm a.t) (hn:Tm now) (h1:a.c.1.length≤140737488351232) (h2:a.c.2.length≤140737488351232) (hl:l.length≤1000) :
  Calls Try.prog 15 #[.pointer (some ⟨r,0,none⟩),.agg cs,.int .i64 now] w1 fun e w'=>e = .returned (.int .i64 n)∧∃v',Rp w' B r v' on st l2∧Below B w1 w':=by
 subst hc hE hL
 refine(see_any B r v on st l a now w1 h hs ha hn h1 h2 hl).mono ?_
 rintro e w' ⟨rfl,v',k⟩
 exact⟨rfl,v',k.rp,k.low h (Below.refl _ _)⟩
theorem len_b {n:Int} (hn:(l.length:Int)=n) (h:Rp w1 B r v on st l):Calls Try.prog 17 #[.pointer (some ⟨r,0,none⟩)] w1 fun e w'=>e = .returned (.int .i64 n)∧w'=w1:=by
 subst hn
 exact len_any h
end
abbrev a51:An:=⟨([],[]),5,1⟩
abbrev a52:An:=⟨([],[]),5,2⟩
set_option maxRecDepth 100000 in
set_option maxHeartbeats 1600000 in
theorem known_any (w:World):Calls Try.prog 18 #[] w fun e w'=>e = .returned (.bool true)∧Below w.heap.size w w':=by
 obtain⟨B,eB⟩:∃B,B=w.heap.size:=⟨_,rfl⟩
 have c0:=new_b (B:=B) 0 false (by decide) w eB.symm
 have C1:=Lib.hid (fun(w1:World) (r:Nat) (v:Value) (h:Rp w1 B r v false 0 [])=>see_b (l2:=[a51]) (n:=0) a51 5 (cs:=#[.string ⟨#[]⟩,.string ⟨#[]⟩,.int .i64 5,.int .i64 1]) rfl (by decide) (by decide) h (by decide) (by decide) (by decide) (by simp) (by simp) (by simp))
 have C2:=Lib.hid (fun(w1:World) (r:Nat) (v:Value) (h:Rp w1 B r v false 0 [a51])=>see_b (l2:=[a51]) (n:=12) a51 6 (cs:=#[.string ⟨#[]⟩,.string ⟨#[]⟩,.int .i64 5,.int .i64 1]) rfl (by decide) (by decide) h (by decide) (by decide) (by decide) (by simp) (by simp) (by simp))
 have C3:=Lib.hid (fun(w1:World) (r:Nat) (v:Value) (h:Rp w1 B r v false 0 [a51])=>see_b (l2:=[a51,a52]) (n:=0) a52 6 (cs:=#[.string ⟨#[]⟩,.string ⟨#[]⟩,.int .i64 5,.int .i64 2]) rfl (by decide) (by decide) h (by decide) (by decide) (by decide) (by simp) (by simp) (by simp))
 have CL:=Lib.hid (fun(w1:World) (r:Nat) (v:Value) (h:Rp w1 B r v false 0 [a51,a52])=>len_b (n:=2) rfl h)
 have EB:=Lib.hid eB
 clear eB
 go_enter Try.func18,Try.ntmps18
 go_wp2_with (first
  |(go_at_call 11;refine Calls.mono c0 ?_;rintro e w1 ⟨r,rfl,hp,hb⟩;have HP:=Lib.hid hp;have HB:=Lib.hid hb;clear hp hb c0;have c1:=C1.out _ _ _ HP.out;clear C1)
  |(go_at_call 15;refine Calls.mono c1 ?_;rintro e w2 ⟨rfl,v2,hp,hb⟩;replace HP:=Lib.hid hp;replace HB:=Lib.hid (HB.out.trans hb);clear hp hb c1;have c2:=C2.out _ _ _ HP.out;clear C2)
  |(go_at_call 15;refine Calls.mono c2 ?_;rintro e w2 ⟨rfl,v2,hp,hb⟩;replace HP:=Lib.hid hp;replace HB:=Lib.hid (HB.out.trans hb);clear hp hb c2;have c3:=C3.out _ _ _ HP.out;clear C3)
  |(go_at_call 15;refine Calls.mono c3 ?_;rintro e w2 ⟨rfl,v2,hp,hb⟩;replace HP:=Lib.hid hp;replace HB:=Lib.hid (HB.out.trans hb);clear hp hb c3;have c4:=CL.out _ _ _ HP.out;clear CL)
  |(go_at_call 17;refine Calls.mono c4 ?_;rintro e w2 ⟨rfl,hw⟩;subst hw;clear c4)
  |fail)
 go_ret
 exact⟨rfl,by rw[←EB.out];exact HB.out⟩
end Go.Proofs.Ytnmeicnppablkaa.Rp
end

section
set_option linter.unusedVariables false
namespace Go.Proofs.Ytnmeicnppablkaa.OpenP
open Go.Joins Go.ChangeShapes Go.WideShapes Go.ChangeAt Go.RowKit Go.Deep Go.Proofs.Ytnmeicnppablkaa Go.Proofs.Ytnmeicnppablkaa.Mem Go.Proofs.Ytnmeicnppablkaa.Rg
theorem cut {α:Type} (cs:List α) (o c:Nat):cs.drop o=(cs.drop o).take c++cs.drop (o+c):=by
 rw[←List.drop_drop];exact(List.take_append_drop c _).symm
section
variable {H:Type} {enc:TypeId×Value→H} {W:World}
theorem c_str:Try.prog.cellsOf 9=1:=by kernel_rfl
theorem c_int:Try.prog.cellsOf 3=1:=by kernel_rfl
theorem c_pr:Try.prog.cellsOf 29=2:=by kernel_rfl
theorem in_str {n:Nat} {cs:List Value} {x:DataW H×List MemPlace} (h:DataW.trod enc Try.prog W 0 (fun _=>true) true n 9 cs=some x) (hw:∀n∈DataW.weights Try.prog 9 x.1,n≤reachBytes):∃l:List UInt8,cs = [.string ⟨l.toArray⟩]∧l.length≤reachBytes:=by
 obtain⟨s,hs,hx,hz⟩:=DataW.trod_string Try.underlying9 h
 exact⟨s.data.toList,by rw[hs,←Mem.bytes_eta s],hw _ (by rw[hx];simp [DataW.weights])⟩
theorem in_int {n:Nat} {cs:List Value} {x:DataW H×List MemPlace} (h:DataW.trod enc Try.prog W 0 (fun _=>true) true n 3 cs=some x):∃i:Int,cs = [.int .i64 i]∧(Lit.int .i64 i).wf=true:=by
 obtain⟨i,h1,_,h2⟩:=DataW.trod_int Try.underlying3 h
 exact⟨i,h1,h2⟩
theorem in_pr {n:Nat} {cs:List Value} {x:DataW H×List MemPlace} (h:DataW.trod enc Try.prog W 0 (fun _=>true) true n 29 cs=some x) (hw:∀n∈DataW.weights Try.prog 29 x.1,n≤reachBytes):∃p:Pr,cs = [.string ⟨p.1.toArray⟩,.string ⟨p.2.toArray⟩]∧p.1.length≤reachBytes∧p.2.length≤reachBytes:=by
 obtain⟨y0,y1,m,hx,hl,h0,h1⟩:=trod_struct2 Try.underlying29 h
 simp only[c_str] at h0 h1
 have fw:=fun(j:Nat) (t:TypeId) (d:DataW H) (ht:[9,9][j]? = some t) (hd:[y0.1,y1.1][j]? = some d) (n:Nat) (hn:n∈d.weights Try.prog t)=>hw n (by rw[hx];simp only[DataW.weights,Try.underlying29];exact DataW.weights_mem_each ht hd n hn)
 obtain⟨l0,e0,b0⟩:=in_str h0 (fw 0 _ _ rfl rfl)
 obtain⟨l1,e1,b1⟩:=in_str h1 (fw 1 _ _ rfl rfl)
 rw[c_pr] at hl
 refine⟨(l0,l1),?_,b0,b1⟩
 have k0:=cut cs 0 1
 have k1:=cut cs 1 1
 rw[e0] at k0
 rw[show 0+1=1 from rfl,k1,e1,List.drop_of_length_le (show cs.length≤1+1 by omega)] at k0
 exact k0
theorem fn_list {α:Type} {n:Nat} {p:Nat→α→Prop} (h:∀i,i<n→∃a,p i a):∃l:List α,l.length=n∧∀i (hi:i<l.length),p i l[i]:=by
 induction n with
 |zero=>exact⟨[],rfl,fun i hi=>by simp at hi⟩
 |succ n ih=>
  obtain⟨l,hl,hp⟩:=ih fun i hi=>h i (by omega)
  obtain⟨a,ha⟩:=h n (by omega)
  refine⟨l++[a],by simp [hl],fun i hi=>?_⟩
  rw[List.length_append,List.length_singleton] at hi
  by_cases g:i<l.length
  ·rw[List.getElem_append_left g];exact hp i g
  ·obtain rfl:i=l.length:=by omega
   rw[List.getElem_append_right (Nat.le_refl _)]
   simp only[Nat.sub_self,List.getElem_cons_zero]
   rw[hl];exact ha
end
end Go.Proofs.Ytnmeicnppablkaa.OpenP
end

section
set_option linter.unusedVariables false
namespace Go.Proofs.Ytnmeicnppablkaa.OpenA
open Go.Joins Go.ChangeShapes Go.WideShapes Go.ChangeAt Go.RowKit Go.Deep Go.Proofs.Ytnmeicnppablkaa Go.Proofs.Ytnmeicnppablkaa.Mem Go.Proofs.Ytnmeicnppablkaa.Rp
open Go.Proofs.Ytnmeicnppablkaa.Rg (Pr)
open Go.Proofs.Ytnmeicnppablkaa.Ms (An)
section
variable {H:Type} {enc:TypeId×Value→H} {W:World}
theorem c_an:Try.prog.cellsOf 31=4:=by kernel_rfl
set_option maxRecDepth 100000 in
theorem in_an {n:Nat} {cs:List Value} {x:DataW H×List MemPlace} (h:DataW.trod enc Try.prog W 0 (fun _=>true) true n 31 cs=some x) (hw:∀n∈DataW.weights Try.prog 31 x.1,n≤reachBytes):∃a:An,cs=anC a∧a.c.1.length≤reachBytes∧a.c.2.length≤reachBytes∧(Lit.int .i64 a.t).wf=true∧(Lit.int .i64 a.q).wf=true:=by
 obtain⟨xs,m,_,hx,hl,hxl,hf⟩:=DataW.trod_struct Try.underlying31 h
 rw[c_an] at hl
 match xs,hxl with
 | [y0,y1,y2],_=>
  have fw:=fun(j:Nat) (t:TypeId) (d:DataW H) (ht:_[j]? = some t) (hd:[y0.1,y1.1,y2.1][j]? = some d) (n:Nat) (hn:n∈d.weights Try.prog t)=>hw n (by rw[hx];simp only[DataW.weights,Try.underlying31];exact DataW.weights_mem_each ht hd n hn)
  have h0:DataW.trod enc Try.prog W 0 (fun _=>true) true m 29 ((cs.drop 0).take (Try.prog.cellsOf 29))=some y0:=hf 0 _ rfl
  rw[OpenP.c_pr] at h0
  obtain⟨l0,e0,b0,d0⟩:=OpenP.in_pr h0 (fw 0 _ _ rfl rfl)
  have q0:=OpenP.cut cs 0 2
  rw[e0] at q0
  have h1:DataW.trod enc Try.prog W 0 (fun _=>true) true m 3 ((cs.drop 2).take (Try.prog.cellsOf 3))=some y1:=hf 1 _ rfl
  rw[OpenP.c_int] at h1
  obtain⟨l1,e1,b1⟩:=OpenP.in_int h1
  have q1:=OpenP.cut cs 2 1
  rw[e1] at q1
  have h2:DataW.trod enc Try.prog W 0 (fun _=>true) true m 3 ((cs.drop 3).take (Try.prog.cellsOf 3))=some y2:=hf 2 _ rfl
  rw[OpenP.c_int] at h2
  obtain⟨l2,e2,b2⟩:=OpenP.in_int h2
  have q2:=OpenP.cut cs 3 1
  rw[e2] at q2
  have k:cs=cs.drop 0:=rfl
  rw[q0,show 0+2=2 from rfl] at k
  rw[q1,show 2+1=3 from rfl] at k
  rw[q2,show 3+1=4 from rfl] at k
  rw[show cs.drop 4 = [] from List.drop_of_length_le (by omega)] at k
  clear hf h h0 q0 e0 h1 q1 e1 h2 q2 e2
  exact⟨⟨l0,l1,l2⟩,k,b0,d0,b1,b2⟩
structure Ac where
 k:Int
 a:An
 b:Int
abbrev aC (x:Ac):List Value:=[.int .i64 x.k,.string ⟨x.a.c.1.toArray⟩,.string ⟨x.a.c.2.toArray⟩,.int .i64 x.a.t,.int .i64 x.a.q,.int .i64 x.b]
theorem aC_length (x:Ac):(aC x).length=6:=rfl
def AcR (x:Ac):Prop:=x.a.c.1.length≤reachBytes∧x.a.c.2.length≤reachBytes∧(Lit.int .i64 x.k).wf=true∧(Lit.int .i64 x.a.t).wf=true∧(Lit.int .i64 x.a.q).wf=true∧(Lit.int .i64 x.b).wf=true
def RdAc (w:World) (B:Nat) (A:Option Addr) (l:List Ac):Prop:=
 l = []∨∃g o,A=some ⟨g,o,none⟩∧g<B∧∀i x,l[i]? = some x→w.rangeAt g (o+i*6) (aC x)
theorem RdAc.keep {w w':World} {B:Nat} {A:Option Addr} {l:List Ac} (h:RdAc w B A l) (hb:Below B w w'):RdAc w' B A l:=by
 rcases h with h | ⟨g,o,h1,h2,h3⟩
 ·exact .inl h
 ·exact .inr ⟨g,o,h1,h2,fun i x hx j v hv=>(hb.cell (p:=⟨g,_,none⟩) h2).trans (h3 i x hx j v hv)⟩
theorem RdAc.at_ {w:World} {B:Nat} {A:Option Addr} {l:List Ac} {i:Nat} {x:Ac} (h:RdAc w B A l) (hx:l[i]? = some x):∃g o,A=some ⟨g,o,none⟩∧g<B∧w.rangeAt g (o+i*6) (aC x):=by
 rcases h with h | ⟨g,o,h1,h2,h3⟩
 ·subst h;simp at hx
 ·exact⟨g,o,h1,h2,h3 i x hx⟩
theorem mem_weightsAll {H:Type} {P:Program} {e:TypeId} {n:Nat}:∀{l:List (DataW H)} {d:DataW H},d∈l→n∈d.weights P e→n∈DataW.weightsAll P e l
 |x :: r,d,h,hn=>by
  rw[DataW.weightsAll]
  rcases List.mem_cons.1 h with h | h
  ·subst h;exact List.mem_append.2 (.inl hn)
  ·exact List.mem_append.2 (.inr (mem_weightsAll h hn))
theorem c_ac:Try.prog.cellsOf 33=6:=by kernel_rfl
set_option maxRecDepth 100000 in
theorem in_ac {n:Nat} {cs:List Value} {x:DataW H×List MemPlace} (h:DataW.trod enc Try.prog W 0 (fun _=>true) true n 33 cs=some x) (hw:∀n∈DataW.weights Try.prog 33 x.1,n≤reachBytes):∃a:Ac,cs=aC a∧AcR a:=by
 obtain⟨xs,m,_,hx,hl,hxl,hf⟩:=DataW.trod_struct Try.underlying33 h
 rw[c_ac] at hl
 match xs,hxl with
 | [y0,y1,y2],_=>
  have fw:=fun(j:Nat) (t:TypeId) (d:DataW H) (ht:_[j]? = some t) (hd:[y0.1,y1.1,y2.1][j]? = some d) (n:Nat) (hn:n∈d.weights Try.prog t)=>hw n (by rw[hx];simp only[DataW.weights,Try.underlying33];exact DataW.weights_mem_each ht hd n hn)
  have h0:DataW.trod enc Try.prog W 0 (fun _=>true) true m 3 ((cs.drop 0).take (Try.prog.cellsOf 3))=some y0:=hf 0 _ rfl
  rw[OpenP.c_int] at h0
  obtain⟨l0,e0,b0⟩:=OpenP.in_int h0
  have q0:=OpenP.cut cs 0 1
  rw[e0] at q0
  have h1:DataW.trod enc Try.prog W 0 (fun _=>true) true m 31 ((cs.drop 1).take (Try.prog.cellsOf 31))=some y1:=hf 1 _ rfl
  rw[c_an] at h1
  obtain⟨l1,e1,b1,d1,f1,g1⟩:=in_an h1 (fw 1 _ _ rfl rfl)
  have q1:=OpenP.cut cs 1 4
  rw[e1] at q1
  have h2:DataW.trod enc Try.prog W 0 (fun _=>true) true m 3 ((cs.drop 5).take (Try.prog.cellsOf 3))=some y2:=hf 2 _ rfl
  rw[OpenP.c_int] at h2
  obtain⟨l2,e2,b2⟩:=OpenP.in_int h2
  have q2:=OpenP.cut cs 5 1
  rw[e2] at q2
  have k:cs=cs.drop 0:=rfl
  rw[q0,show 0+1=1 from rfl] at k
  rw[q1,show 1+4=5 from rfl] at k
  rw[q2,show 5+1=6 from rfl] at k
  rw[show cs.drop 6 = [] from List.drop_of_length_le (by omega)] at k
  clear hf h h0 q0 e0 h1 q1 e1 h2 q2 e2
  exact⟨⟨l0,l1,l2⟩,k,b1,d1,b0,f1,g1,b2⟩
set_option maxRecDepth 100000 in
theorem open_acts {v:Value} {d:DataW H} {ps:List MemPlace} (hv:∃A n c,v = .slice A n c) (h:DataW.Trod enc Try.prog W 0 (fun _=>true) true 22 v d ps) (hw:∀n∈DataW.weights Try.prog 22 d,n≤reachBytes) :
  ∃A l c,v = .slice A (List.length l) c∧RdAc W W.heap.size A l∧l.length≤c∧c≤maxLen∧∀(i:Nat) (x:Ac),l[i]? = some x→AcR x:=by
 obtain⟨A,n,c,rfl⟩:=hv
 obtain⟨fuel,hf⟩:=h
 have ht:=Try.underlying22
 rcases DataW.trod_slice ht hf with⟨h0,_⟩ | ⟨a,len,cap,elems,rest,m,_,hv,hx,_,hl,hm,hlen,hel,_,_⟩
 ·injection h0 with h0
  exact⟨none,[],0,h0,.inl rfl,Nat.le_refl _,Nat.zero_le _,fun i x hx=>by simp at hx⟩
 ·injection hv with hv
  subst hlen
  have each:∀i,i<elems.length→∃x:Ac,(∀j u,(aC x)[j]? = some u→W.cell? (a.add (i*6+j))=some u)∧AcR x:=by
   intro i hi
   have h1:=hel i hi
   rw[List.getElem?_eq_getElem hi,Option.bind_eq_some_iff] at h1
   obtain⟨cs,h2,h3⟩:=h1
   rw[c_ac] at h2
   obtain⟨_,h4,h5⟩:=World.cells?_some h2
   obtain⟨x,rfl,b1⟩:=in_ac h3 (fun n hn=>hw n (by
    have hd:d = .slice (elems.map (·.1)) (rest.map (·.1)):=congrArg Prod.fst hx
    rw[hd]
    simp only[DataW.weights,ht]
    exact List.mem_cons.2 (.inr (List.mem_append.2 (.inl (mem_weightsAll (List.mem_map.2 ⟨_,List.getElem_mem hi,rfl⟩) hn))))))
   refine⟨x,fun j u hu=>?_,b1⟩
   have hj:j<6:=by have:=(List.getElem?_eq_some_iff.1 hu).1;rw[aC_length] at this;exact this
   have h6:=h5 j hj
   rw[←hu,←h6]
   congr 1
   exact(Go.Deep.add_add a (i*6) j).symm
  obtain⟨l,hll,hp⟩:=OpenP.fn_list each
  have hv2:(Value.slice A n c) = .slice (some a) l.length cap:=by rw[hll];exact hv
  refine⟨some a,l,cap,hv2,?_,by omega,hm,fun i x hx=>?_⟩
  ·rcases Nat.eq_zero_or_pos l.length with g | g
   ·exact .inl (List.eq_nil_of_length_eq_zero g)
   ·have c0:=(hp 0 g).1 0 (.int .i64 l[0].k) rfl
    rw[show a.add (0*6+0)=a by simp [Addr.add]] at c0
    obtain⟨b,o,rfl⟩:=Open.addr_none c0
    refine .inr ⟨b,o,rfl,World.block_lt_of_cell? W _ c0,fun i x hx j u hu=>?_⟩
    obtain⟨hi,e⟩:=List.getElem?_eq_some_iff.1 hx
    have:=(hp i hi).1 j u (by rw[e];exact hu)
    rw[addr_add] at this
    rw[Nat.add_assoc]
    exact this
  ·obtain⟨hi,e⟩:=List.getElem?_eq_some_iff.1 hx
   rw[←e];exact(hp i hi).2
end
end Go.Proofs.Ytnmeicnppablkaa.OpenA
end

section
set_option linter.unusedVariables false
set_option linter.unusedSimpArgs false
namespace Go.Proofs.Ytnmeicnppablkaa.Rp
open Go.RowKit Go.Proofs.Ytnmeicnppablkaa.Mem Go.Proofs.Ytnmeicnppablkaa.Se Go.Proofs.Ytnmeicnppablkaa.OpenA
open Go.Proofs.Ytnmeicnppablkaa.Ms (An)
def Sm (x:Ac):Prop:=x.a.c.1.length≤3000∧x.a.c.2.length≤3000∧0≤x.a.t∧x.a.t≤1073741824
set_option maxRecDepth 100000 in
set_option maxHeartbeats 3200000 in
theorem long_any (A:Option Addr) (l:List Ac) (c:Nat) (w:World) (hr:RdAc w w.heap.size A l) (hz:∀(i:Nat) (x:Ac),l[i]? = some x→AcR x) :
  Calls Try.prog 10 #[.slice A l.length c] w fun e w'=>∃b,e = .returned (.bool b)∧(b=false→∀(i:Nat) (x:Ac),i<80→l[i]? = some x→Sm x)∧Below w.heap.size w w':=by
 obtain⟨n,en⟩:∃n,n=l.length:=⟨_,rfl⟩
 rw[←en]
 have EN:=Lib.hid en
 have HR:=Lib.hid hr
 have HZ:=Lib.hid hz
 have HB:=Lib.hid (Below.refl w.heap.size w)
 clear hr hz en
 go_enter Try.func10,Try.ntmps10
 go_wp2
 go_loopw [3,4] (fun sv iv wr=>∃i t:Nat,i≤n∧i≤80∧t≤3000∧iv = .int .i64 (i:Int)∧sv = .int .i64 (t:Int)∧(∀(j:Nat) (x:Ac),j<i→l[j]? = some x→Sm x)∧Below w.heap.size w wr) (fun _ iv _=>n - (intOf iv).toNat)
 case atStart=>exact⟨0,0,Nat.zero_le _,by decide,by decide,rfl,rfl,fun j x hj=>absurd hj (Nat.not_lt_zero _),HB.out⟩
 case round=>
  clear HB
  obtain⟨i,t,hi,hi6,ht,rfl,rfl,hno,hb⟩:=hrel
  have HB:=Lib.hid hb;have HNO:=Lib.hid hno;have HI:=Lib.hid hi;have HI6:=Lib.hid hi6;have HT:=Lib.hid ht
  clear hb hno
  by_cases hlt:i<n
  ·have e1:decide ((i:Int)<(n:Int))=true:=by simp;omega
   by_cases h6:i<80
   ·have e2:decide ((i:Int)<80)=true:=by simp;omega
    have e3:(i:Int)<(n:Int):=by omega
    have e4:(0:Int)≤(i:Int):=by omega
    have e5:(i:Int)<80:=by omega
    have e6:(t:Int)≤3000:=by omega
    have e7:(0:Int)≤(t:Int):=by omega
    obtain⟨x,hx⟩:∃x,l[i]? = some x:=⟨l[i]'(by rw[←EN.out];exact hlt),List.getElem?_eq_getElem _⟩
    obtain⟨g,o,rfl,hg,hra⟩:=HR.out.at_ hx
    have hra2:wr.rangeAt g (o+i*6) (aC x):=fun j v hv=>(HB.out.cell (p:=⟨g,_,none⟩) hg).trans (hra j v hv)
    have k1:wr.cell? ⟨g,o+i*6+1,none⟩=some (.string ⟨x.a.c.1.toArray⟩):=hra2 1 _ rfl
    have k2:wr.cell? ⟨g,o+i*6+1+1,none⟩=some (.string ⟨x.a.c.2.toArray⟩):=hra2 2 _ rfl
    have k4:wr.cell? ⟨g,o+i*6+1+2,none⟩=some (.int .i64 x.a.t):=hra2 3 _ rfl
    obtain⟨z1,z2,_⟩:=HZ.out i x hx
    have HX:=Lib.hid hx
    have z1:x.a.c.1.length≤140737488351232:=z1
    have z2:x.a.c.2.length≤140737488351232:=z2
    have f1:(x.a.c.1.length:Int)≤140737488351232:=by omega
    have f2:(x.a.c.2.length:Int)≤140737488351232:=by omega
    have w1:IntKind.i64.wrap ((t:Int)+1)=(t:Int)+1:=by rw[IntKind.wrap_i64];omega
    have w2:IntKind.i64.wrap ((t:Int)+1+(x.a.c.2.length:Int))=(t:Int)+1+(x.a.c.2.length:Int):=by rw[IntKind.wrap_i64];omega
    have w3:IntKind.i64.wrap ((t:Int)+1+(x.a.c.2.length:Int)+(x.a.c.1.length:Int))=(t:Int)+1+(x.a.c.2.length:Int)+(x.a.c.1.length:Int):=by rw[IntKind.wrap_i64];omega
    clear hra hra2 hx z1 z2 hi hi6 ht
    by_cases hs:t+1+x.a.c.2.length+x.a.c.1.length≤3000
    ·have e8:decide ((3000:Int)<(t:Int)+1+(x.a.c.2.length:Int)+(x.a.c.1.length:Int))=false:=by simp;omega
     have HS:=Lib.hid hs;clear hs
     by_cases t1:x.a.t<0
     ·have d1:decide (x.a.t<0)=true:=decide_eq_true t1
      clear t1
      go_wp2
      go_quiet (fail)
      go_wp2
      go_ret
      exact⟨true,rfl,(fun h=>by cases h),below_drewN HB.out _⟩
     ·have d1:decide (x.a.t<0)=false:=decide_eq_false t1
      by_cases t2:1073741824<x.a.t
      ·have d2:decide (1073741824<x.a.t)=true:=decide_eq_true t2
       clear t1 t2
       go_wp2
       go_quiet (fail)
       go_wp2
       go_ret
       exact⟨true,rfl,(fun h=>by cases h),below_drewN HB.out _⟩
      ·have d2:decide (1073741824<x.a.t)=false:=decide_eq_false t2
       have HT1:=Lib.hid t1;have HT2:=Lib.hid t2
       clear t1 t2
       go_wp2
       go_quiet (fail)
       go_wp2
       go_roundw
       case rel=>exact⟨i+1,t+1+x.a.c.2.length+x.a.c.1.length,by omega,by omega,HS.out,by go_num,by go_num,fun j y hj hy=>by
        by_cases q:j=i
        ·subst q
         rw[HX.out] at hy
         injection hy with hy
         subst hy
         have:=HS.out;have:=HT1.out;have:=HT2.out
         clear w1 w2 w3
         exact⟨by omega,by omega,by omega,by omega⟩
        ·exact HNO.out j y (by omega) hy,below_drewN HB.out _⟩
       case measure=>simp [intOf];omega
    ·have e8:decide ((3000:Int)<(t:Int)+1+(x.a.c.2.length:Int)+(x.a.c.1.length:Int))=true:=by simp;omega
     clear hs
     go_wp2
     go_quiet (fail)
     go_wp2
     go_ret
     exact⟨true,rfl,(fun h=>by cases h),below_drewN HB.out _⟩
   ·have e2:decide ((i:Int)<80)=false:=by simp;omega
    obtain rfl:i=80:=by omega
    clear hi hi6 ht
    go_wp2
    go_ret
    exact⟨false,rfl,fun _ j x hj hx=>HNO.out j x hj hx,HB.out⟩
  ·have e1:decide ((i:Int)<(n:Int))=false:=by simp;omega
   obtain rfl:n=i:=by omega
   clear hi hi6 ht
   go_wp2
   go_ret
   exact⟨false,rfl,fun _ j x hj hx=>HNO.out j x (by rw[EN.out];exact(List.getElem?_eq_some_iff.1 hx).1) hx,HB.out⟩
end Go.Proofs.Ytnmeicnppablkaa.Rp
end
