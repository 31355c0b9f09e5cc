import Derived.StillTailTactics
import Derived.Deep.LoopGhost
import Derived.SizedLaws
import Derived.Test.YtfcjeebnkigeaaaGreatRows
import Derived.Lib.SmallJoins
import Derived.Deep.Strs
import Derived.ChangeSame
import Derived.Deep.RegionHeld3
import Derived.BigQuiet
import Derived.Deep.QuietTactic
import Derived.DeepKeys
import Derived.Laws.StructEq
import Derived.Laws.OwnMore
import Derived.Lib.MinMax
import Derived.Test.YtfcjeebnkigeaaaGreatZKdcOfNothing1
import Derived.Test.YtfcjeebnkigeaaaGreatZKdcOfNothing2
import Derived.Test.YtfcjeebnkigeaaaGreatZKdcOfNothing3
import Derived.Test.YtfcjeebnkigeaaaGreatZKdcOfNothing4
import Derived.Test.YtfcjeebnkigeaaaGreatZKdcOfNothing5
import Derived.Test.YtfcjeebnkigeaaaGreatZKdcOfNothing6
import Derived.Test.YtfcjeebnkigeaaaGreatZKdcOfNothing7
import Derived.Test.YtfcjeebnkigeaaaGreatZKdcOfNothing8
import Derived.Test.YtfcjeebnkigeaaaGreatZKdcOfNothing9
import Derived.Test.YtfcjeebnkigeaaaGreatZKdcOfNothing10
import Derived.Test.YtfcjeebnkigeaaaGreatZKdcOfNothing11
import Derived.Test.YtfcjeebnkigeaaaGreatZKdcOfNothing12
import Derived.Test.YtfcjeebnkigeaaaGreatZKdcOfNothing13
import Derived.Test.YtfcjeebnkigeaaaGreatZKdcOfNothing14
import Derived.Test.YtfcjeebnkigeaaaGreatZKdcOfNothing15
import Derived.Test.YtfcjeebnkigeaaaGreatZKdcOfNothing16
import Derived.Test.YtfcjeebnkigeaaaGreatZKdcOfNothing17
import Derived.Test.YtfcjeebnkigeaaaGreatZKdcOfNothing22
import Derived.Test.YtfcjeebnkigeaaaGreatZKdcOfNothing23
import Derived.Test.YtfcjeebnkigeaaaGreatZKdcOfNothing24
import Derived.Test.YtfcjeebnkigeaaaGreatZKdcOfNothing25
import Derived.Test.YtfcjeebnkigeaaaGreatZKdcOfNothing26
import Derived.Test.YtfcjeebnkigeaaaGreatZKdcOfNothing27
section
set_option linter.unusedVariables false
namespace Go.Proofs.YtfcjeebnkigeaaaGreat.Reg
open Go.RowKit Go.Proofs.YtfcjeebnkigeaaaGreat.Mem
section
variable {P:Program} {ops:Array Oper} {Q:Exit→Act→World→Prop} {md:Region.Mode} {S:World→Prop}
theorem any_store_whole (i:Nat) {dst:Option Tmp} {sty:TypeId} {x y:Operand} {ty:TypeId} {pos:String} {after:Array _} {guard:Option (Nat×Bool)} {fuel:Nat} {listed:Array Bool} {a:Act} {w:World} (hi:ops[i]? = some ⟨dst,.store sty x y,ty,pos,after,guard⟩)
  (hr:Region.ready md ops listed = [i]) (hw:Region.wanted ⟨dst,.store sty x y,ty,pos,after,guard⟩ (yielded ops a.tmps)=true) (g:Nat) (t:TypeId) (old cells:Array Value) (hb:Blk w g t old) (hx:a.eval x = .pointer (some ⟨g,0,none⟩)) (hy:a.eval y = .agg cells) (hs:old.size=cells.size)
  (hI:(P.info? sty).map (·.size)=some cells.size) (h1:cells.all (·.oneCell')=true)
  (h:∀V,Blk V g t cells→w.grownBy V (some g)→S V∧wpAnyH P md ops Q S fuel (listed.setIfInBounds i true) (a.put dst undef) V):wpAnyH P md ops Q S (fuel+1) listed a w:=by
 have ht:w.there g 0 cells.size:=Wh.there_mid hb 0 _ (by omega)
 have hrun:(execOp a.eval ⟨dst,.store sty x y,ty,pos,after,guard⟩).run P w = .ok .skip (w.setCells g 0 cells.toList):=by
  unfold execOp
  simp only[hx,hy,Instr.storeAt,Instr.sureAddr,Sem.run_bind,Sem.run_pure,Result.andThen_ok,run_storeVar_mid w g 0 sty cells ht hI h1]
 obtain⟨h2,h3⟩:=h _ (Wh.blk_cells hb hs) (Wh.put_mid _ _ _ _)
 exact any_store i _ hi hr hw hrun h2 h3
end
end Go.Proofs.YtfcjeebnkigeaaaGreat.Reg
namespace Go.Proofs.YtfcjeebnkigeaaaGreat.Kd
open Go.RowKit Go.Proofs.YtfcjeebnkigeaaaGreat.Mem Go.Proofs.YtfcjeebnkigeaaaGreat.Se
open Go.Proofs.YtfcjeebnkigeaaaGreat.Rg (It Ent Ring RO DRing DO Ap its)
open Go.Proofs.YtfcjeebnkigeaaaGreat.Ms (Re As Tg pSm reC)
theorem grown_one {w V:World} {g:Nat} (hg:w.grownBy V (some g)):Chg (fun j=>j=g) w V:=⟨hg.os,hg.tape,hg.output,hg.size,fun i hi hn=>hg.block i hi (fun e=>hn (by injection e))⟩
section
variable {w0 w1 w w' V:World} {B:Nat} {p:KP} {es0 es es':List Ent} {s0 s:Option Ss} {n i c g PT:Nat} {cs:Array Value} {x:Re}
theorem Kn.grown (h:Kn w0 w B p es0 s0 es s n i c) (hg:w.grownBy V (some g)) (hl:w0.heap.size≤g) (hk:Off p es s g):Kn w0 V B p es0 s0 es s n i c:=
 ⟨h.st.chg (grown_one hg) (fun j hj e=>hk j hj e),h.eq,h.sq,h.chg.trans (grown_one hg) (fun j hj x=>by omega),h.nw⟩
theorem re_cells {S:Nat→Prop} (h:ReN S w cs x):cs.size=7∧cs.all (·.oneCell')=true:=by
 obtain⟨b,a,rfl,⟨A1,c1,rfl,_⟩,⟨A2,c2,rfl,_⟩⟩:=h
 exact⟨rfl,by simp [reC,Ms.prC,Ms.tkC,Value.oneCell']⟩
def VarS (w1:World) (p:KP) (es:List Ent) (PT:Nat) (j:Nat):Prop:=Out w1 p es none j∨j=PT
theorem re_old {s:Option Ss} (h:ReN (Out w p es s) w' cs x) (h1:w1.heap.size≤w.heap.size) (h2:PT<w.heap.size):ReN (VarS w1 p es PT) w' cs x:=
 h.keep (Chg.refl (fun _=>False) w') (fun _ _ x=>x.elim) (fun j _ y=>by
  rcases y with(y | y | ⟨z,hz,_⟩) | y
  ·exact .inl (by omega)
  ·exact .inr (.inl y)
  ·cases hz
  ·exact .inl (by omega))
theorem re_new {s:Option Ss} (h:ReN (Out w p es s) w' cs x) (h1:w1.heap.size≤w.heap.size) (h2:w'.heap.size≤PT) (hb:Below w'.heap.size w' V):ReN (VarS w1 p es PT) V cs x:=
 (h.keep (S':=VarS w1 p es PT) (Chg.refl (fun _=>False) w') (fun _ _ x=>x.elim) (fun j hj y=>by
  rcases y with(y | y | ⟨z,hz,_⟩) | y
  ·exact .inl (by omega)
  ·exact .inr (.inl y)
  ·cases hz
  ·omega)).below hb
theorem re_put (h:ReN (VarS w1 p es PT) w cs x) (hg:w.grownBy V (some PT)):ReN (VarS w1 p es PT) V cs x:=h.keep (grown_one hg) (fun j _ e=>.inr e) (fun _ _ x=>x)
structure Got (w1 w:World) (B:Nat) (p:KP) (es0 es:List Ent) (n i c PT:Nat) (cs:Array Value) (x:Re):Prop where
 kn:Kn w1 w B p es0 none es none n i c
 blk:Blk w PT 38 cs
 re:ReN (VarS w1 p es PT) w cs x
 off:Off p es none PT
 lo:w1.heap.size≤PT
theorem got_mk (hk:Kn w1 w B p es0 none es none n i c) (hr:ReN (VarS w1 p es PT) w cs x) (ho:Off p es none PT) (hl:w1.heap.size≤PT) (hv:Blk V PT 38 cs) (hg:w.grownBy V (some PT)):Got w1 V B p es0 es n i c PT cs x:=
 ⟨hk.grown hg hl ho,hv,re_put hr hg,ho,hl⟩
theorem as_to9 {q:As} {d:Nm.L} {now:Int} {csQ csD:Array Value} {l:List It} {R:Nm.L} {r:Int×Re} (eQ:csQ=asA q) (eD:csD=keyA d) (eR:p.R=R) (el:its es=l) (er:asL R l n q now d=r) (h:KS w B p es none n i c) (hc:c<800000) (hn:n<800000) (hi:i<800000) (hl:l.length≤1000) (hR:R.length≤1000) (hd:d.length=32) (hs1:pSm q.c) (hs2:pSm q.s) :
  Calls Tryz.prog 17 #[.pointer (some ⟨p.k,0,none⟩),.agg csQ,.int .i64 now,.agg csD] w fun e w'=>∃cs es',e = .returned (.tuple #[.agg cs,.int .i64 r.1])∧ReN (Out w p es' none) w' cs r.2∧Kn w w' B p es none es' none (n+2*cnt r.1) (i+cnt r.1) (c+4):=by
 subst eQ eD eR el er
 refine(as_any h hc hn hi (by rw[Rg.its_length] at hl;exact hl) hR hd hs1 hs2).mono ?_
 rintro e w' ⟨cs,es',s',h1,h2,h3⟩
 exact⟨cs,es',h1,h2.keep (Chg.refl (fun _=>False) w') (fun _ _ x=>x.elim) (fun j _ y=>y.imp id (fun y=>y.elim .inl (fun⟨z,hz,_⟩=>by cases hz))),h3.drop⟩
end
theorem built_as (c s:Nm.L×Nm.L) (t no:Int):Tryz.prog.built 29 [(0,prV c),(1,prV s),(2,.int .i64 t),(3,.int .i64 no)]=some (asA ⟨c,s,t,no⟩):=by kernel_rfl
theorem built_as0 (c s:Nm.L×Nm.L) (t:Int):Tryz.prog.built 29 [(0,prV c),(1,prV s),(2,.int .i64 t)]=some (asA ⟨c,s,t,0⟩):=by kernel_rfl
def k1L:Nm.L:=1 :: List.replicate 31 0
theorem k1_len:k1L.length=32:=rfl
theorem built_k1:Tryz.prog.built 47 [(0,.int .u8 1)]=some (keyA k1L):=by kernel_rfl
end Go.Proofs.YtfcjeebnkigeaaaGreat.Kd
end

section
set_option linter.unusedVariables false
set_option linter.unusedSimpArgs false
namespace Go.Proofs.YtfcjeebnkigeaaaGreat.Kd
open Go.RowKit Go.Proofs.YtfcjeebnkigeaaaGreat.Mem Go.Proofs.YtfcjeebnkigeaaaGreat.Se
open Go.Proofs.YtfcjeebnkigeaaaGreat.Rg (It Ent Ring RO its results_pair)
section
variable {w:World} {B:Nat} {p:KP} {es:List Ent} {n i c:Nat}
set_option maxRecDepth 100000 in
set_option maxHeartbeats 3200000 in
theorem as_nil (csQ csD:Array Value) (now:Int) (w:World):Calls Tryz.prog 17 #[.pointer none,.agg csQ,.int .i64 now,.agg csD] w fun e w'=>e = .returned (.tuple #[.agg reZ,.int .i64 1])∧Below w.heap.size w w':=by
 obtain⟨W,eW⟩:∃W,W=((w.alloc (.cells csQ 29)).alloc (.cells csD 47)).alloc (.cells reZ 38):=⟨_,rfl⟩
 have hb:Below w.heap.size w W:=eW▸(((Below.refl _ _).alloc (Nat.le_refl _) _).alloc (by simp) _).alloc (by simp;omega) _
 have HR:=Lib.hid (show Blk W (w.heap.size+1+1) 38 reZ by have:=Blk.new ((w.alloc (.cells csQ 29)).alloc (.cells csD 47)) 38 reZ;simp only[World.size_alloc] at this;exact eW▸this)
 have HB:=Lib.hid hb
 clear hb
 go_enter Tryz.func17,Tryz.ntmps17
 go_upto_region 1 with fail
 rw[←eW]
 clear eW
 have kr0:=HR.out.cell 0
 have kr1:=HR.out.cell 1
 have kr2:=HR.out.cell 2
 have kr3:=HR.out.cell 3
 have kr4:=HR.out.cell 4
 have kr5:=HR.out.cell 5
 have kr6:=HR.out.cell 6
 have fz:=HR.out.frozen
 go_wp2
 refine bodyPost_ret (v:=.tuple #[.agg reZ,.int .i64 1]) ?_ ?_ ?_
 ·exact results_pair (v:=.agg reZ) 8 9 38 ⟨w.heap.size+1+1,0,none⟩ Tryz.results17 rfl (Wh.load_blk (set7 HR.out _ _ _ _ _ _ _) Tryz.underlying38 (by rfl) re_info) rfl
 ·rfl
 ·exact⟨rfl,below7 HB.out (by omega) _ _ _ _ _ _ _⟩
set_option maxRecDepth 100000 in
set_option maxHeartbeats 3200000 in
theorem tgs_nil (csQ csD:Array Value) (now:Int) (w:World):Calls Tryz.prog 21 #[.pointer none,.agg csQ,.int .i64 now,.agg csD] w fun e w'=>e = .returned (.tuple #[.agg reZ,.int .i64 1])∧Below w.heap.size w w':=by
 obtain⟨W,eW⟩:∃W,W=((w.alloc (.cells csQ 34)).alloc (.cells csD 47)).alloc (.cells reZ 38):=⟨_,rfl⟩
 have hb:Below w.heap.size w W:=eW▸(((Below.refl _ _).alloc (Nat.le_refl _) _).alloc (by simp) _).alloc (by simp;omega) _
 have HR:=Lib.hid (show Blk W (w.heap.size+1+1) 38 reZ by have:=Blk.new ((w.alloc (.cells csQ 34)).alloc (.cells csD 47)) 38 reZ;simp only[World.size_alloc] at this;exact eW▸this)
 have HB:=Lib.hid hb
 clear hb
 go_enter Tryz.func21,Tryz.ntmps21
 go_upto_region 1 with fail
 rw[←eW]
 clear eW
 have kr0:=HR.out.cell 0
 have kr1:=HR.out.cell 1
 have kr2:=HR.out.cell 2
 have kr3:=HR.out.cell 3
 have kr4:=HR.out.cell 4
 have kr5:=HR.out.cell 5
 have kr6:=HR.out.cell 6
 have fz:=HR.out.frozen
 go_wp2
 refine bodyPost_ret (v:=.tuple #[.agg reZ,.int .i64 1]) ?_ ?_ ?_
 ·exact results_pair (v:=.agg reZ) 8 9 38 ⟨w.heap.size+1+1,0,none⟩ Tryz.results21 rfl (Wh.load_blk (set7 HR.out _ _ _ _ _ _ _) Tryz.underlying38 (by rfl) re_info) rfl
 ·rfl
 ·exact⟨rfl,below7 HB.out (by omega) _ _ _ _ _ _ _⟩
theorem han_no (v:Value) (csD:Array Value) (now:Int) (w:World):Calls Tryz.prog 23 #[.pointer none,v,.int .i64 now,.agg csD] w fun e w'=>e = .returned (.slice none 0 0)∧Below w.heap.size w w':=by
 have HB:=Lib.hid ((Below.refl w.heap.size w).alloc (Nat.le_refl _) (.cells csD 47))
 go_enter Tryz.func23,Tryz.ntmps23
 go_wp2
 go_ret
 exact⟨rfl,HB.out⟩
theorem iss_no (w:World):Calls Tryz.prog 25 #[.pointer none] w fun e w'=>e = .returned (.int .i64 0)∧w=w':=by
 go_enter Tryz.func25,Tryz.ntmps25
 go_wp2
 go_ret
 exact⟨rfl,rfl⟩
theorem iss_any (h:KD w B p es n i) (hi:i<1000000000):Calls Tryz.prog 25 #[.pointer (some ⟨p.k,0,none⟩)] w fun e w'=>e = .returned (.int .i64 (i:Int))∧w=w':=by
 have k6:w.cell? ⟨p.k,6,none⟩=some (.int .i64 (i:Int)):=h.blk.cell 6
 have c1:=Se.load_count ⟨p.k,6,none⟩ i w k6
 clear h
 go_enter Tryz.func25,Tryz.ntmps25
 go_wp2_with (first
  |(go_at_call 70;refine Calls.mono c1 ?_;rintro e w1 ⟨rfl,hw⟩;clear c1;have hw:=hw.symm;subst hw)
  |fail)
 go_ret
 exact⟨by go_num,rfl⟩
end
end Go.Proofs.YtfcjeebnkigeaaaGreat.Kd
end
