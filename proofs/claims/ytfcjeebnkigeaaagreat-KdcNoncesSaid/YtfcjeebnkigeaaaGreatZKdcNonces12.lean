import Derived.Deep.LoopGhost
import Derived.DeepKeys
import Derived.Laws.StructEq
import Derived.StillTailTactics
import Derived.Laws.OwnMore
import Derived.Test.YtfcjeebnkigeaaaGreatZKdcNonces1
import Derived.Test.YtfcjeebnkigeaaaGreatZKdcNonces2
import Derived.Test.YtfcjeebnkigeaaaGreatZKdcNonces3
import Derived.Test.YtfcjeebnkigeaaaGreatZKdcNonces4
import Derived.Test.YtfcjeebnkigeaaaGreatZKdcNonces5
import Derived.Test.YtfcjeebnkigeaaaGreatZKdcNonces6
import Derived.Test.YtfcjeebnkigeaaaGreatZKdcNonces7
import Derived.Test.YtfcjeebnkigeaaaGreatZKdcNonces9
import Derived.Test.YtfcjeebnkigeaaaGreatZKdcNonces11
section
set_option linter.unusedVariables false
set_option linter.unusedSimpArgs false
namespace Go.Proofs.YtfcjeebnkigeaaaGreat.Rg
open Go.RowKit Go.Proofs.YtfcjeebnkigeaaaGreat.Mem Go.Proofs.YtfcjeebnkigeaaaGreat.Se
theorem isprinc (p:Pr) (w:World) (h1:p.1.length≤1000000000) (h2:p.2.length≤1000000000):Calls Tryz.prog 99 #[prV p] w fun e w'=>e = .returned (.bool (prB p))∧Below w.heap.size w w':=Nm.isprinc_any p.1 p.2 w h1 h2
theorem entC_num (es:List Ent) (o:Option Nat):(entC es o)[2]? = some (.int .i64 (numO (its es) o:Int)):=by
 cases o with
 |none=>rfl
 |some j=>
  rw[entC_some]
  cases h:es[j]? with
  |none=>simp [numO,its,h];rfl
  |some e=>
   have:numO (its es) (some j)=e.it.n:=by simp [numO,its,h]
   rw[this];rfl
theorem field_num (cs:Array Value) (z:Int) (h:cs[2]? = some (.int .i64 z)) (w:World):(Instr.field 205 (.agg cs) 1).run Tryz.prog w = .ok (.int .i64 z) w:=by
 unfold Instr.field part asAgg
 go_simp
theorem chg_row {w w':World} {row:Option Nat} (h:w.grownBy w' row):Chg (fun q=>row=some q) w w':=⟨h.os,h.tape,h.output,h.size,fun i hi hn=>h.block i hi (fun e=>hn e.symm)⟩
theorem add_fin {w W5 w6:World} {B r b:Nat} {v v6:Value} {es:List Ent} {it:It} (h:Ring w B r v es) (hB:B≤w.heap.size) (hb:Below w.heap.size w W5) (h5:Ring W5 B r v es) (hx:Box W5 b it.k none 0 0 0) (hbl:w.heap.size≤b)
  (ho:w6.ownsRow B 205 36 v6 (es++[(⟨it,b,none,0,0,0⟩:Ent)]).length ((es++[(⟨it,b,none,0,0,0⟩:Ent)]).flatMap eC)) (hg:W5.grownBy w6 v.ownBlock) (hv:v6.ownBlock=v.ownBlock∨v6.ownBlock=some W5.heap.size) (hbs:True) :
  Ring (w6.setCell ⟨r,0,none⟩ v6) B r v6 (es++[⟨it,b,none,0,0,0⟩])∧Chg (fun q=>q=r∨v.ownBlock=some q) w (w6.setCell ⟨r,0,none⟩ v6)∧(∀q,RO r v6 (es++[⟨it,b,none,0,0,0⟩]) q→RO r v es q∨w.heap.size≤q):=by
 have hrl:=h.lt
 have hlt:=hx.lt
 have hne:r≠b:=by omega
 have hvr:v6.ownBlock≠some r:=fun x=>by
  rcases hv with g | g
  ·rw[g] at x;exact h.vr x
  ·rw[g] at x;injection x with x;have:=h5.lt;omega
 have hset:Chg (fun q=>q=r) w6 (w6.setCell ⟨r,0,none⟩ v6):=Chg.set (p:=⟨r,0,none⟩) (Chg.refl (fun q=>q=r) w6) (.inl rfl) v6
 have hc:Chg (fun q=>q=r∨v.ownBlock=some q) w (w6.setCell ⟨r,0,none⟩ v6):=
  (((Chg.of_below hb).trans (chg_row hg) (fun q _ x=>.inr x)).trans hset (fun q _ x=>.inl x):Chg (fun q=>q=r∨v.ownBlock=some q) w _)
 have hnew:∀q,RO r v6 (es++[⟨it,b,none,0,0,0⟩]) q→RO r v es q∨w.heap.size≤q:=fun q hq=>by
  rcases hq with hq | hq | ⟨i,e,he,hq⟩
  ·exact .inl (.inl hq)
  ·rcases hv with g | g
   ·exact .inl (.inr (.inl (g▸hq)))
   ·rw[g] at hq;injection hq with hq;exact .inr (by have:=hb.size;omega)
  ·by_cases hi:i<es.length
   ·rw[List.getElem?_append_left hi] at he
    exact .inl (.inr (.inr ⟨i,e,he,hq⟩))
   ·rw[List.getElem?_append_right (by omega)] at he
    have e1:=(List.getElem?_eq_some_iff.1 he).1
    have e2:i - es.length=0:=by simp at e1;omega
    rw[e2] at he
    injection he with he
    subst he
    rcases hq with hq | hq
    ·exact .inr (by rw[hq];exact hbl)
    ·cases hq
 refine⟨h.snoc hc ?_ ?_ ?_ ?_ hbl rfl hB,hc,hnew⟩
 ·exact(h5.blk.grown hg h5.vr).set 0 v6
 ·have:=own_chg hset ho (fun q hq x=>hvr (x▸hq))
  rw[List.length_append,List.length_singleton,List.flatMap_append,List.flatMap_singleton] at this
  exact this
 ·rcases hv with g | g
  ·exact .inl g
  ·exact .inr ⟨_,g,hb.size,by show W5.heap.size≠b;omega⟩
 ·have h6:Box w6 b it.k none 0 0 0:=hx.chg (chg_row hg) (fun q hq x=>by
   rcases hq with hq | hq
   ·subst hq;have:=(World.ownsRow.lt h.row q x).2;omega
   ·cases hq)
  exact h6.chg hset (fun q hq x=>by
   rcases hq with hq | hq
   ·exact hne (x▸hq)
   ·cases hq)
theorem ent_all:(Tryz.prog.info? 205).map (fun i=>(i.zero,i.size,i.bytes))=some (some (.agg zeroE),36,80):=by kernel_rfl
section
variable {P:Program} {w w':World} {a:Act} {dst:Option Tmp} {ty:TypeId} {pos:String} {after:Array _} {guard:Option (Nat×Bool)}
theorem exec_build {t:TypeId} {parts:Array (Nat×Operand)} {vs:List (Nat×Value)} {cells:Array Value} (hv:(parts.map fun x=>(x.1,a.eval x.2)).toList=vs) (h:P.built t vs=some cells) :
  (execOp a.eval ⟨dst,.build t parts,ty,pos,after,guard⟩).run P w = .ok (.value (.agg cells)) w:=by
 have:=run_build (P:=P) w t (parts.map fun x=>(x.1,a.eval x.2)) cells (by rw[hv];exact h)
 simp only[execOp,Sem.run_bind,this,Result.andThen_ok,Sem.run_pure]
theorem exec_slice {t:TypeId} {x:Operand} {cs:Array Value} {s:Value} (hx:a.eval x = .agg cs) (h:(Instr.buildSlice t 1 #[(0,.agg cs)]).run P w = .ok s w') :
  (execOp a.eval ⟨dst,.buildSlice t 1 #[(0,x)],ty,pos,after,guard⟩).run P w = .ok (.value s) w':=by
 simp only[execOp,Sem.run_bind,List.map_toArray,List.map_cons,List.map_nil,hx,h,Result.andThen_ok,Sem.run_pure]
theorem exec_app {t:TypeId} {x y:Operand} {u v s:Value} (hx:a.eval x=u) (hy:a.eval y=v) (h:(Builtin.append_ #[t,t] ty #[u,v]).run P w = .ok s w') :
  (execOp a.eval ⟨dst,.call {callee:=.builtin .append,args:=#[x,y],argTypes:=#[t,t]},ty,pos,after,guard⟩).run P w = .ok (.value s) w':=by
 simp only[execOp,resolve,invoke,builtin,Sem.run_bind,Sem.run_pure,Result.andThen_ok,List.map_toArray,List.map_cons,List.map_nil,hx,hy,h]
end
theorem built_ent (p:Pr) (n b:Nat) (k:Nat→UInt8):Tryz.prog.built 205 [(0,prV p),(1,.int .i64 (n:Int)),(2,.agg (key32 k)),(3,.pointer (some ⟨b,0,none⟩))]=some (eA ⟨⟨p,n,k⟩,b,none,0,0,0⟩):=by
 kernel_rfl
set_option maxRecDepth 100000 in
set_option maxHeartbeats 3200000 in
theorem add_ok (B r:Nat) (v:Value) (es:List Ent) (p:Pr) (k:Nat→UInt8) (w:World) (h:Ring w B r v es) (hB:B≤w.heap.size) (h1:p.1.length≤1000000000) (h2:p.2.length≤1000000000) (hp:prB p=true) (hl:es.length<40) (hn:lastN (its es) p<255) :
  Calls Tryz.prog 44 #[.pointer (some ⟨r,0,none⟩),prV p,.agg (key32 k)] w fun e w'=>e = .returned (.tuple #[.int .i64 ((lastN (its es) p:Int)+1),.int .i64 0])∧∃v' b,w.heap.size≤b∧Ring w' B r v' (es++[⟨⟨p,lastN (its es) p+1,k⟩,b,none,0,0,0⟩])∧Chg (fun q=>q=r∨v.ownBlock=some q) w w'∧(∀q,RO r v' (es++[⟨⟨p,lastN (its es) p+1,k⟩,b,none,0,0,0⟩]) q→RO r v es q∨w.heap.size≤q):=by
 obtain⟨A,c,rfl,hc,hm,hr⟩:=h.num
 obtain⟨n,en⟩:∃n,n=es.length:=⟨_,rfl⟩
 have EN:=Lib.hid en
 obtain⟨z,ez⟩:∃z,z=lastN (its es) p:=⟨_,rfl⟩
 have EZ:=Lib.hid ez
 have hq:=entC_num es (lastI (its es) p)
 rw[show numO (its es) (lastI (its es) p)=z from ez.symm] at hq
 have CL:=Lib.hid (fun(w1:World) (h:Ring w1 B r (.slice A es.length c) es)=>last_any B r (.slice A es.length c) es p w1 h (by omega))
 have CP:=Lib.hid (fun w1=>isprinc p w1 h1 h2)
 have CC:=Lib.hid (fun w1=>clone_pr p w1 h1 h2)
 have CN:=Lib.hid (fun w1=>new_any k w1)
 rw[hp] at CP
 obtain⟨kv,ekv⟩:∃kv,kv=key32 k:=⟨_,rfl⟩
 obtain⟨cs,ecs⟩:∃cs,cs=entC es (lastI (its es) p):=⟨_,rfl⟩
 rw[←ecs] at CL hq
 rw[←ekv] at CN⊢
 rw[←ez] at hn⊢
 rw[←en] at hl
 have hrl:=h.lt
 obtain⟨W,eW⟩:∃W,W=(w.alloc (.cells #[.string ⟨p.1.toArray⟩,.string ⟨p.2.toArray⟩] 27)).alloc (.cells kv 47):=⟨_,rfl⟩
 have hb:Below w.heap.size w W:=eW▸((Below.refl _ _).alloc (Nat.le_refl _) _).alloc (by simp) _
 have HP:=Lib.hid (show Blk W w.heap.size 27 #[.string ⟨p.1.toArray⟩,.string ⟨p.2.toArray⟩] from eW▸(Blk.new w _ _).alloc _)
 have HK:=Lib.hid (show Blk W (w.heap.size+1) 47 kv by have:=Blk.new (w.alloc (.cells #[.string ⟨p.1.toArray⟩,.string ⟨p.2.toArray⟩] 27)) 47 kv;simp only[World.size_alloc] at this;exact eW▸this)
 have HB:=Lib.hid hb
 have HRG:=Lib.hid (h.below hb)
 have HW:=Lib.hid h
 have kp0:W.cell? ⟨w.heap.size,0,none⟩=some (.string ⟨p.1.toArray⟩):=HP.out.cell 0
 have kp1:W.cell? ⟨w.heap.size,1,none⟩=some (.string ⟨p.2.toArray⟩):=HP.out.cell 1
 have hfl:=field_num cs _ hq
 have hwr:IntKind.i64.wrap ((z:Int)+1)=(z:Int)+1:=by rw[IntKind.wrap_i64];omega
 have EK:=Lib.hid ekv
 have HKI:=Lib.hid (show(Tryz.prog.info? 47).map (·.size)=some kv.size by rw[ekv];exact info32 k)
 obtain⟨i0,hi0,hz0,hs0,hb0⟩:=info_parts ent_all
 have KI1:=Lib.hid hi0;have KI2:=Lib.hid hz0;have KI3:=Lib.hid hs0;have KI4:=Lib.hid hb0
 have SL1:=Lib.hid (fun(w1:World) (b:Nat)=>Wh.run_build_one (P:=Tryz.prog) w1 197 205 (eA ⟨⟨p,z+1,k⟩,b,none,0,0,0⟩) i0 _ Tryz.underlying197 hi0 hz0 (by rw[hs0,eA_size]) (by rw[eA_size];omega) (by rw[eA_size];omega))
 have HBB:=Lib.hid hB
 clear hi0 hz0 hs0 hb0 hB
 have HN:=Lib.hid hn
 have t1:decide (40≤(n:Int))=false:=by simp;omega
 have t2:decide (255≤(z:Int))=false:=by simp;omega
 have HL:=Lib.hid hl
 clear hb h hr h1 h2 hp hn hl ekv ecs ez en hc hm hq
 go_enter Tryz.func44,Tryz.ntmps44
 go_upto_region 1 with fail
 rw[←eW]
 clear eW
 go_wp2_with (first
  |(go_at_call 99;refine Calls.mono (CP.out _) ?_;rintro e w1 ⟨rfl,hb⟩;replace HB:=Lib.hid (HB.out.trans (hb.mono HB.out.size));replace HRG:=Lib.hid (HRG.out.below hb);replace HP:=Lib.hid (HP.out.below hb);replace HK:=Lib.hid (HK.out.below hb);have kp0:w1.cell? ⟨w.heap.size,0,none⟩=some (.string ⟨p.1.toArray⟩):=HP.out.cell 0;have kp1:w1.cell? ⟨w.heap.size,1,none⟩=some (.string ⟨p.2.toArray⟩):=HP.out.cell 1;have kr:w1.cell? ⟨r,0,none⟩=some (.slice A n c):=EN.out▸HRG.out.blk.cell 0;clear hb)
  |(go_at_call 100;refine Calls.mono (CL.out _ HRG.out) ?_;rintro e w2 ⟨rfl,hb⟩;clear kp0 kp1 kr;replace HB:=Lib.hid (HB.out.trans (hb.mono HB.out.size));replace HRG:=Lib.hid (HRG.out.below hb);replace HP:=Lib.hid (HP.out.below hb);replace HK:=Lib.hid (HK.out.below hb);have kp0:w2.cell? ⟨w.heap.size,0,none⟩=some (.string ⟨p.1.toArray⟩):=HP.out.cell 0;have kp1:w2.cell? ⟨w.heap.size,1,none⟩=some (.string ⟨p.2.toArray⟩):=HP.out.cell 1;have kr:w2.cell? ⟨r,0,none⟩=some (.slice A n c):=EN.out▸HRG.out.blk.cell 0;clear hb)
  |fail)
 replace HP:=Lib.hid (show Blk w2.drew _ _ _ from HP.out.drewN 1)
 replace HK:=Lib.hid (show Blk w2.drew _ _ _ from HK.out.drewN 1)
 replace HRG:=Lib.hid HRG.out.drew
 replace HB:=Lib.hid (show Below w.heap.size w w2.drew from below_drewN HB.out 1)
 clear kp0 kp1 kr
 refine Reg.any_begin (fun w'=>Blk w' w.heap.size 27 #[.string ⟨p.1.toArray⟩,.string ⟨p.2.toArray⟩]∧Blk w' (w.heap.size+1) 47 kv) 18 rfl (by kernel_rfl) ⟨HP.out,HK.out⟩ ?_
 obtain⟨W2,eW2⟩:∃W2,W2=w2.drew:=⟨_,rfl⟩
 rw[←eW2] at HP HK HRG HB⊢
 clear eW2
 refine Reg.any_take 0 (v:=?vu10) rfl (by kernel_rfl) (by kernel_rfl) (by kernel_rfl) (fun _ _ _ h=>h) ⟨HP.out,HK.out⟩ (by rfl) (fun w' hS=>?hu10) ?ru10
 case hu10=>go_simp;rfl
 simp only[Act.put,List.setIfInBounds_toArray,List.set_cons_zero,List.set_cons_succ]
 refine Reg.any_take 1 (v:=?vu21) rfl (by kernel_rfl) (by kernel_rfl) (by kernel_rfl) (fun _ _ _ h=>h) ⟨HP.out,HK.out⟩ (by rfl) (fun w' hS=>?hu21) ?ru21
 case hu21=>go_simp;rfl
 simp only[Act.put,List.setIfInBounds_toArray,List.set_cons_zero,List.set_cons_succ]
 refine Reg.any_take 2 (v:=?vu32) rfl (by kernel_rfl) (by kernel_rfl) (by kernel_rfl) (fun _ _ _ h=>h) ⟨HP.out,HK.out⟩ (by rfl) (fun w' hS=>?hu32) ?ru32
 case hu32=>go_simp;rfl
 simp only[Act.put,List.setIfInBounds_toArray,List.set_cons_zero,List.set_cons_succ]
 refine Reg.any_take 3 (v:=?vu43) rfl (by kernel_rfl) (by kernel_rfl) (by kernel_rfl) (fun _ _ _ h=>h) ⟨HP.out,HK.out⟩ (by rfl) (fun w' hS=>?hu43) ?ru43
 case hu43=>go_simp;rfl
 simp only[Act.put,List.setIfInBounds_toArray,List.set_cons_zero,List.set_cons_succ]
 refine Reg.any_take 5 (v:=.agg #[.string ⟨p.1.toArray⟩,.string ⟨p.2.toArray⟩]) rfl (by kernel_rfl) (by kernel_rfl) (by kernel_rfl) (fun _ _ _ h=>h) ⟨HP.out,HK.out⟩ (by rfl) (fun w' hS=>?hu55) ?ru55
 case hu55=>exact Wh.exec_load (.tmp 4) rfl rfl hS.1 Tryz.underlying27 rfl pr_info
 simp only[Act.put,List.setIfInBounds_toArray,List.set_cons_zero,List.set_cons_succ]
 refine Reg.any_take 7 (v:=?vu67) rfl (by kernel_rfl) (by kernel_rfl) (by kernel_rfl) (fun _ _ _ h=>h) ⟨HP.out,HK.out⟩ (by rfl) (fun w' hS=>?hu67) ?ru67
 case hu67=>go_simp;rfl
 simp only[Act.put,List.setIfInBounds_toArray,List.set_cons_zero,List.set_cons_succ]
 refine Reg.any_take 8 (v:=.int .i64 ((z:Int)+1)) rfl (by kernel_rfl) (by kernel_rfl) (by kernel_rfl) (fun _ _ _ h=>h) ⟨HP.out,HK.out⟩ (by rfl) (fun w' hS=>?hu78) ?ru78
 case hu78=>go_simp
 simp only[Act.put,List.setIfInBounds_toArray,List.set_cons_zero,List.set_cons_succ]
 refine Reg.any_take 9 (v:=.agg kv) rfl (by kernel_rfl) (by kernel_rfl) (by kernel_rfl) (fun _ _ _ h=>h) ⟨HP.out,HK.out⟩ (by rfl) (fun w' hS=>?hu89) ?ru89
 case hu89=>exact Wh.exec_load (.tmp 5) rfl rfl hS.2 Tryz.underlying47 rfl HKI.out
 simp only[Act.put,List.setIfInBounds_toArray,List.set_cons_zero,List.set_cons_succ]
 refine Reg.any_take 10 (v:=.agg kv) rfl (by kernel_rfl) (by kernel_rfl) (by kernel_rfl) (fun _ _ _ h=>h) ⟨HP.out,HK.out⟩ (by rfl) (fun w' hS=>?hu910) ?ru910
 case hu910=>exact Wh.exec_load (.tmp 5) rfl rfl hS.2 Tryz.underlying47 rfl HKI.out
 simp only[Act.put,List.setIfInBounds_toArray,List.set_cons_zero,List.set_cons_succ]
 refine Reg.both_all [4,6] (by kernel_rfl) (by simp) ?_
 intro j0 hj0
 have hj0:j0=4∨j0=6:=by simpa using hj0
 rcases hj0 with rfl | rfl
 ·left
  have kr:W2.cell? ⟨r,0,none⟩=some (.slice A n c):=EN.out▸HRG.out.blk.cell 0
  refine⟨_,_,_,_,_,_,_,_,rfl,by rfl,by(go_simp;rfl),⟨HP.out,HK.out⟩,?_⟩
  simp only[Act.put,List.setIfInBounds_toArray,List.set_cons_zero,List.set_cons_succ]
  clear kr
  refine Reg.both_all [6] (by kernel_rfl) (by simp) ?_
  intro j0 hj0
  obtain rfl:j0=6:=by simpa using hj0
  clear hj0
  right
  refine⟨_,_,_,_,_,_,101,#[prV p],rfl,by rfl,by go_simp,?_⟩
  refine(CC.out _).mono ?_
  rintro e w3 ⟨rfl,hb⟩
  replace HB:=Lib.hid (HB.out.trans (hb.mono HB.out.size));replace HRG:=Lib.hid (HRG.out.below hb);replace HP:=Lib.hid (HP.out.below hb);replace HK:=Lib.hid (HK.out.below hb)
  clear hb
  refine⟨_,rfl,⟨HP.out,HK.out⟩,?_⟩
  simp only[Act.put,List.setIfInBounds_toArray,List.set_cons_zero,List.set_cons_succ]
  refine Reg.both_all [11] (by kernel_rfl) (by simp) ?_
  intro j0 hj0
  obtain rfl:j0=11:=by simpa using hj0
  clear hj0
  right
  refine⟨_,_,_,_,_,_,58,#[.agg kv],rfl,by rfl,by go_simp,?_⟩
  refine(CN.out _).mono ?_
  rintro e w4 ⟨b,rfl,hbl,hbx,hb⟩
  have HBL:=Lib.hid (Nat.le_trans HB.out.size hbl)
  replace HB:=Lib.hid (HB.out.trans (hb.mono HB.out.size));replace HRG:=Lib.hid (HRG.out.below hb);replace HP:=Lib.hid (HP.out.below hb);replace HK:=Lib.hid (HK.out.below hb)
  have HBX:=Lib.hid hbx
  clear hb hbl hbx
  refine⟨_,rfl,⟨HP.out,HK.out⟩,?_⟩
  simp only[Act.put,List.setIfInBounds_toArray,List.set_cons_zero,List.set_cons_succ]
  refine Reg.any_take 12 (v:=.agg (eA ⟨⟨p,z+1,k⟩,b,none,0,0,0⟩)) rfl (by kernel_rfl) (by kernel_rfl) (by kernel_rfl) (fun _ _ _ h=>h) ⟨HP.out,HK.out⟩ (by rfl) (fun w' hS=>?hu1012) ?ru1012
  case hu1012=>exact exec_build (by go_simp) (EK.out▸built_ent p (z+1) b k)
  simp only[Act.put,List.setIfInBounds_toArray,List.set_cons_zero,List.set_cons_succ]
  refine Reg.both_all [13] (by kernel_rfl) (by simp) ?_
  intro j0 hj0
  obtain rfl:j0=13:=by simpa using hj0
  clear hj0
  left
  have hb:Below w4.heap.size w4 (w4.alloc (.cells (eA ⟨⟨p,z+1,k⟩,b,none,0,0,0⟩) 205)):=(Below.refl _ _).alloc (Nat.le_refl _) _
  refine⟨_,_,_,_,_,_,.slice (some ⟨w4.heap.size,0,none⟩) 1 1,(w4.alloc (.cells (eA ⟨⟨p,z+1,k⟩,b,none,0,0,0⟩) 205)),rfl,by rfl,exec_slice rfl (SL1.out _ _),⟨HP.out.below hb,HK.out.below hb⟩,?_⟩
  simp only[Act.put,List.setIfInBounds_toArray,List.set_cons_zero,List.set_cons_succ]
  have HNB:=Lib.hid (Blk.new w4 205 (eA ⟨⟨p,z+1,k⟩,b,none,0,0,0⟩))
  have HBX5:=Lib.hid (HBX.out.below hb)
  have HBL5:=Lib.hid HBX.out.lt
  replace HB:=Lib.hid (HB.out.trans (hb.mono HB.out.size));replace HRG:=Lib.hid (HRG.out.below hb);replace HP:=Lib.hid (HP.out.below hb);replace HK:=Lib.hid (HK.out.below hb)
  clear hb
  obtain⟨W5,eW5⟩:∃W5,W5=(w4.alloc (.cells (eA ⟨⟨p,z+1,k⟩,b,none,0,0,0⟩) 205)):=⟨_,rfl⟩
  have HS5:=Lib.hid (show w4.heap.size<W5.heap.size by rw[eW5];simp)
  rw[←eW5] at HNB HBX5 HB HRG HP HK⊢
  clear eW5
  refine Reg.both_all [14] (by kernel_rfl) (by simp) ?_
  intro j0 hj0
  obtain rfl:j0=14:=by simpa using hj0
  clear hj0
  left
  obtain⟨v6,w6,hrun,ho6,hg6,hv6⟩:=Wh.app_run (P:=Tryz.prog) eC 36 80 eC_length eC_one W5 197 197 205 i0 _ Tryz.underlying197 KI1.out KI2.out KI3.out KI4.out (by rfl) (by omega) B _ es HRG.out.row ⟨⟨p,z+1,k⟩,b,none,0,0,0⟩ w4.heap.size HNB.out (by have:=EN.out;have:=HL.out;omega) (by omega) (Nat.le_trans HBB.out HB.out.size)
  rw[←EN.out] at hrun
  replace HP:=Lib.hid (HP.out.grown hg6 (fun x=>by have:=(World.ownsRow.lt HW.out.row _ x).2;omega))
  replace HK:=Lib.hid (HK.out.grown hg6 (fun x=>by have:=(World.ownsRow.lt HW.out.row _ x).2;omega))
  refine⟨_,_,_,_,_,_,v6,w6,rfl,by rfl,exec_app rfl rfl hrun,⟨HP.out,HK.out⟩,?_⟩
  simp only[Act.put,List.setIfInBounds_toArray,List.set_cons_zero,List.set_cons_succ]
  refine Reg.any_take 15 (v:=?vu1115) rfl (by kernel_rfl) (by kernel_rfl) (by kernel_rfl) (fun _ _ _ h=>h) ⟨HP.out,HK.out⟩ (by rfl) (fun w' hS=>?hu1115) ?ru1115
  case hu1115=>go_simp;rfl
  simp only[Act.put,List.setIfInBounds_toArray,List.set_cons_zero,List.set_cons_succ]
  refine Reg.any_take 16 (v:=?vu1216) rfl (by kernel_rfl) (by kernel_rfl) (by kernel_rfl) (fun _ _ _ h=>h) ⟨HP.out,HK.out⟩ (by rfl) (fun w' hS=>?hu1216) ?ru1216
  case hu1216=>go_simp;rfl
  simp only[Act.put,List.setIfInBounds_toArray,List.set_cons_zero,List.set_cons_succ]
  have hfin:=fun(x:True)=>add_fin HW.out HBB.out HB.out HRG.out (it:=⟨p,z+1,k⟩) HBX5.out HBL.out ho6 hg6 hv6 x
  have hr6:=HRG.out.blk.grown hg6 HRG.out.vr
  obtain⟨A7,c7,e7,_⟩:=own_rdr eC_length ho6
  obtain⟨m7,em7⟩:∃m7,m7=(es++[(⟨⟨p,z+1,k⟩,b,none,0,0,0⟩:Ent)]).length:=⟨_,rfl⟩
  rw[←em7] at e7
  subst e7
  have f0:=hr6.frozen 0
  have k6:w6.cell? ⟨r,0,none⟩=some _:=hr6.cell 0
  refine Reg.any_store 17 (w6.setCell ⟨r,0,none⟩ (.slice A7 m7 c7)) rfl (by kernel_rfl) (by rfl) (by go_simp) ⟨Si.Blk.far HP.out _ _ (by simp;have:=HW.out.lt;omega),Si.Blk.far HK.out _ _ (by simp;have:=HW.out.lt;omega)⟩ ?_
  simp only[Act.put,List.setIfInBounds_toArray,List.set_cons_zero,List.set_cons_succ]
  refine wpAnyH_done (by kernel_rfl) ?_ _
  clear f0 k6 hr6 ho6 hg6 hv6 hrun em7
  have HFIN:=Lib.hid (hfin trivial)
  clear hfin
  go_wp2
  go_ret2
  exact⟨rfl,_,b,HBL.out,HFIN.out.1,HFIN.out.2.1,HFIN.out.2.2⟩
 ·right
  refine⟨_,_,_,_,_,_,101,#[prV p],rfl,by rfl,by go_simp,?_⟩
  refine(CC.out _).mono ?_
  rintro e w3 ⟨rfl,hb⟩
  replace HB:=Lib.hid (HB.out.trans (hb.mono HB.out.size));replace HRG:=Lib.hid (HRG.out.below hb);replace HP:=Lib.hid (HP.out.below hb);replace HK:=Lib.hid (HK.out.below hb)
  clear hb
  refine⟨_,rfl,⟨HP.out,HK.out⟩,?_⟩
  simp only[Act.put,List.setIfInBounds_toArray,List.set_cons_zero,List.set_cons_succ]
  refine Reg.both_all [4,11] (by kernel_rfl) (by simp) ?_
  intro j0 hj0
  have hj0:j0=4∨j0=11:=by simpa using hj0
  rcases hj0 with rfl | rfl
  ·left
   have kr:w3.cell? ⟨r,0,none⟩=some (.slice A n c):=EN.out▸HRG.out.blk.cell 0
   refine⟨_,_,_,_,_,_,_,_,rfl,by rfl,by(go_simp;rfl),⟨HP.out,HK.out⟩,?_⟩
   simp only[Act.put,List.setIfInBounds_toArray,List.set_cons_zero,List.set_cons_succ]
   clear kr
   refine Reg.both_all [11] (by kernel_rfl) (by simp) ?_
   intro j0 hj0
   obtain rfl:j0=11:=by simpa using hj0
   clear hj0
   right
   refine⟨_,_,_,_,_,_,58,#[.agg kv],rfl,by rfl,by go_simp,?_⟩
   refine(CN.out _).mono ?_
   rintro e w4 ⟨b,rfl,hbl,hbx,hb⟩
   have HBL:=Lib.hid (Nat.le_trans HB.out.size hbl)
   replace HB:=Lib.hid (HB.out.trans (hb.mono HB.out.size));replace HRG:=Lib.hid (HRG.out.below hb);replace HP:=Lib.hid (HP.out.below hb);replace HK:=Lib.hid (HK.out.below hb)
   have HBX:=Lib.hid hbx
   clear hb hbl hbx
   refine⟨_,rfl,⟨HP.out,HK.out⟩,?_⟩
   simp only[Act.put,List.setIfInBounds_toArray,List.set_cons_zero,List.set_cons_succ]
   refine Reg.any_take 12 (v:=.agg (eA ⟨⟨p,z+1,k⟩,b,none,0,0,0⟩)) rfl (by kernel_rfl) (by kernel_rfl) (by kernel_rfl) (fun _ _ _ h=>h) ⟨HP.out,HK.out⟩ (by rfl) (fun w' hS=>?hu1312) ?ru1312
   case hu1312=>exact exec_build (by go_simp) (EK.out▸built_ent p (z+1) b k)
   simp only[Act.put,List.setIfInBounds_toArray,List.set_cons_zero,List.set_cons_succ]
   refine Reg.both_all [13] (by kernel_rfl) (by simp) ?_
   intro j0 hj0
   obtain rfl:j0=13:=by simpa using hj0
   clear hj0
   left
   have hb:Below w4.heap.size w4 (w4.alloc (.cells (eA ⟨⟨p,z+1,k⟩,b,none,0,0,0⟩) 205)):=(Below.refl _ _).alloc (Nat.le_refl _) _
   refine⟨_,_,_,_,_,_,.slice (some ⟨w4.heap.size,0,none⟩) 1 1,(w4.alloc (.cells (eA ⟨⟨p,z+1,k⟩,b,none,0,0,0⟩) 205)),rfl,by rfl,exec_slice rfl (SL1.out _ _),⟨HP.out.below hb,HK.out.below hb⟩,?_⟩
   simp only[Act.put,List.setIfInBounds_toArray,List.set_cons_zero,List.set_cons_succ]
   have HNB:=Lib.hid (Blk.new w4 205 (eA ⟨⟨p,z+1,k⟩,b,none,0,0,0⟩))
   have HBX5:=Lib.hid (HBX.out.below hb)
   have HBL5:=Lib.hid HBX.out.lt
   replace HB:=Lib.hid (HB.out.trans (hb.mono HB.out.size));replace HRG:=Lib.hid (HRG.out.below hb);replace HP:=Lib.hid (HP.out.below hb);replace HK:=Lib.hid (HK.out.below hb)
   clear hb
   obtain⟨W5,eW5⟩:∃W5,W5=(w4.alloc (.cells (eA ⟨⟨p,z+1,k⟩,b,none,0,0,0⟩) 205)):=⟨_,rfl⟩
   have HS5:=Lib.hid (show w4.heap.size<W5.heap.size by rw[eW5];simp)
   rw[←eW5] at HNB HBX5 HB HRG HP HK⊢
   clear eW5
   refine Reg.both_all [14] (by kernel_rfl) (by simp) ?_
   intro j0 hj0
   obtain rfl:j0=14:=by simpa using hj0
   clear hj0
   left
   obtain⟨v6,w6,hrun,ho6,hg6,hv6⟩:=Wh.app_run (P:=Tryz.prog) eC 36 80 eC_length eC_one W5 197 197 205 i0 _ Tryz.underlying197 KI1.out KI2.out KI3.out KI4.out (by rfl) (by omega) B _ es HRG.out.row ⟨⟨p,z+1,k⟩,b,none,0,0,0⟩ w4.heap.size HNB.out (by have:=EN.out;have:=HL.out;omega) (by omega) (Nat.le_trans HBB.out HB.out.size)
   rw[←EN.out] at hrun
   replace HP:=Lib.hid (HP.out.grown hg6 (fun x=>by have:=(World.ownsRow.lt HW.out.row _ x).2;omega))
   replace HK:=Lib.hid (HK.out.grown hg6 (fun x=>by have:=(World.ownsRow.lt HW.out.row _ x).2;omega))
   refine⟨_,_,_,_,_,_,v6,w6,rfl,by rfl,exec_app rfl rfl hrun,⟨HP.out,HK.out⟩,?_⟩
   simp only[Act.put,List.setIfInBounds_toArray,List.set_cons_zero,List.set_cons_succ]
   refine Reg.any_take 15 (v:=?vu1415) rfl (by kernel_rfl) (by kernel_rfl) (by kernel_rfl) (fun _ _ _ h=>h) ⟨HP.out,HK.out⟩ (by rfl) (fun w' hS=>?hu1415) ?ru1415
   case hu1415=>go_simp;rfl
   simp only[Act.put,List.setIfInBounds_toArray,List.set_cons_zero,List.set_cons_succ]
   refine Reg.any_take 16 (v:=?vu1516) rfl (by kernel_rfl) (by kernel_rfl) (by kernel_rfl) (fun _ _ _ h=>h) ⟨HP.out,HK.out⟩ (by rfl) (fun w' hS=>?hu1516) ?ru1516
   case hu1516=>go_simp;rfl
   simp only[Act.put,List.setIfInBounds_toArray,List.set_cons_zero,List.set_cons_succ]
   have hfin:=fun(x:True)=>add_fin HW.out HBB.out HB.out HRG.out (it:=⟨p,z+1,k⟩) HBX5.out HBL.out ho6 hg6 hv6 x
   have hr6:=HRG.out.blk.grown hg6 HRG.out.vr
   obtain⟨A7,c7,e7,_⟩:=own_rdr eC_length ho6
   obtain⟨m7,em7⟩:∃m7,m7=(es++[(⟨⟨p,z+1,k⟩,b,none,0,0,0⟩:Ent)]).length:=⟨_,rfl⟩
   rw[←em7] at e7
   subst e7
   have f0:=hr6.frozen 0
   have k6:w6.cell? ⟨r,0,none⟩=some _:=hr6.cell 0
   refine Reg.any_store 17 (w6.setCell ⟨r,0,none⟩ (.slice A7 m7 c7)) rfl (by kernel_rfl) (by rfl) (by go_simp) ⟨Si.Blk.far HP.out _ _ (by simp;have:=HW.out.lt;omega),Si.Blk.far HK.out _ _ (by simp;have:=HW.out.lt;omega)⟩ ?_
   simp only[Act.put,List.setIfInBounds_toArray,List.set_cons_zero,List.set_cons_succ]
   refine wpAnyH_done (by kernel_rfl) ?_ _
   clear f0 k6 hr6 ho6 hg6 hv6 hrun em7
   have HFIN:=Lib.hid (hfin trivial)
   clear hfin
   go_wp2
   go_ret2
   exact⟨rfl,_,b,HBL.out,HFIN.out.1,HFIN.out.2.1,HFIN.out.2.2⟩
  ·right
   refine⟨_,_,_,_,_,_,58,#[.agg kv],rfl,by rfl,by go_simp,?_⟩
   refine(CN.out _).mono ?_
   rintro e w4 ⟨b,rfl,hbl,hbx,hb⟩
   have HBL:=Lib.hid (Nat.le_trans HB.out.size hbl)
   replace HB:=Lib.hid (HB.out.trans (hb.mono HB.out.size));replace HRG:=Lib.hid (HRG.out.below hb);replace HP:=Lib.hid (HP.out.below hb);replace HK:=Lib.hid (HK.out.below hb)
   have HBX:=Lib.hid hbx
   clear hb hbl hbx
   refine⟨_,rfl,⟨HP.out,HK.out⟩,?_⟩
   simp only[Act.put,List.setIfInBounds_toArray,List.set_cons_zero,List.set_cons_succ]
   refine Reg.any_take 12 (v:=.agg (eA ⟨⟨p,z+1,k⟩,b,none,0,0,0⟩)) rfl (by kernel_rfl) (by kernel_rfl) (by kernel_rfl) (fun _ _ _ h=>h) ⟨HP.out,HK.out⟩ (by rfl) (fun w' hS=>?hu1612) ?ru1612
   case hu1612=>exact exec_build (by go_simp) (EK.out▸built_ent p (z+1) b k)
   simp only[Act.put,List.setIfInBounds_toArray,List.set_cons_zero,List.set_cons_succ]
   refine Reg.both_all [4,13] (by kernel_rfl) (by simp) ?_
   intro j0 hj0
   have hj0:j0=4∨j0=13:=by simpa using hj0
   rcases hj0 with rfl | rfl
   ·left
    have kr:w4.cell? ⟨r,0,none⟩=some (.slice A n c):=EN.out▸HRG.out.blk.cell 0
    refine⟨_,_,_,_,_,_,_,_,rfl,by rfl,by(go_simp;rfl),⟨HP.out,HK.out⟩,?_⟩
    simp only[Act.put,List.setIfInBounds_toArray,List.set_cons_zero,List.set_cons_succ]
    clear kr
    refine Reg.both_all [13] (by kernel_rfl) (by simp) ?_
    intro j0 hj0
    obtain rfl:j0=13:=by simpa using hj0
    clear hj0
    left
    have hb:Below w4.heap.size w4 (w4.alloc (.cells (eA ⟨⟨p,z+1,k⟩,b,none,0,0,0⟩) 205)):=(Below.refl _ _).alloc (Nat.le_refl _) _
    refine⟨_,_,_,_,_,_,.slice (some ⟨w4.heap.size,0,none⟩) 1 1,(w4.alloc (.cells (eA ⟨⟨p,z+1,k⟩,b,none,0,0,0⟩) 205)),rfl,by rfl,exec_slice rfl (SL1.out _ _),⟨HP.out.below hb,HK.out.below hb⟩,?_⟩
    simp only[Act.put,List.setIfInBounds_toArray,List.set_cons_zero,List.set_cons_succ]
    have HNB:=Lib.hid (Blk.new w4 205 (eA ⟨⟨p,z+1,k⟩,b,none,0,0,0⟩))
    have HBX5:=Lib.hid (HBX.out.below hb)
    have HBL5:=Lib.hid HBX.out.lt
    replace HB:=Lib.hid (HB.out.trans (hb.mono HB.out.size));replace HRG:=Lib.hid (HRG.out.below hb);replace HP:=Lib.hid (HP.out.below hb);replace HK:=Lib.hid (HK.out.below hb)
    clear hb
    obtain⟨W5,eW5⟩:∃W5,W5=(w4.alloc (.cells (eA ⟨⟨p,z+1,k⟩,b,none,0,0,0⟩) 205)):=⟨_,rfl⟩
    have HS5:=Lib.hid (show w4.heap.size<W5.heap.size by rw[eW5];simp)
    rw[←eW5] at HNB HBX5 HB HRG HP HK⊢
    clear eW5
    refine Reg.both_all [14] (by kernel_rfl) (by simp) ?_
    intro j0 hj0
    obtain rfl:j0=14:=by simpa using hj0
    clear hj0
    left
    obtain⟨v6,w6,hrun,ho6,hg6,hv6⟩:=Wh.app_run (P:=Tryz.prog) eC 36 80 eC_length eC_one W5 197 197 205 i0 _ Tryz.underlying197 KI1.out KI2.out KI3.out KI4.out (by rfl) (by omega) B _ es HRG.out.row ⟨⟨p,z+1,k⟩,b,none,0,0,0⟩ w4.heap.size HNB.out (by have:=EN.out;have:=HL.out;omega) (by omega) (Nat.le_trans HBB.out HB.out.size)
    rw[←EN.out] at hrun
    replace HP:=Lib.hid (HP.out.grown hg6 (fun x=>by have:=(World.ownsRow.lt HW.out.row _ x).2;omega))
    replace HK:=Lib.hid (HK.out.grown hg6 (fun x=>by have:=(World.ownsRow.lt HW.out.row _ x).2;omega))
    refine⟨_,_,_,_,_,_,v6,w6,rfl,by rfl,exec_app rfl rfl hrun,⟨HP.out,HK.out⟩,?_⟩
    simp only[Act.put,List.setIfInBounds_toArray,List.set_cons_zero,List.set_cons_succ]
    refine Reg.any_take 15 (v:=?vu1715) rfl (by kernel_rfl) (by kernel_rfl) (by kernel_rfl) (fun _ _ _ h=>h) ⟨HP.out,HK.out⟩ (by rfl) (fun w' hS=>?hu1715) ?ru1715
    case hu1715=>go_simp;rfl
    simp only[Act.put,List.setIfInBounds_toArray,List.set_cons_zero,List.set_cons_succ]
    refine Reg.any_take 16 (v:=?vu1816) rfl (by kernel_rfl) (by kernel_rfl) (by kernel_rfl) (fun _ _ _ h=>h) ⟨HP.out,HK.out⟩ (by rfl) (fun w' hS=>?hu1816) ?ru1816
    case hu1816=>go_simp;rfl
    simp only[Act.put,List.setIfInBounds_toArray,List.set_cons_zero,List.set_cons_succ]
    have hfin:=fun(x:True)=>add_fin HW.out HBB.out HB.out HRG.out (it:=⟨p,z+1,k⟩) HBX5.out HBL.out ho6 hg6 hv6 x
    have hr6:=HRG.out.blk.grown hg6 HRG.out.vr
    obtain⟨A7,c7,e7,_⟩:=own_rdr eC_length ho6
    obtain⟨m7,em7⟩:∃m7,m7=(es++[(⟨⟨p,z+1,k⟩,b,none,0,0,0⟩:Ent)]).length:=⟨_,rfl⟩
    rw[←em7] at e7
    subst e7
    have f0:=hr6.frozen 0
    have k6:w6.cell? ⟨r,0,none⟩=some _:=hr6.cell 0
    refine Reg.any_store 17 (w6.setCell ⟨r,0,none⟩ (.slice A7 m7 c7)) rfl (by kernel_rfl) (by rfl) (by go_simp) ⟨Si.Blk.far HP.out _ _ (by simp;have:=HW.out.lt;omega),Si.Blk.far HK.out _ _ (by simp;have:=HW.out.lt;omega)⟩ ?_
    simp only[Act.put,List.setIfInBounds_toArray,List.set_cons_zero,List.set_cons_succ]
    refine wpAnyH_done (by kernel_rfl) ?_ _
    clear f0 k6 hr6 ho6 hg6 hv6 hrun em7
    have HFIN:=Lib.hid (hfin trivial)
    clear hfin
    go_wp2
    go_ret2
    exact⟨rfl,_,b,HBL.out,HFIN.out.1,HFIN.out.2.1,HFIN.out.2.2⟩
   ·left
    have hb:Below w4.heap.size w4 (w4.alloc (.cells (eA ⟨⟨p,z+1,k⟩,b,none,0,0,0⟩) 205)):=(Below.refl _ _).alloc (Nat.le_refl _) _
    refine⟨_,_,_,_,_,_,.slice (some ⟨w4.heap.size,0,none⟩) 1 1,(w4.alloc (.cells (eA ⟨⟨p,z+1,k⟩,b,none,0,0,0⟩) 205)),rfl,by rfl,exec_slice rfl (SL1.out _ _),⟨HP.out.below hb,HK.out.below hb⟩,?_⟩
    simp only[Act.put,List.setIfInBounds_toArray,List.set_cons_zero,List.set_cons_succ]
    have HNB:=Lib.hid (Blk.new w4 205 (eA ⟨⟨p,z+1,k⟩,b,none,0,0,0⟩))
    have HBX5:=Lib.hid (HBX.out.below hb)
    have HBL5:=Lib.hid HBX.out.lt
    replace HB:=Lib.hid (HB.out.trans (hb.mono HB.out.size));replace HRG:=Lib.hid (HRG.out.below hb);replace HP:=Lib.hid (HP.out.below hb);replace HK:=Lib.hid (HK.out.below hb)
    clear hb
    obtain⟨W5,eW5⟩:∃W5,W5=(w4.alloc (.cells (eA ⟨⟨p,z+1,k⟩,b,none,0,0,0⟩) 205)):=⟨_,rfl⟩
    have HS5:=Lib.hid (show w4.heap.size<W5.heap.size by rw[eW5];simp)
    rw[←eW5] at HNB HBX5 HB HRG HP HK⊢
    clear eW5
    refine Reg.both_all [4] (by kernel_rfl) (by simp) ?_
    intro j0 hj0
    obtain rfl:j0=4:=by simpa using hj0
    clear hj0
    left
    have kr:W5.cell? ⟨r,0,none⟩=some (.slice A n c):=EN.out▸HRG.out.blk.cell 0
    refine⟨_,_,_,_,_,_,_,_,rfl,by rfl,by(go_simp;rfl),⟨HP.out,HK.out⟩,?_⟩
    simp only[Act.put,List.setIfInBounds_toArray,List.set_cons_zero,List.set_cons_succ]
    clear kr
    refine Reg.both_all [14] (by kernel_rfl) (by simp) ?_
    intro j0 hj0
    obtain rfl:j0=14:=by simpa using hj0
    clear hj0
    left
    obtain⟨v6,w6,hrun,ho6,hg6,hv6⟩:=Wh.app_run (P:=Tryz.prog) eC 36 80 eC_length eC_one W5 197 197 205 i0 _ Tryz.underlying197 KI1.out KI2.out KI3.out KI4.out (by rfl) (by omega) B _ es HRG.out.row ⟨⟨p,z+1,k⟩,b,none,0,0,0⟩ w4.heap.size HNB.out (by have:=EN.out;have:=HL.out;omega) (by omega) (Nat.le_trans HBB.out HB.out.size)
    rw[←EN.out] at hrun
    replace HP:=Lib.hid (HP.out.grown hg6 (fun x=>by have:=(World.ownsRow.lt HW.out.row _ x).2;omega))
    replace HK:=Lib.hid (HK.out.grown hg6 (fun x=>by have:=(World.ownsRow.lt HW.out.row _ x).2;omega))
    refine⟨_,_,_,_,_,_,v6,w6,rfl,by rfl,exec_app rfl rfl hrun,⟨HP.out,HK.out⟩,?_⟩
    simp only[Act.put,List.setIfInBounds_toArray,List.set_cons_zero,List.set_cons_succ]
    refine Reg.any_take 15 (v:=?vu1915) rfl (by kernel_rfl) (by kernel_rfl) (by kernel_rfl) (fun _ _ _ h=>h) ⟨HP.out,HK.out⟩ (by rfl) (fun w' hS=>?hu1915) ?ru1915
    case hu1915=>go_simp;rfl
    simp only[Act.put,List.setIfInBounds_toArray,List.set_cons_zero,List.set_cons_succ]
    refine Reg.any_take 16 (v:=?vu2016) rfl (by kernel_rfl) (by kernel_rfl) (by kernel_rfl) (fun _ _ _ h=>h) ⟨HP.out,HK.out⟩ (by rfl) (fun w' hS=>?hu2016) ?ru2016
    case hu2016=>go_simp;rfl
    simp only[Act.put,List.setIfInBounds_toArray,List.set_cons_zero,List.set_cons_succ]
    have hfin:=fun(x:True)=>add_fin HW.out HBB.out HB.out HRG.out (it:=⟨p,z+1,k⟩) HBX5.out HBL.out ho6 hg6 hv6 x
    have hr6:=HRG.out.blk.grown hg6 HRG.out.vr
    obtain⟨A7,c7,e7,_⟩:=own_rdr eC_length ho6
    obtain⟨m7,em7⟩:∃m7,m7=(es++[(⟨⟨p,z+1,k⟩,b,none,0,0,0⟩:Ent)]).length:=⟨_,rfl⟩
    rw[←em7] at e7
    subst e7
    have f0:=hr6.frozen 0
    have k6:w6.cell? ⟨r,0,none⟩=some _:=hr6.cell 0
    refine Reg.any_store 17 (w6.setCell ⟨r,0,none⟩ (.slice A7 m7 c7)) rfl (by kernel_rfl) (by rfl) (by go_simp) ⟨Si.Blk.far HP.out _ _ (by simp;have:=HW.out.lt;omega),Si.Blk.far HK.out _ _ (by simp;have:=HW.out.lt;omega)⟩ ?_
    simp only[Act.put,List.setIfInBounds_toArray,List.set_cons_zero,List.set_cons_succ]
    refine wpAnyH_done (by kernel_rfl) ?_ _
    clear f0 k6 hr6 ho6 hg6 hv6 hrun em7
    have HFIN:=Lib.hid (hfin trivial)
    clear hfin
    go_wp2
    go_ret2
    exact⟨rfl,_,b,HBL.out,HFIN.out.1,HFIN.out.2.1,HFIN.out.2.2⟩
set_option maxRecDepth 100000 in
set_option maxHeartbeats 1600000 in
theorem add_arg (r:Option Nat) (p:Pr) (k:Nat→UInt8) (w:World) (h1:p.1.length≤1000000000) (h2:p.2.length≤1000000000) (hp:r=none∨prB p=false) :
  Calls Tryz.prog 44 #[.pointer (r.map fun r=>⟨r,0,none⟩),prV p,.agg (key32 k)] w fun e w'=>e = .returned (.tuple #[.int .i64 0,.int .i64 1])∧Below w.heap.size w w':=by
 have CP:=Lib.hid (fun w1=>isprinc p w1 h1 h2)
 obtain⟨kv,ekv⟩:∃kv,kv=key32 k:=⟨_,rfl⟩
 rw[←ekv]
 obtain⟨W,eW⟩:∃W,W=(w.alloc (.cells #[.string ⟨p.1.toArray⟩,.string ⟨p.2.toArray⟩] 27)).alloc (.cells kv 47):=⟨_,rfl⟩
 have hb:Below w.heap.size w W:=eW▸((Below.refl _ _).alloc (Nat.le_refl _) _).alloc (by simp) _
 have hb0:Blk W w.heap.size 27 #[.string ⟨p.1.toArray⟩,.string ⟨p.2.toArray⟩]:=eW▸(Blk.new w _ _).alloc _
 have kp0:W.cell? ⟨w.heap.size,0,none⟩=some (.string ⟨p.1.toArray⟩):=hb0.cell 0
 have kp1:W.cell? ⟨w.heap.size,1,none⟩=some (.string ⟨p.2.toArray⟩):=hb0.cell 1
 have HB:=Lib.hid hb
 clear hb hb0 h1 h2 ekv
 cases r with
 |none=>
  clear hp
  go_enter Tryz.func44,Tryz.ntmps44
  go_upto_region 1 with fail
  rw[←eW]
  clear eW
  go_wp2
  go_ret2
  exact⟨rfl,HB.out⟩
 |some r=>
  have hp:prB p=false:=by
   rcases hp with h | h
   ·cases h
   ·exact h
  rw[hp] at CP
  clear hp
  show Calls _ _ #[.pointer (some ⟨r,0,none⟩),prV p,.agg kv] _ _
  go_enter Tryz.func44,Tryz.ntmps44
  go_upto_region 1 with fail
  rw[←eW]
  clear eW
  go_wp2_with (first
   |(go_at_call 99;refine Calls.mono (CP.out _) ?_;rintro e w1 ⟨rfl,hb⟩;replace HB:=Lib.hid (HB.out.trans (hb.mono HB.out.size));clear hb)
   |fail)
  go_ret2
  exact⟨rfl,HB.out⟩
set_option maxRecDepth 100000 in
set_option maxHeartbeats 3200000 in
theorem add_full (B r:Nat) (v:Value) (es:List Ent) (p:Pr) (k:Nat→UInt8) (w:World) (h:Ring w B r v es) (h1:p.1.length≤1000000000) (h2:p.2.length≤1000000000) (hp:prB p=true) (hl:40≤es.length) (hl2:es.length≤1000) :
  Calls Tryz.prog 44 #[.pointer (some ⟨r,0,none⟩),prV p,.agg (key32 k)] w fun e w'=>e = .returned (.tuple #[.int .i64 0,.int .i64 13])∧Below w.heap.size w w':=by
 obtain⟨A,c,rfl,hc,hm,hr⟩:=h.num
 obtain⟨n,en⟩:∃n,n=es.length:=⟨_,rfl⟩
 have EN:=Lib.hid en
 obtain⟨z,ez⟩:∃z,z=lastN (its es) p:=⟨_,rfl⟩
 have hq:=entC_num es (lastI (its es) p)
 rw[show numO (its es) (lastI (its es) p)=z from ez.symm] at hq
 have CL:=Lib.hid (fun(w1:World) (h:Ring w1 B r (.slice A es.length c) es)=>last_any B r (.slice A es.length c) es p w1 h (by omega))
 have CP:=Lib.hid (fun w1=>isprinc p w1 h1 h2)
 rw[hp] at CP
 obtain⟨kv,ekv⟩:∃kv,kv=key32 k:=⟨_,rfl⟩
 obtain⟨cs,ecs⟩:∃cs,cs=entC es (lastI (its es) p):=⟨_,rfl⟩
 rw[←ecs] at CL hq
 rw[←ekv]
 rw[←en] at hl
 have hrl:=h.lt
 obtain⟨W,eW⟩:∃W,W=(w.alloc (.cells #[.string ⟨p.1.toArray⟩,.string ⟨p.2.toArray⟩] 27)).alloc (.cells kv 47):=⟨_,rfl⟩
 have hb:Below w.heap.size w W:=eW▸((Below.refl _ _).alloc (Nat.le_refl _) _).alloc (by simp) _
 have HP:=Lib.hid (show Blk W w.heap.size 27 #[.string ⟨p.1.toArray⟩,.string ⟨p.2.toArray⟩] from eW▸(Blk.new w _ _).alloc _)
 have HK:=Lib.hid (show Blk W (w.heap.size+1) 47 kv by have:=Blk.new (w.alloc (.cells #[.string ⟨p.1.toArray⟩,.string ⟨p.2.toArray⟩] 27)) 47 kv;simp only[World.size_alloc] at this;exact eW▸this)
 have HB:=Lib.hid hb
 have HRG:=Lib.hid (h.below hb)
 have HW:=Lib.hid h
 have kp0:W.cell? ⟨w.heap.size,0,none⟩=some (.string ⟨p.1.toArray⟩):=HP.out.cell 0
 have kp1:W.cell? ⟨w.heap.size,1,none⟩=some (.string ⟨p.2.toArray⟩):=HP.out.cell 1
 have hfl:=field_num cs _ hq
 have t1:decide (40≤(n:Int))=true:=by simp;omega
 clear hb h hr h1 h2 hp hl ekv ecs ez en hc hm hq hl2
 go_enter Tryz.func44,Tryz.ntmps44
 go_upto_region 1 with fail
 rw[←eW]
 clear eW
 go_wp2_with (first
  |(go_at_call 99;refine Calls.mono (CP.out _) ?_;rintro e w1 ⟨rfl,hb⟩;replace HB:=Lib.hid (HB.out.trans (hb.mono HB.out.size));replace HRG:=Lib.hid (HRG.out.below hb);replace HP:=Lib.hid (HP.out.below hb);replace HK:=Lib.hid (HK.out.below hb);have kp0:w1.cell? ⟨w.heap.size,0,none⟩=some (.string ⟨p.1.toArray⟩):=HP.out.cell 0;have kp1:w1.cell? ⟨w.heap.size,1,none⟩=some (.string ⟨p.2.toArray⟩):=HP.out.cell 1;have kr:w1.cell? ⟨r,0,none⟩=some (.slice A n c):=EN.out▸HRG.out.blk.cell 0;clear hb)
  |(go_at_call 100;refine Calls.mono (CL.out _ HRG.out) ?_;rintro e w2 ⟨rfl,hb⟩;clear kp0 kp1 kr;replace HB:=Lib.hid (HB.out.trans (hb.mono HB.out.size));replace HRG:=Lib.hid (HRG.out.below hb);replace HP:=Lib.hid (HP.out.below hb);replace HK:=Lib.hid (HK.out.below hb);have kp0:w2.cell? ⟨w.heap.size,0,none⟩=some (.string ⟨p.1.toArray⟩):=HP.out.cell 0;have kp1:w2.cell? ⟨w.heap.size,1,none⟩=some (.string ⟨p.2.toArray⟩):=HP.out.cell 1;have kr:w2.cell? ⟨r,0,none⟩=some (.slice A n c):=EN.out▸HRG.out.blk.cell 0;clear hb)
  |fail)
 go_ret2
 exact⟨rfl,HB.out⟩
theorem add_any (B r:Nat) (v:Value) (es:List Ent) (p:Pr) (k:Nat→UInt8) (w:World) (h:Ring w B r v es) (hB:B≤w.heap.size) (h1:p.1.length≤1000000000) (h2:p.2.length≤1000000000) (hl:es.length≤40) (hn:Num (its es)) :
  Calls Tryz.prog 44 #[.pointer (some ⟨r,0,none⟩),prV p,.agg (key32 k)] w fun e w'=>e = .returned (.tuple #[.int .i64 (addN (its es) p:Int),.int .i64 (addE (its es) p:Int)])∧∃v' es',Ring w' B r v' es'∧its es'=addL (its es) p k∧(es'=es∨∃x,es'=es++[x]∧x.a=0∧x.o=0∧x.r=0)∧Chg (fun q=>q=r∨v.ownBlock=some q) w w'∧(∀q,RO r v' es' q→RO r v es q∨w.heap.size≤q):=by
 cases hp:prB p with
 |false=>
  refine(add_arg (some r) p k w h1 h2 (.inr hp)).mono ?_
  rintro e w' ⟨rfl,hb⟩
  refine⟨by rw[addN,addE,hp];rfl,v,es,h.below hb,by rw[addL,hp];rfl,.inl rfl,Chg.of_below hb,fun q hq=>.inl hq⟩
 |true=>
  by_cases hx:es.length<40
  ·have hx2:(its es).length<40:=by rw[its_length];exact hx
   have h255:lastN (its es) p<255:=by have:=last_le hn p;omega
   refine(add_ok B r v es p k w h hB h1 h2 hp hx h255).mono ?_
   rintro e w' ⟨rfl,v',b,hbl,hr,hc,hnw⟩
   refine⟨by rw[addN,addE,hp,if_pos rfl,if_pos rfl,if_pos hx2,if_pos hx2];rfl,v',_,hr,?_,.inr ⟨_,rfl,rfl,rfl,rfl⟩,hc,hnw⟩
   rw[its_snoc,addL,hp,if_pos rfl,if_pos hx2]
  ·have hx2:¬(its es).length<40:=by rw[its_length];exact hx
   refine(add_full B r v es p k w h h1 h2 hp (by omega) (by omega)).mono ?_
   rintro e w' ⟨rfl,hb⟩
   refine⟨by rw[addN,addE,hp,if_pos rfl,if_pos rfl,if_neg hx2,if_neg hx2];rfl,v,es,h.below hb,?_,.inl rfl,Chg.of_below hb,fun q hq=>.inl hq⟩
   rw[addL,hp,if_pos rfl,if_neg hx2]
end Go.Proofs.YtfcjeebnkigeaaaGreat.Rg
end

section
set_option linter.unusedVariables false
set_option linter.unusedSimpArgs false
namespace Go.Proofs.YtfcjeebnkigeaaaGreat.Rg
open Go.RowKit Go.Proofs.YtfcjeebnkigeaaaGreat.Mem Go.Proofs.YtfcjeebnkigeaaaGreat.Se
def kB (b:UInt8) (i:Nat):UInt8:=if i=0 then b else 0
abbrev p1:Pr:=([65],[120])
abbrev AT (r:Nat) (v:Value) (q:Nat):Prop:=q=r∨v.ownBlock=some q
theorem at_ro {r:Nat} {v:Value} {es:List Ent} {q:Nat} (h:AT r v q):RO r v es q:=by
 rcases h with h | h
 ·exact .inl h
 ·exact .inr (.inl h)
end Go.Proofs.YtfcjeebnkigeaaaGreat.Rg
end

section
set_option linter.unusedVariables false
set_option linter.unusedSimpArgs false
namespace Go.Proofs.YtfcjeebnkigeaaaGreat.Rg
open Go.RowKit Go.Proofs.YtfcjeebnkigeaaaGreat.Mem Go.Proofs.YtfcjeebnkigeaaaGreat.Se
section
variable {w w':World} {B r i:Nat} {v v':Value} {es es':List Ent} {e:Ent} {A:Option Addr} {xs:List Value}
theorem ow_ro (he:es[i]? = some e) {k:Nat} (h:Ow e.b e.h k):RO r v es k:=.inr (.inr ⟨i,e,he,h⟩)
end
end Go.Proofs.YtfcjeebnkigeaaaGreat.Rg
end

section
set_option linter.unusedVariables false
namespace Go.Proofs.YtfcjeebnkigeaaaGreat.Nm
open Go.RowKit Go.Proofs.YtfcjeebnkigeaaaGreat.Mem
theorem ext_rng (l:List UInt8) (f k:Nat):(ByteArray.mk l.toArray).extract f k=ByteArray.mk ((l.drop f).take (k - f)).toArray:=by
 rw[ByteArray.extract_mk]
attribute [local go_sem] mk_at List.getElem_cons_zero List.getElem_cons_succ ext_rng
def piece (l:L) (f k:Nat):L:=(l.drop f).take (k - f)
theorem piece_cut {l:L} {f k:Nat} (hf:f≤k) (hk:k<l.length):l.drop f=piece l f k++l[k] :: l.drop (k+1):=by
 have h1:l.drop f=(l.drop f).take (k - f)++(l.drop f).drop (k - f):=(List.take_append_drop _ _).symm
 rw[List.drop_drop,show f+(k - f)=k by omega,List.drop_eq_getElem_cons hk] at h1
 exact h1
theorem piece_succ {l:L} {f k:Nat} (hf:f≤k) (hk:k<l.length):piece l f (k+1)=piece l f k++[l[k]]:=by
 have h:=piece_cut hf hk
 have hl:(piece l f k).length=k - f:=by rw[piece,List.length_take,List.length_drop];omega
 rw[piece,h,show k+1 - f=(piece l f k).length+1 by omega,List.take_append,List.take_of_length_le (by omega),Nat.add_sub_cancel_left]
 rfl
theorem piece_all {l:L} {f:Nat}:piece l f l.length=l.drop f:=by rw[piece,List.take_of_length_le (by simp)]
theorem split_le (c:UInt8) (l:L):(split c l).length≤l.length+1:=by
 induction l with
 |nil=>simp [split]
 |cons x r ih=>
  rw[split];split
  ·simp;omega
  ·split<;>simp_all<;>omega
set_option maxHeartbeats 1600000 in
set_option maxRecDepth 100000 in
theorem split_any (l:L) (c:UInt8) (w:World) (hs:l.length≤1000000000):Calls Tryz.prog 177 #[.string ⟨l.toArray⟩,.int .u8 (c.toNat:Int)] w fun e w'=>∃v,e = .returned v∧Own w' w.heap.size v (split c l)∧Below w.heap.size w w':=by
 obtain⟨N,eN⟩:∃N,N=w.heap.size:=⟨_,rfl⟩
 rw[←eN]
 have HB0:=Lib.hid (show Below N w w by exact Below.refl _ _)
 have EN:=Lib.hid eN;clear eN
 have HNE0:=Lib.hid (show ∀w1:World,Below N w w1→N≤w1.heap.size from fun w1 h=>by have:=h.size;have:=EN.out;omega)
 go_enter Tryz.func177,Tryz.ntmps177
 go_wp2
 go_loopw [5,6,7] (fun vv fv iv wr=>∃(f k:Nat) (ls:List L),f≤k∧k≤l.length∧fv = .int .i64 (f:Int)∧iv = .int .i64 (k:Int)∧Own wr N vv ls∧c∉piece l f k∧ls++split c (l.drop f)=split c l∧ls.length≤f∧Below N w wr) (fun _ _ iv _=>l.length - (intOf iv).toNat)
 case atStart=>exact⟨0,0,[],Nat.le_refl _,Nat.zero_le _,rfl,rfl,Own.nil _ _,by simp [piece],by simp,by simp,HB0.out⟩
 case round=>
  obtain⟨f,k,ls,hf,hk,rfl,rfl,ho,hc,hsp,hll,hb⟩:=hrel
  have HO:=Lib.hid ho;clear ho
  have HB:=Lib.hid hb;clear hb
  have HC:=Lib.hid hc;clear hc
  have HSP:=Lib.hid hsp;clear hsp
  by_cases hlt:k<l.length
  ·have e1:(k:Int)<(l.length:Int):=by omega
   have hpc:=piece_cut hf hlt
   have hps:=piece_succ hf hlt
   by_cases hx:l[k]=c
   ·have t1:((l[k].toNat:Int)==(c.toNat:Int))=true:=by simp [hx]
    have hn:(ls++[piece l f k])++split c (l.drop (k+1))=split c l:=by
     rw[←HSP.out,hpc,hx,split_head HC.out];simp
    have HN:=Lib.hid hn;clear hn hpc hps hx
    have e2:(f:Int)≤(k:Int):=by omega
    go_wp2_with (at_builtin;refine app_one rfl (.tmp 19) (.tmp 24) rfl N _ ls rfl HO.out (piece l f k) rfl (by omega) (HNE0.out _ HB.out) ?_;intro v' w3 ho3 hb3;have H3:=Lib.hid (HB.out.trans hb3);have HO3:=Lib.hid ho3;clear ho3 hb3)
    go_roundw
    case rel=>exact⟨k+1,k+1,_,Nat.le_refl _,by omega,by go_num,by go_num,HO3.out,by simp [piece],HN.out,by simp;omega,H3.out⟩
    case measure=>simp [intOf];omega
   ·have t1:((l[k].toNat:Int)==(c.toNat:Int))=false:=by
     simp only[beq_eq_false_iff_ne,ne_eq]
     intro q
     exact hx (UInt8.toNat_inj.1 (by omega))
    have HC1:=Lib.hid (show c∉piece l f (k+1) by
     rw[hps,List.mem_append,not_or]
     exact⟨HC.out,by simpa using fun q:c=l[k]=>hx q.symm⟩)
    clear hpc hps hx
    go_wp2
    go_roundw
    case rel=>exact⟨f,k+1,ls,by omega,by omega,rfl,by go_num,HO.out,HC1.out,HSP.out,hll,HB.out⟩
    case measure=>simp [intOf];omega
  ·obtain rfl:k=l.length:=by omega
   have e1:¬(l.length:Int)<(l.length:Int):=by omega
   have e2:(f:Int)≤(l.length:Int):=by omega
   have hc:=HC.out
   rw[piece_all] at hc
   have hn:ls++[piece l f l.length]=split c l:=by rw[←HSP.out,split_none hc,piece_all]
   have HN:=Lib.hid hn;clear hn hc
   go_wp2_with (at_builtin;refine app_one rfl (.tmp 28) (.tmp 32) rfl N _ ls rfl HO.out (piece l f l.length) rfl (by omega) (HNE0.out _ HB.out) ?_;intro v' w3 ho3 hb3;have H3:=Lib.hid (HB.out.trans hb3);have HO3:=Lib.hid ho3;clear ho3 hb3)
   go_ret
   exact⟨_,rfl,by rw[←HN.out];exact HO3.out,H3.out⟩
end Go.Proofs.YtfcjeebnkigeaaaGreat.Nm
end
