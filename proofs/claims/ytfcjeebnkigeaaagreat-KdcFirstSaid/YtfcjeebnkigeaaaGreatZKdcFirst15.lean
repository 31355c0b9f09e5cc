import Derived.Test.YtfcjeebnkigeaaaGreatZKdcFirst14
set_option maxHeartbeats 25600000
set_option maxRecDepth 100000
set_option linter.unusedVariables false
set_option linter.unusedSimpArgs false
namespace Go.Proofs.YtfcjeebnkigeaaaGreat
section
namespace Rg
open Go.RowKit Af Se
theorem My (p:Pr) (w:World) (h1:p.1.length≤1000000000) (h2:p.2.length≤1000000000):Calls Tryz.prog 99 #[prV p] w fun e w'=>e = .returned (.bool (prB p))∧Below w.heap.size w w':=Nm.AX p.1 p.2 w h1 h2
theorem NM (es:List Ent) (o:Option Nat):(entC es o)[2]? = some (.int .i64 (numO (its es) o:Int)):=by
 cases o with
 |none=>rfl
 |some j=>
  rw[Ln];cases h:es[j]? with
  |none=>simp [numO,its,h];rfl
  |some e=>
   have:numO (its es) (some j)=e.it.n:=by simp [numO,its,h]
   rw[this];rfl
theorem Lq (cs:Array Value) (z:Int) (h:cs[2]? = some (.int .i64 z)) (w:World):(Instr.field 205 (.agg cs) 1).run Tryz.prog w = .ok (.int .i64 z) w:=by
 unfold Instr.field part asAgg
 go_simp
theorem Mz {w w':World} {row:Option Nat} (h:w.grownBy w' row):Chg (fun q=>row=some q) w w':=⟨h.os,h.tape,h.output,h.size,fun i hi hn=>h.block i hi (fun e=>hn e.symm)⟩
theorem Kl {w W5 w6:World} {B r b:Nat} {v v6:Value} {es:List Ent} {it:It} (h:Ring w B r v es) (hB:B≤w.heap.size) (hb:Below w.heap.size w W5) (h5:Ring W5 B r v es) (hx:Box W5 b it.k none 0 0 0) (hbl:w.heap.size≤b)
  (ho:w6.ownsRow B 205 36 v6 (es++[(⟨it,b,none,0,0,0⟩:Ent)]).length ((es++[(⟨it,b,none,0,0,0⟩:Ent)]).flatMap eC)) (hg:W5.grownBy w6 v.ownBlock) (hv:v6.ownBlock=v.ownBlock∨v6.ownBlock=some W5.heap.size) (hbs:True) :
  Ring (w6.setCell ⟨r,0,none⟩ v6) B r v6 (es++[⟨it,b,none,0,0,0⟩])∧Chg (fun q=>q=r∨v.ownBlock=some q) w (w6.setCell ⟨r,0,none⟩ v6)∧(∀q,RO r v6 (es++[⟨it,b,none,0,0,0⟩]) q→RO r v es q∨w.heap.size≤q):=by
 have hrl:=h.lt;have hlt:=hx.lt;have hne:r≠b:=by omega
 have hvr:v6.ownBlock≠some r:=fun x=>by
  rcases hv with g | g
  ·rw[g] at x;exact h.vr x
  ·rw[g] at x;injection x with x;have:=h5.lt;omega
 have hset:Chg (fun q=>q=r) w6 (w6.setCell ⟨r,0,none⟩ v6):=Chg.set (p:=⟨r,0,none⟩) (Chg.refl (fun q=>q=r) w6) (.inl rfl) v6;have hc:Chg (fun q=>q=r∨v.ownBlock=some q) w (w6.setCell ⟨r,0,none⟩ v6):=
  (((Chg.of_below hb).trans (Mz hg) (fun q _ x=>.inr x)).trans hset (fun q _ x=>.inl x):Chg (fun q=>q=r∨v.ownBlock=some q) w _)
 have hnew:∀q,RO r v6 (es++[⟨it,b,none,0,0,0⟩]) q→RO r v es q∨w.heap.size≤q:=fun q hq=>by
  rcases hq with hq | hq | ⟨i,e,he,hq⟩
  ·exact .inl (.inl hq)
  ·rcases hv with g | g
   ·exact .inl (.inr (.inl (g▸hq)))
   ·rw[g] at hq;injection hq with hq;exact .inr (by have:=hb.size;omega)
  ·by_cases hi:i<es.length
   ·rw[List.getElem?_append_left hi] at he
    exact .inl (.inr (.inr ⟨i,e,he,hq⟩))
   ·rw[List.getElem?_append_right (by omega)] at he
    have e1:=(List.getElem?_eq_some_iff.1 he).1;have e2:i - es.length=0:=by simp at e1;omega
    rw[e2] at he;injection he with he;subst he;rcases hq with hq | hq
    ·exact .inr (by rw[hq];exact hbl)
    ·cases hq
 refine⟨h.snoc hc ?_ ?_ ?_ ?_ hbl rfl hB,hc,hnew⟩
 ·exact(h5.blk.grown hg h5.vr).set 0 v6
 ·have:=IN hset ho (fun q hq x=>hvr (x▸hq))
  rw[List.length_append,List.length_singleton,List.flatMap_append,List.flatMap_singleton] at this;exact this
 ·rcases hv with g | g
  ·exact .inl g
  ·exact .inr ⟨_,g,hb.size,by show W5.heap.size≠b;omega⟩
 ·have h6:Box w6 b it.k none 0 0 0:=hx.chg (Mz hg) (fun q hq x=>by
   rcases hq with hq | hq
   ·subst hq;have:=(World.ownsRow.lt h.row q x).2;omega
   ·cases hq)
  exact h6.chg hset (fun q hq x=>by
   rcases hq with hq | hq
   ·exact hne (x▸hq)
   ·cases hq)
theorem Wo:(Tryz.prog.info? 205).map (fun i=>(i.zero,i.size,i.bytes))=some (some (.agg Dt),36,80):=by kernel_rfl
section
variable {P:Program} {w w':World} {a:Act} {dst:Option Tmp} {ty:TypeId} {pos:String} {after:Array _} {guard:Option (Nat×Bool)}
theorem AU {t:TypeId} {parts:Array (Nat×Operand)} {vs:List (Nat×Value)} {cells:Array Value} (hv:(parts.map fun x=>(x.1,a.eval x.2)).toList=vs) (h:P.built t vs=some cells) :
  (execOp a.eval ⟨dst,.build t parts,ty,pos,after,guard⟩).run P w = .ok (.value (.agg cells)) w:=by
 have:=run_build (P:=P) w t (parts.map fun x=>(x.1,a.eval x.2)) cells (by rw[hv];exact h);simp only[execOp,Sem.run_bind,this,Result.andThen_ok,Sem.run_pure]
theorem CV {t:TypeId} {x:Operand} {cs:Array Value} {s:Value} (hx:a.eval x = .agg cs) (h:(Instr.buildSlice t 1 #[(0,.agg cs)]).run P w = .ok s w') :
  (execOp a.eval ⟨dst,.buildSlice t 1 #[(0,x)],ty,pos,after,guard⟩).run P w = .ok (.value s) w':=by
 simp only[execOp,Sem.run_bind,List.map_toArray,List.map_cons,List.map_nil,hx,h,Result.andThen_ok,Sem.run_pure]
theorem Fp {t:TypeId} {x y:Operand} {u v s:Value} (hx:a.eval x=u) (hy:a.eval y=v) (h:(Builtin.append_ #[t,t] ty #[u,v]).run P w = .ok s w') :
  (execOp a.eval ⟨dst,.call {callee:=.builtin .append,args:=#[x,y],argTypes:=#[t,t]},ty,pos,after,guard⟩).run P w = .ok (.value s) w':=by
 simp only[execOp,resolve,invoke,builtin,Sem.run_bind,Sem.run_pure,Result.andThen_ok,List.map_toArray,List.map_cons,List.map_nil,hx,hy,h]
end
theorem IT (p:Pr) (n b:Nat) (k:Nat→UInt8):Tryz.prog.built 205 [(0,prV p),(1,.int .i64 (n:Int)),(2,.agg (AP k)),(3,.pointer (some ⟨b,0,none⟩))]=some (eA ⟨⟨p,n,k⟩,b,none,0,0,0⟩):=by
 kernel_rfl
theorem XX (B r:Nat) (v:Value) (es:List Ent) (p:Pr) (k:Nat→UInt8) (w:World) (h:Ring w B r v es) (hB:B≤w.heap.size) (h1:p.1.length≤1000000000) (h2:p.2.length≤1000000000) (hp:prB p=true) (hl:es.length<40) (hn:BB (its es) p<255) :
  Calls Tryz.prog 44 #[.pointer (some ⟨r,0,none⟩),prV p,.agg (AP k)] w fun e w'=>e = .returned (.tuple #[.int .i64 ((BB (its es) p:Int)+1),.int .i64 0])∧∃v' b,w.heap.size≤b∧Ring w' B r v' (es++[⟨⟨p,BB (its es) p+1,k⟩,b,none,0,0,0⟩])∧Chg (fun q=>q=r∨v.ownBlock=some q) w w'∧(∀q,RO r v' (es++[⟨⟨p,BB (its es) p+1,k⟩,b,none,0,0,0⟩]) q→RO r v es q∨w.heap.size≤q):=by
 obtain⟨A,c,rfl,hc,hm,hr⟩:=h.num;obtain⟨n,en⟩:∃n,n=es.length:=⟨_,rfl⟩;have EN:=I en;obtain⟨z,ez⟩:∃z,z=BB (its es) p:=⟨_,rfl⟩;have EZ:=I ez;have hq:=NM es (Cc (its es) p);rw[show numO (its es) (Cc (its es) p)=z from ez.symm] at hq;have CL:=I (fun(w1:World) (h:Ring w1 B r (.slice A es.length c) es)=>Hq B r (.slice A es.length c) es p w1 h (by omega));have CP:=I (fun w1=>My p w1 h1 h2);have CC:=I (fun w1=>TY p w1 h1 h2);have CN:=I (fun w1=>Md k w1);rw[hp] at CP;obtain⟨kv,ekv⟩:∃kv,kv=AP k:=⟨_,rfl⟩;obtain⟨cs,ecs⟩:∃cs,cs=entC es (Cc (its es) p):=⟨_,rfl⟩;rw[←ecs] at CL hq;rw[←ekv] at CN⊢;rw[←ez] at hn⊢;rw[←en] at hl;have hrl:=h.lt;obtain⟨W,eW⟩:∃W,W=(w.alloc (.cells #[.string ⟨p.1.toArray⟩,.string ⟨p.2.toArray⟩] 27)).alloc (.cells kv 47):=⟨_,rfl⟩;have hb:Below w.heap.size w W:=eW▸((Below.refl _ _).alloc (Nat.le_refl _) _).alloc (by simp) _;have HP:=I (show Blk W w.heap.size 27 #[.string ⟨p.1.toArray⟩,.string ⟨p.2.toArray⟩] from eW▸(Blk.new w _ _).alloc _);have HK:=I (show Blk W (w.heap.size+1) 47 kv by have:=Blk.new (w.alloc (.cells #[.string ⟨p.1.toArray⟩,.string ⟨p.2.toArray⟩] 27)) 47 kv;simp only[World.size_alloc] at this;exact eW▸this);have HB:=I hb;have HRG:=I (h.below hb);have HW:=I h;have kp0:W.cell? ⟨w.heap.size,0,none⟩=some (.string ⟨p.1.toArray⟩):=HP.o.cell 0;have kp1:W.cell? ⟨w.heap.size,1,none⟩=some (.string ⟨p.2.toArray⟩):=HP.o.cell 1;have hfl:=Lq cs _ hq;have hwr:IntKind.i64.wrap ((z:Int)+1)=(z:Int)+1:=by rw[IntKind.wrap_i64];omega
 have EK:=I ekv;have HKI:=I (show(Tryz.prog.info? 47).map (·.size)=some kv.size by rw[ekv];exact EH k);obtain⟨i0,hi0,hz0,hs0,hb0⟩:=info_parts Wo;have KI1:=I hi0;have KI2:=I hz0;have KI3:=I hs0;have KI4:=I hb0;have SL1:=I (fun(w1:World) (b:Nat)=>Wh.Gr (P:=Tryz.prog) w1 197 205 (eA ⟨⟨p,z+1,k⟩,b,none,0,0,0⟩) i0 _ Tryz.underlying197 hi0 hz0 (by rw[hs0,Du]) (by rw[Du];omega) (by rw[Du];omega));have HBB:=I hB;clear hi0 hz0 hs0 hb0 hB;have HN:=I hn;have t1:decide (40≤(n:Int))=false:=by simp;omega
 have t2:decide (255≤(z:Int))=false:=by simp;omega
 have HL:=I hl;clear hb h hr h1 h2 hp hn hl ekv ecs ez en hc hm hq;go_enter Tryz.func44,Tryz.ntmps44
 go_upto_region 1 with fail
 rw[←eW];clear eW
 go_wp2_with (first
  |(go_at_call 99;refine Calls.mono (CP.o _) ?_;rintro e w1 ⟨rfl,hb⟩;replace HB:=HB.t hb;replace HRG:=I (HRG.o.below hb);replace HP:=I (HP.o.below hb);replace HK:=I (HK.o.below hb);have kp0:w1.cell? ⟨w.heap.size,0,none⟩=some (.string ⟨p.1.toArray⟩):=HP.o.cell 0;have kp1:w1.cell? ⟨w.heap.size,1,none⟩=some (.string ⟨p.2.toArray⟩):=HP.o.cell 1;have kr:w1.cell? ⟨r,0,none⟩=some (.slice A n c):=EN.o▸HRG.o.blk.cell 0;clear hb)
  |(go_at_call 100;refine Calls.mono (CL.o _ HRG.o) ?_;rintro e w2 ⟨rfl,hb⟩;clear kp0 kp1 kr;replace HB:=HB.t hb;replace HRG:=I (HRG.o.below hb);replace HP:=I (HP.o.below hb);replace HK:=I (HK.o.below hb);have kp0:w2.cell? ⟨w.heap.size,0,none⟩=some (.string ⟨p.1.toArray⟩):=HP.o.cell 0;have kp1:w2.cell? ⟨w.heap.size,1,none⟩=some (.string ⟨p.2.toArray⟩):=HP.o.cell 1;have kr:w2.cell? ⟨r,0,none⟩=some (.slice A n c):=EN.o▸HRG.o.blk.cell 0;clear hb)
  |fail)
 replace HP:=I (show Blk w2.drew _ _ _ from HP.o.drewN 1);replace HK:=I (show Blk w2.drew _ _ _ from HK.o.drewN 1);replace HRG:=I HRG.o.drew;replace HB:=I (show Below w.heap.size w w2.drew from below_drewN HB.o 1);clear kp0 kp1 kr;refine Reg.AR (fun w'=>Blk w' w.heap.size 27 #[.string ⟨p.1.toArray⟩,.string ⟨p.2.toArray⟩]∧Blk w' (w.heap.size+1) 47 kv) 18 rfl (by kernel_rfl) ⟨HP.o,HK.o⟩ ?_;obtain⟨W2,eW2⟩:∃W2,W2=w2.drew:=⟨_,rfl⟩;rw[←eW2] at HP HK HRG HB⊢;clear eW2;refine Reg.Ar 0 (v:=?vu10) rfl (by kernel_rfl) (by kernel_rfl) (by kernel_rfl) (fun _ _ _ h=>h) ⟨HP.o,HK.o⟩ (by rfl) (fun w' hS=>?hu10) ?ru10
 case hu10=>go_simp;rfl
 simp only[Act.put,U,Aa,Ab];refine Reg.Ar 1 (v:=?vu21) rfl (by kernel_rfl) (by kernel_rfl) (by kernel_rfl) (fun _ _ _ h=>h) ⟨HP.o,HK.o⟩ (by rfl) (fun w' hS=>?hu21) ?ru21
 case hu21=>go_simp;rfl
 simp only[Act.put,U,Aa,Ab];refine Reg.Ar 2 (v:=?vu32) rfl (by kernel_rfl) (by kernel_rfl) (by kernel_rfl) (fun _ _ _ h=>h) ⟨HP.o,HK.o⟩ (by rfl) (fun w' hS=>?hu32) ?ru32
 case hu32=>go_simp;rfl
 simp only[Act.put,U,Aa,Ab];refine Reg.Ar 3 (v:=?vu43) rfl (by kernel_rfl) (by kernel_rfl) (by kernel_rfl) (fun _ _ _ h=>h) ⟨HP.o,HK.o⟩ (by rfl) (fun w' hS=>?hu43) ?ru43
 case hu43=>go_simp;rfl
 simp only[Act.put,U,Aa,Ab];refine Reg.Ar 5 (v:=.agg #[.string ⟨p.1.toArray⟩,.string ⟨p.2.toArray⟩]) rfl (by kernel_rfl) (by kernel_rfl) (by kernel_rfl) (fun _ _ _ h=>h) ⟨HP.o,HK.o⟩ (by rfl) (fun w' hS=>?hu55) ?ru55
 case hu55=>exact Wh.AS (.tmp 4) rfl rfl hS.1 Tryz.underlying27 rfl Da
 simp only[Act.put,U,Aa,Ab];refine Reg.Ar 7 (v:=?vu67) rfl (by kernel_rfl) (by kernel_rfl) (by kernel_rfl) (fun _ _ _ h=>h) ⟨HP.o,HK.o⟩ (by rfl) (fun w' hS=>?hu67) ?ru67
 case hu67=>go_simp;rfl
 simp only[Act.put,U,Aa,Ab];refine Reg.Ar 8 (v:=.int .i64 ((z:Int)+1)) rfl (by kernel_rfl) (by kernel_rfl) (by kernel_rfl) (fun _ _ _ h=>h) ⟨HP.o,HK.o⟩ (by rfl) (fun w' hS=>?hu78) ?ru78
 case hu78=>go_simp
 simp only[Act.put,U,Aa,Ab];refine Reg.Ar 9 (v:=.agg kv) rfl (by kernel_rfl) (by kernel_rfl) (by kernel_rfl) (fun _ _ _ h=>h) ⟨HP.o,HK.o⟩ (by rfl) (fun w' hS=>?hu89) ?ru89
 case hu89=>exact Wh.AS (.tmp 5) rfl rfl hS.2 Tryz.underlying47 rfl HKI.o
 simp only[Act.put,U,Aa,Ab];refine Reg.Ar 10 (v:=.agg kv) rfl (by kernel_rfl) (by kernel_rfl) (by kernel_rfl) (fun _ _ _ h=>h) ⟨HP.o,HK.o⟩ (by rfl) (fun w' hS=>?hu910) ?ru910
 case hu910=>exact Wh.AS (.tmp 5) rfl rfl hS.2 Tryz.underlying47 rfl HKI.o
 simp only[Act.put,U,Aa,Ab];refine Reg.Ad [4,6] (by kernel_rfl) (by simp) ?_;intro j0 hj0;have hj0:j0=4∨j0=6:=by simpa using hj0
 rcases hj0 with rfl | rfl
 ·left
  have kr:W2.cell? ⟨r,0,none⟩=some (.slice A n c):=EN.o▸HRG.o.blk.cell 0;refine⟨_,_,_,_,_,_,_,_,rfl,by rfl,by(go_simp;rfl),⟨HP.o,HK.o⟩,?_⟩;simp only[Act.put,U,Aa,Ab];clear kr;refine Reg.Ad [6] (by kernel_rfl) (by simp) ?_;intro j0 hj0;obtain rfl:j0=6:=by simpa using hj0
  clear hj0
  right
  refine⟨_,_,_,_,_,_,101,#[prV p],rfl,by rfl,by go_simp,?_⟩;refine(CC.o _).mono ?_;rintro e w3 ⟨rfl,hb⟩;replace HB:=HB.t hb;replace HRG:=I (HRG.o.below hb);replace HP:=I (HP.o.below hb);replace HK:=I (HK.o.below hb);clear hb;refine⟨_,rfl,⟨HP.o,HK.o⟩,?_⟩;simp only[Act.put,U,Aa,Ab];refine Reg.Ad [11] (by kernel_rfl) (by simp) ?_;intro j0 hj0;obtain rfl:j0=11:=by simpa using hj0
  clear hj0
  right
  refine⟨_,_,_,_,_,_,58,#[.agg kv],rfl,by rfl,by go_simp,?_⟩;refine(CN.o _).mono ?_;rintro e w4 ⟨b,rfl,hbl,hbx,hb⟩;have HBL:=I (Nat.le_trans HB.o.size hbl);replace HB:=HB.t hb;replace HRG:=I (HRG.o.below hb);replace HP:=I (HP.o.below hb);replace HK:=I (HK.o.below hb);have HBX:=I hbx;clear hb hbl hbx;refine⟨_,rfl,⟨HP.o,HK.o⟩,?_⟩;simp only[Act.put,U,Aa,Ab];refine Reg.Ar 12 (v:=.agg (eA ⟨⟨p,z+1,k⟩,b,none,0,0,0⟩)) rfl (by kernel_rfl) (by kernel_rfl) (by kernel_rfl) (fun _ _ _ h=>h) ⟨HP.o,HK.o⟩ (by rfl) (fun w' hS=>?hu1012) ?ru1012
  case hu1012=>exact AU (by go_simp) (EK.o▸IT p (z+1) b k)
  simp only[Act.put,U,Aa,Ab];refine Reg.Ad [13] (by kernel_rfl) (by simp) ?_;intro j0 hj0;obtain rfl:j0=13:=by simpa using hj0
  clear hj0
  left
  have hb:Below w4.heap.size w4 (w4.alloc (.cells (eA ⟨⟨p,z+1,k⟩,b,none,0,0,0⟩) 205)):=(Below.refl _ _).alloc (Nat.le_refl _) _;refine⟨_,_,_,_,_,_,.slice (some ⟨w4.heap.size,0,none⟩) 1 1,(w4.alloc (.cells (eA ⟨⟨p,z+1,k⟩,b,none,0,0,0⟩) 205)),rfl,by rfl,CV rfl (SL1.o _ _),⟨HP.o.below hb,HK.o.below hb⟩,?_⟩;simp only[Act.put,U,Aa,Ab];have HNB:=I (Blk.new w4 205 (eA ⟨⟨p,z+1,k⟩,b,none,0,0,0⟩));have HBX5:=I (HBX.o.below hb);have HBL5:=I HBX.o.lt;replace HB:=HB.t hb;replace HRG:=I (HRG.o.below hb);replace HP:=I (HP.o.below hb);replace HK:=I (HK.o.below hb);clear hb;obtain⟨W5,eW5⟩:∃W5,W5=(w4.alloc (.cells (eA ⟨⟨p,z+1,k⟩,b,none,0,0,0⟩) 205)):=⟨_,rfl⟩;have HS5:=I (show w4.heap.size<W5.heap.size by rw[eW5];simp);rw[←eW5] at HNB HBX5 HB HRG HP HK⊢;clear eW5;refine Reg.Ad [14] (by kernel_rfl) (by simp) ?_;intro j0 hj0;obtain rfl:j0=14:=by simpa using hj0
  clear hj0
  left
  obtain⟨v6,w6,hrun,ho6,hg6,hv6⟩:=Wh.FP (P:=Tryz.prog) eC 36 80 BZ Ll W5 197 197 205 i0 _ Tryz.underlying197 KI1.o KI2.o KI3.o KI4.o (by rfl) (by omega) B _ es HRG.o.row ⟨⟨p,z+1,k⟩,b,none,0,0,0⟩ w4.heap.size HNB.o (by have:=EN.o;have:=HL.o;omega) (by omega) (Nat.le_trans HBB.o HB.o.size);rw[←EN.o] at hrun;replace HP:=I (HP.o.grown hg6 (fun x=>by have:=(World.ownsRow.lt HW.o.row _ x).2;omega));replace HK:=I (HK.o.grown hg6 (fun x=>by have:=(World.ownsRow.lt HW.o.row _ x).2;omega));refine⟨_,_,_,_,_,_,v6,w6,rfl,by rfl,Fp rfl rfl hrun,⟨HP.o,HK.o⟩,?_⟩;simp only[Act.put,U,Aa,Ab];refine Reg.Ar 15 (v:=?vu1115) rfl (by kernel_rfl) (by kernel_rfl) (by kernel_rfl) (fun _ _ _ h=>h) ⟨HP.o,HK.o⟩ (by rfl) (fun w' hS=>?hu1115) ?ru1115
  case hu1115=>go_simp;rfl
  simp only[Act.put,U,Aa,Ab];refine Reg.Ar 16 (v:=?vu1216) rfl (by kernel_rfl) (by kernel_rfl) (by kernel_rfl) (fun _ _ _ h=>h) ⟨HP.o,HK.o⟩ (by rfl) (fun w' hS=>?hu1216) ?ru1216
  case hu1216=>go_simp;rfl
  simp only[Act.put,U,Aa,Ab];have hfin:=fun(x:True)=>Kl HW.o HBB.o HB.o HRG.o (it:=⟨p,z+1,k⟩) HBX5.o HBL.o ho6 hg6 hv6 x
  have hr6:=HRG.o.blk.grown hg6 HRG.o.vr;obtain⟨A7,c7,e7,_⟩:=EW BZ ho6;obtain⟨m7,em7⟩:∃m7,m7=(es++[(⟨⟨p,z+1,k⟩,b,none,0,0,0⟩:Ent)]).length:=⟨_,rfl⟩;rw[←em7] at e7;subst e7;have f0:=hr6.frozen 0;have k6:w6.cell? ⟨r,0,none⟩=some _:=hr6.cell 0;refine Reg.Be 17 (w6.setCell ⟨r,0,none⟩ (.slice A7 m7 c7)) rfl (by kernel_rfl) (by rfl) (by go_simp) ⟨Si.Blk.far HP.o _ _ (by simp;have:=HW.o.lt;omega),Si.Blk.far HK.o _ _ (by simp;have:=HW.o.lt;omega)⟩ ?_;simp only[Act.put,U,Aa,Ab];refine wpAnyH_done (by kernel_rfl) ?_ _;clear f0 k6 hr6 ho6 hg6 hv6 hrun em7;have HFIN:=I (hfin trivial);clear hfin
  go_wp2
  go_ret2
  exact⟨rfl,_,b,HBL.o,HFIN.o.1,HFIN.o.2.1,HFIN.o.2.2⟩
 ·right
  refine⟨_,_,_,_,_,_,101,#[prV p],rfl,by rfl,by go_simp,?_⟩;refine(CC.o _).mono ?_;rintro e w3 ⟨rfl,hb⟩;replace HB:=HB.t hb;replace HRG:=I (HRG.o.below hb);replace HP:=I (HP.o.below hb);replace HK:=I (HK.o.below hb);clear hb;refine⟨_,rfl,⟨HP.o,HK.o⟩,?_⟩;simp only[Act.put,U,Aa,Ab];refine Reg.Ad [4,11] (by kernel_rfl) (by simp) ?_;intro j0 hj0;have hj0:j0=4∨j0=11:=by simpa using hj0
  rcases hj0 with rfl | rfl
  ·left
   have kr:w3.cell? ⟨r,0,none⟩=some (.slice A n c):=EN.o▸HRG.o.blk.cell 0;refine⟨_,_,_,_,_,_,_,_,rfl,by rfl,by(go_simp;rfl),⟨HP.o,HK.o⟩,?_⟩;simp only[Act.put,U,Aa,Ab];clear kr;refine Reg.Ad [11] (by kernel_rfl) (by simp) ?_;intro j0 hj0;obtain rfl:j0=11:=by simpa using hj0
   clear hj0
   right
   refine⟨_,_,_,_,_,_,58,#[.agg kv],rfl,by rfl,by go_simp,?_⟩;refine(CN.o _).mono ?_;rintro e w4 ⟨b,rfl,hbl,hbx,hb⟩;have HBL:=I (Nat.le_trans HB.o.size hbl);replace HB:=HB.t hb;replace HRG:=I (HRG.o.below hb);replace HP:=I (HP.o.below hb);replace HK:=I (HK.o.below hb);have HBX:=I hbx;clear hb hbl hbx;refine⟨_,rfl,⟨HP.o,HK.o⟩,?_⟩;simp only[Act.put,U,Aa,Ab];refine Reg.Ar 12 (v:=.agg (eA ⟨⟨p,z+1,k⟩,b,none,0,0,0⟩)) rfl (by kernel_rfl) (by kernel_rfl) (by kernel_rfl) (fun _ _ _ h=>h) ⟨HP.o,HK.o⟩ (by rfl) (fun w' hS=>?hu1312) ?ru1312
   case hu1312=>exact AU (by go_simp) (EK.o▸IT p (z+1) b k)
   simp only[Act.put,U,Aa,Ab];refine Reg.Ad [13] (by kernel_rfl) (by simp) ?_;intro j0 hj0;obtain rfl:j0=13:=by simpa using hj0
   clear hj0
   left
   have hb:Below w4.heap.size w4 (w4.alloc (.cells (eA ⟨⟨p,z+1,k⟩,b,none,0,0,0⟩) 205)):=(Below.refl _ _).alloc (Nat.le_refl _) _;refine⟨_,_,_,_,_,_,.slice (some ⟨w4.heap.size,0,none⟩) 1 1,(w4.alloc (.cells (eA ⟨⟨p,z+1,k⟩,b,none,0,0,0⟩) 205)),rfl,by rfl,CV rfl (SL1.o _ _),⟨HP.o.below hb,HK.o.below hb⟩,?_⟩;simp only[Act.put,U,Aa,Ab];have HNB:=I (Blk.new w4 205 (eA ⟨⟨p,z+1,k⟩,b,none,0,0,0⟩));have HBX5:=I (HBX.o.below hb);have HBL5:=I HBX.o.lt;replace HB:=HB.t hb;replace HRG:=I (HRG.o.below hb);replace HP:=I (HP.o.below hb);replace HK:=I (HK.o.below hb);clear hb;obtain⟨W5,eW5⟩:∃W5,W5=(w4.alloc (.cells (eA ⟨⟨p,z+1,k⟩,b,none,0,0,0⟩) 205)):=⟨_,rfl⟩;have HS5:=I (show w4.heap.size<W5.heap.size by rw[eW5];simp);rw[←eW5] at HNB HBX5 HB HRG HP HK⊢;clear eW5;refine Reg.Ad [14] (by kernel_rfl) (by simp) ?_;intro j0 hj0;obtain rfl:j0=14:=by simpa using hj0
   clear hj0
   left
   obtain⟨v6,w6,hrun,ho6,hg6,hv6⟩:=Wh.FP (P:=Tryz.prog) eC 36 80 BZ Ll W5 197 197 205 i0 _ Tryz.underlying197 KI1.o KI2.o KI3.o KI4.o (by rfl) (by omega) B _ es HRG.o.row ⟨⟨p,z+1,k⟩,b,none,0,0,0⟩ w4.heap.size HNB.o (by have:=EN.o;have:=HL.o;omega) (by omega) (Nat.le_trans HBB.o HB.o.size);rw[←EN.o] at hrun;replace HP:=I (HP.o.grown hg6 (fun x=>by have:=(World.ownsRow.lt HW.o.row _ x).2;omega));replace HK:=I (HK.o.grown hg6 (fun x=>by have:=(World.ownsRow.lt HW.o.row _ x).2;omega));refine⟨_,_,_,_,_,_,v6,w6,rfl,by rfl,Fp rfl rfl hrun,⟨HP.o,HK.o⟩,?_⟩;simp only[Act.put,U,Aa,Ab];refine Reg.Ar 15 (v:=?vu1415) rfl (by kernel_rfl) (by kernel_rfl) (by kernel_rfl) (fun _ _ _ h=>h) ⟨HP.o,HK.o⟩ (by rfl) (fun w' hS=>?hu1415) ?ru1415
   case hu1415=>go_simp;rfl
   simp only[Act.put,U,Aa,Ab];refine Reg.Ar 16 (v:=?vu1516) rfl (by kernel_rfl) (by kernel_rfl) (by kernel_rfl) (fun _ _ _ h=>h) ⟨HP.o,HK.o⟩ (by rfl) (fun w' hS=>?hu1516) ?ru1516
   case hu1516=>go_simp;rfl
   simp only[Act.put,U,Aa,Ab];have hfin:=fun(x:True)=>Kl HW.o HBB.o HB.o HRG.o (it:=⟨p,z+1,k⟩) HBX5.o HBL.o ho6 hg6 hv6 x
   have hr6:=HRG.o.blk.grown hg6 HRG.o.vr;obtain⟨A7,c7,e7,_⟩:=EW BZ ho6;obtain⟨m7,em7⟩:∃m7,m7=(es++[(⟨⟨p,z+1,k⟩,b,none,0,0,0⟩:Ent)]).length:=⟨_,rfl⟩;rw[←em7] at e7;subst e7;have f0:=hr6.frozen 0;have k6:w6.cell? ⟨r,0,none⟩=some _:=hr6.cell 0;refine Reg.Be 17 (w6.setCell ⟨r,0,none⟩ (.slice A7 m7 c7)) rfl (by kernel_rfl) (by rfl) (by go_simp) ⟨Si.Blk.far HP.o _ _ (by simp;have:=HW.o.lt;omega),Si.Blk.far HK.o _ _ (by simp;have:=HW.o.lt;omega)⟩ ?_;simp only[Act.put,U,Aa,Ab];refine wpAnyH_done (by kernel_rfl) ?_ _;clear f0 k6 hr6 ho6 hg6 hv6 hrun em7;have HFIN:=I (hfin trivial);clear hfin
   go_wp2
   go_ret2
   exact⟨rfl,_,b,HBL.o,HFIN.o.1,HFIN.o.2.1,HFIN.o.2.2⟩
  ·right
   refine⟨_,_,_,_,_,_,58,#[.agg kv],rfl,by rfl,by go_simp,?_⟩;refine(CN.o _).mono ?_;rintro e w4 ⟨b,rfl,hbl,hbx,hb⟩;have HBL:=I (Nat.le_trans HB.o.size hbl);replace HB:=HB.t hb;replace HRG:=I (HRG.o.below hb);replace HP:=I (HP.o.below hb);replace HK:=I (HK.o.below hb);have HBX:=I hbx;clear hb hbl hbx;refine⟨_,rfl,⟨HP.o,HK.o⟩,?_⟩;simp only[Act.put,U,Aa,Ab];refine Reg.Ar 12 (v:=.agg (eA ⟨⟨p,z+1,k⟩,b,none,0,0,0⟩)) rfl (by kernel_rfl) (by kernel_rfl) (by kernel_rfl) (fun _ _ _ h=>h) ⟨HP.o,HK.o⟩ (by rfl) (fun w' hS=>?hu1612) ?ru1612
   case hu1612=>exact AU (by go_simp) (EK.o▸IT p (z+1) b k)
   simp only[Act.put,U,Aa,Ab];refine Reg.Ad [4,13] (by kernel_rfl) (by simp) ?_;intro j0 hj0;have hj0:j0=4∨j0=13:=by simpa using hj0
   rcases hj0 with rfl | rfl
   ·left
    have kr:w4.cell? ⟨r,0,none⟩=some (.slice A n c):=EN.o▸HRG.o.blk.cell 0;refine⟨_,_,_,_,_,_,_,_,rfl,by rfl,by(go_simp;rfl),⟨HP.o,HK.o⟩,?_⟩;simp only[Act.put,U,Aa,Ab];clear kr;refine Reg.Ad [13] (by kernel_rfl) (by simp) ?_;intro j0 hj0;obtain rfl:j0=13:=by simpa using hj0
    clear hj0
    left
    have hb:Below w4.heap.size w4 (w4.alloc (.cells (eA ⟨⟨p,z+1,k⟩,b,none,0,0,0⟩) 205)):=(Below.refl _ _).alloc (Nat.le_refl _) _;refine⟨_,_,_,_,_,_,.slice (some ⟨w4.heap.size,0,none⟩) 1 1,(w4.alloc (.cells (eA ⟨⟨p,z+1,k⟩,b,none,0,0,0⟩) 205)),rfl,by rfl,CV rfl (SL1.o _ _),⟨HP.o.below hb,HK.o.below hb⟩,?_⟩;simp only[Act.put,U,Aa,Ab];have HNB:=I (Blk.new w4 205 (eA ⟨⟨p,z+1,k⟩,b,none,0,0,0⟩));have HBX5:=I (HBX.o.below hb);have HBL5:=I HBX.o.lt;replace HB:=HB.t hb;replace HRG:=I (HRG.o.below hb);replace HP:=I (HP.o.below hb);replace HK:=I (HK.o.below hb);clear hb;obtain⟨W5,eW5⟩:∃W5,W5=(w4.alloc (.cells (eA ⟨⟨p,z+1,k⟩,b,none,0,0,0⟩) 205)):=⟨_,rfl⟩;have HS5:=I (show w4.heap.size<W5.heap.size by rw[eW5];simp);rw[←eW5] at HNB HBX5 HB HRG HP HK⊢;clear eW5;refine Reg.Ad [14] (by kernel_rfl) (by simp) ?_;intro j0 hj0;obtain rfl:j0=14:=by simpa using hj0
    clear hj0
    left
    obtain⟨v6,w6,hrun,ho6,hg6,hv6⟩:=Wh.FP (P:=Tryz.prog) eC 36 80 BZ Ll W5 197 197 205 i0 _ Tryz.underlying197 KI1.o KI2.o KI3.o KI4.o (by rfl) (by omega) B _ es HRG.o.row ⟨⟨p,z+1,k⟩,b,none,0,0,0⟩ w4.heap.size HNB.o (by have:=EN.o;have:=HL.o;omega) (by omega) (Nat.le_trans HBB.o HB.o.size);rw[←EN.o] at hrun;replace HP:=I (HP.o.grown hg6 (fun x=>by have:=(World.ownsRow.lt HW.o.row _ x).2;omega));replace HK:=I (HK.o.grown hg6 (fun x=>by have:=(World.ownsRow.lt HW.o.row _ x).2;omega));refine⟨_,_,_,_,_,_,v6,w6,rfl,by rfl,Fp rfl rfl hrun,⟨HP.o,HK.o⟩,?_⟩;simp only[Act.put,U,Aa,Ab];refine Reg.Ar 15 (v:=?vu1715) rfl (by kernel_rfl) (by kernel_rfl) (by kernel_rfl) (fun _ _ _ h=>h) ⟨HP.o,HK.o⟩ (by rfl) (fun w' hS=>?hu1715) ?ru1715
    case hu1715=>go_simp;rfl
    simp only[Act.put,U,Aa,Ab];refine Reg.Ar 16 (v:=?vu1816) rfl (by kernel_rfl) (by kernel_rfl) (by kernel_rfl) (fun _ _ _ h=>h) ⟨HP.o,HK.o⟩ (by rfl) (fun w' hS=>?hu1816) ?ru1816
    case hu1816=>go_simp;rfl
    simp only[Act.put,U,Aa,Ab];have hfin:=fun(x:True)=>Kl HW.o HBB.o HB.o HRG.o (it:=⟨p,z+1,k⟩) HBX5.o HBL.o ho6 hg6 hv6 x
    have hr6:=HRG.o.blk.grown hg6 HRG.o.vr;obtain⟨A7,c7,e7,_⟩:=EW BZ ho6;obtain⟨m7,em7⟩:∃m7,m7=(es++[(⟨⟨p,z+1,k⟩,b,none,0,0,0⟩:Ent)]).length:=⟨_,rfl⟩;rw[←em7] at e7;subst e7;have f0:=hr6.frozen 0;have k6:w6.cell? ⟨r,0,none⟩=some _:=hr6.cell 0;refine Reg.Be 17 (w6.setCell ⟨r,0,none⟩ (.slice A7 m7 c7)) rfl (by kernel_rfl) (by rfl) (by go_simp) ⟨Si.Blk.far HP.o _ _ (by simp;have:=HW.o.lt;omega),Si.Blk.far HK.o _ _ (by simp;have:=HW.o.lt;omega)⟩ ?_;simp only[Act.put,U,Aa,Ab];refine wpAnyH_done (by kernel_rfl) ?_ _;clear f0 k6 hr6 ho6 hg6 hv6 hrun em7;have HFIN:=I (hfin trivial);clear hfin
    go_wp2
    go_ret2
    exact⟨rfl,_,b,HBL.o,HFIN.o.1,HFIN.o.2.1,HFIN.o.2.2⟩
   ·left
    have hb:Below w4.heap.size w4 (w4.alloc (.cells (eA ⟨⟨p,z+1,k⟩,b,none,0,0,0⟩) 205)):=(Below.refl _ _).alloc (Nat.le_refl _) _;refine⟨_,_,_,_,_,_,.slice (some ⟨w4.heap.size,0,none⟩) 1 1,(w4.alloc (.cells (eA ⟨⟨p,z+1,k⟩,b,none,0,0,0⟩) 205)),rfl,by rfl,CV rfl (SL1.o _ _),⟨HP.o.below hb,HK.o.below hb⟩,?_⟩;simp only[Act.put,U,Aa,Ab];have HNB:=I (Blk.new w4 205 (eA ⟨⟨p,z+1,k⟩,b,none,0,0,0⟩));have HBX5:=I (HBX.o.below hb);have HBL5:=I HBX.o.lt;replace HB:=HB.t hb;replace HRG:=I (HRG.o.below hb);replace HP:=I (HP.o.below hb);replace HK:=I (HK.o.below hb);clear hb;obtain⟨W5,eW5⟩:∃W5,W5=(w4.alloc (.cells (eA ⟨⟨p,z+1,k⟩,b,none,0,0,0⟩) 205)):=⟨_,rfl⟩;have HS5:=I (show w4.heap.size<W5.heap.size by rw[eW5];simp);rw[←eW5] at HNB HBX5 HB HRG HP HK⊢;clear eW5;refine Reg.Ad [4] (by kernel_rfl) (by simp) ?_;intro j0 hj0;obtain rfl:j0=4:=by simpa using hj0
    clear hj0
    left
    have kr:W5.cell? ⟨r,0,none⟩=some (.slice A n c):=EN.o▸HRG.o.blk.cell 0;refine⟨_,_,_,_,_,_,_,_,rfl,by rfl,by(go_simp;rfl),⟨HP.o,HK.o⟩,?_⟩;simp only[Act.put,U,Aa,Ab];clear kr;refine Reg.Ad [14] (by kernel_rfl) (by simp) ?_;intro j0 hj0;obtain rfl:j0=14:=by simpa using hj0
    clear hj0
    left
    obtain⟨v6,w6,hrun,ho6,hg6,hv6⟩:=Wh.FP (P:=Tryz.prog) eC 36 80 BZ Ll W5 197 197 205 i0 _ Tryz.underlying197 KI1.o KI2.o KI3.o KI4.o (by rfl) (by omega) B _ es HRG.o.row ⟨⟨p,z+1,k⟩,b,none,0,0,0⟩ w4.heap.size HNB.o (by have:=EN.o;have:=HL.o;omega) (by omega) (Nat.le_trans HBB.o HB.o.size);rw[←EN.o] at hrun;replace HP:=I (HP.o.grown hg6 (fun x=>by have:=(World.ownsRow.lt HW.o.row _ x).2;omega));replace HK:=I (HK.o.grown hg6 (fun x=>by have:=(World.ownsRow.lt HW.o.row _ x).2;omega));refine⟨_,_,_,_,_,_,v6,w6,rfl,by rfl,Fp rfl rfl hrun,⟨HP.o,HK.o⟩,?_⟩;simp only[Act.put,U,Aa,Ab];refine Reg.Ar 15 (v:=?vu1915) rfl (by kernel_rfl) (by kernel_rfl) (by kernel_rfl) (fun _ _ _ h=>h) ⟨HP.o,HK.o⟩ (by rfl) (fun w' hS=>?hu1915) ?ru1915
    case hu1915=>go_simp;rfl
    simp only[Act.put,U,Aa,Ab];refine Reg.Ar 16 (v:=?vu2016) rfl (by kernel_rfl) (by kernel_rfl) (by kernel_rfl) (fun _ _ _ h=>h) ⟨HP.o,HK.o⟩ (by rfl) (fun w' hS=>?hu2016) ?ru2016
    case hu2016=>go_simp;rfl
    simp only[Act.put,U,Aa,Ab];have hfin:=fun(x:True)=>Kl HW.o HBB.o HB.o HRG.o (it:=⟨p,z+1,k⟩) HBX5.o HBL.o ho6 hg6 hv6 x
    have hr6:=HRG.o.blk.grown hg6 HRG.o.vr;obtain⟨A7,c7,e7,_⟩:=EW BZ ho6;obtain⟨m7,em7⟩:∃m7,m7=(es++[(⟨⟨p,z+1,k⟩,b,none,0,0,0⟩:Ent)]).length:=⟨_,rfl⟩;rw[←em7] at e7;subst e7;have f0:=hr6.frozen 0;have k6:w6.cell? ⟨r,0,none⟩=some _:=hr6.cell 0;refine Reg.Be 17 (w6.setCell ⟨r,0,none⟩ (.slice A7 m7 c7)) rfl (by kernel_rfl) (by rfl) (by go_simp) ⟨Si.Blk.far HP.o _ _ (by simp;have:=HW.o.lt;omega),Si.Blk.far HK.o _ _ (by simp;have:=HW.o.lt;omega)⟩ ?_;simp only[Act.put,U,Aa,Ab];refine wpAnyH_done (by kernel_rfl) ?_ _;clear f0 k6 hr6 ho6 hg6 hv6 hrun em7;have HFIN:=I (hfin trivial);clear hfin
    go_wp2
    go_ret2
    exact⟨rfl,_,b,HBL.o,HFIN.o.1,HFIN.o.2.1,HFIN.o.2.2⟩
theorem Wp (r:Option Nat) (p:Pr) (k:Nat→UInt8) (w:World) (h1:p.1.length≤1000000000) (h2:p.2.length≤1000000000) (hp:r=none∨prB p=false) :
  Calls Tryz.prog 44 #[.pointer (r.map fun r=>⟨r,0,none⟩),prV p,.agg (AP k)] w fun e w'=>e = .returned (.tuple #[.int .i64 0,.int .i64 1])∧Below w.heap.size w w':=by
 have CP:=I (fun w1=>My p w1 h1 h2);obtain⟨kv,ekv⟩:∃kv,kv=AP k:=⟨_,rfl⟩;rw[←ekv];obtain⟨W,eW⟩:∃W,W=(w.alloc (.cells #[.string ⟨p.1.toArray⟩,.string ⟨p.2.toArray⟩] 27)).alloc (.cells kv 47):=⟨_,rfl⟩;have hb:Below w.heap.size w W:=eW▸((Below.refl _ _).alloc (Nat.le_refl _) _).alloc (by simp) _;have hb0:Blk W w.heap.size 27 #[.string ⟨p.1.toArray⟩,.string ⟨p.2.toArray⟩]:=eW▸(Blk.new w _ _).alloc _;have kp0:W.cell? ⟨w.heap.size,0,none⟩=some (.string ⟨p.1.toArray⟩):=hb0.cell 0;have kp1:W.cell? ⟨w.heap.size,1,none⟩=some (.string ⟨p.2.toArray⟩):=hb0.cell 1;have HB:=I hb;clear hb hb0 h1 h2 ekv;cases r with
 |none=>
  clear hp;go_enter Tryz.func44,Tryz.ntmps44
  go_upto_region 1 with fail
  rw[←eW];clear eW
  go_wp2
  go_ret2
  exact⟨rfl,HB.o⟩
 |some r=>
  have hp:prB p=false:=by
   rcases hp with h | h
   ·cases h
   ·exact h
  rw[hp] at CP;clear hp;show Calls _ _ #[.pointer (some ⟨r,0,none⟩),prV p,.agg kv] _ _;go_enter Tryz.func44,Tryz.ntmps44
  go_upto_region 1 with fail
  rw[←eW];clear eW
  go_wp2_with (first
   |(go_at_call 99;refine Calls.mono (CP.o _) ?_;rintro e w1 ⟨rfl,hb⟩;replace HB:=HB.t hb;clear hb)
   |fail)
  go_ret2
  exact⟨rfl,HB.o⟩
theorem TZ (B r:Nat) (v:Value) (es:List Ent) (p:Pr) (k:Nat→UInt8) (w:World) (h:Ring w B r v es) (h1:p.1.length≤1000000000) (h2:p.2.length≤1000000000) (hp:prB p=true) (hl:40≤es.length) (hl2:es.length≤1000) :
  Calls Tryz.prog 44 #[.pointer (some ⟨r,0,none⟩),prV p,.agg (AP k)] w fun e w'=>e = .returned (.tuple #[.int .i64 0,.int .i64 13])∧Below w.heap.size w w':=by
 obtain⟨A,c,rfl,hc,hm,hr⟩:=h.num;obtain⟨n,en⟩:∃n,n=es.length:=⟨_,rfl⟩;have EN:=I en;obtain⟨z,ez⟩:∃z,z=BB (its es) p:=⟨_,rfl⟩;have hq:=NM es (Cc (its es) p);rw[show numO (its es) (Cc (its es) p)=z from ez.symm] at hq;have CL:=I (fun(w1:World) (h:Ring w1 B r (.slice A es.length c) es)=>Hq B r (.slice A es.length c) es p w1 h (by omega));have CP:=I (fun w1=>My p w1 h1 h2);rw[hp] at CP;obtain⟨kv,ekv⟩:∃kv,kv=AP k:=⟨_,rfl⟩;obtain⟨cs,ecs⟩:∃cs,cs=entC es (Cc (its es) p):=⟨_,rfl⟩;rw[←ecs] at CL hq;rw[←ekv];rw[←en] at hl;have hrl:=h.lt;obtain⟨W,eW⟩:∃W,W=(w.alloc (.cells #[.string ⟨p.1.toArray⟩,.string ⟨p.2.toArray⟩] 27)).alloc (.cells kv 47):=⟨_,rfl⟩;have hb:Below w.heap.size w W:=eW▸((Below.refl _ _).alloc (Nat.le_refl _) _).alloc (by simp) _;have HP:=I (show Blk W w.heap.size 27 #[.string ⟨p.1.toArray⟩,.string ⟨p.2.toArray⟩] from eW▸(Blk.new w _ _).alloc _);have HK:=I (show Blk W (w.heap.size+1) 47 kv by have:=Blk.new (w.alloc (.cells #[.string ⟨p.1.toArray⟩,.string ⟨p.2.toArray⟩] 27)) 47 kv;simp only[World.size_alloc] at this;exact eW▸this);have HB:=I hb;have HRG:=I (h.below hb);have HW:=I h;have kp0:W.cell? ⟨w.heap.size,0,none⟩=some (.string ⟨p.1.toArray⟩):=HP.o.cell 0;have kp1:W.cell? ⟨w.heap.size,1,none⟩=some (.string ⟨p.2.toArray⟩):=HP.o.cell 1;have hfl:=Lq cs _ hq;have t1:decide (40≤(n:Int))=true:=by simp;omega
 clear hb h hr h1 h2 hp hl ekv ecs ez en hc hm hq hl2;go_enter Tryz.func44,Tryz.ntmps44
 go_upto_region 1 with fail
 rw[←eW];clear eW
 go_wp2_with (first
  |(go_at_call 99;refine Calls.mono (CP.o _) ?_;rintro e w1 ⟨rfl,hb⟩;replace HB:=HB.t hb;replace HRG:=I (HRG.o.below hb);replace HP:=I (HP.o.below hb);replace HK:=I (HK.o.below hb);have kp0:w1.cell? ⟨w.heap.size,0,none⟩=some (.string ⟨p.1.toArray⟩):=HP.o.cell 0;have kp1:w1.cell? ⟨w.heap.size,1,none⟩=some (.string ⟨p.2.toArray⟩):=HP.o.cell 1;have kr:w1.cell? ⟨r,0,none⟩=some (.slice A n c):=EN.o▸HRG.o.blk.cell 0;clear hb)
  |(go_at_call 100;refine Calls.mono (CL.o _ HRG.o) ?_;rintro e w2 ⟨rfl,hb⟩;clear kp0 kp1 kr;replace HB:=HB.t hb;replace HRG:=I (HRG.o.below hb);replace HP:=I (HP.o.below hb);replace HK:=I (HK.o.below hb);have kp0:w2.cell? ⟨w.heap.size,0,none⟩=some (.string ⟨p.1.toArray⟩):=HP.o.cell 0;have kp1:w2.cell? ⟨w.heap.size,1,none⟩=some (.string ⟨p.2.toArray⟩):=HP.o.cell 1;have kr:w2.cell? ⟨r,0,none⟩=some (.slice A n c):=EN.o▸HRG.o.blk.cell 0;clear hb)
  |fail)
 go_ret2
 exact⟨rfl,HB.o⟩
theorem Wq (B r:Nat) (v:Value) (es:List Ent) (p:Pr) (k:Nat→UInt8) (w:World) (h:Ring w B r v es) (hB:B≤w.heap.size) (h1:p.1.length≤1000000000) (h2:p.2.length≤1000000000) (hl:es.length≤40) (hn:Num (its es)) :
  Calls Tryz.prog 44 #[.pointer (some ⟨r,0,none⟩),prV p,.agg (AP k)] w fun e w'=>e = .returned (.tuple #[.int .i64 (addN (its es) p:Int),.int .i64 (addE (its es) p:Int)])∧∃v' es',Ring w' B r v' es'∧its es'=addL (its es) p k∧(es'=es∨∃x,es'=es++[x]∧x.a=0∧x.o=0∧x.r=0)∧Chg (fun q=>q=r∨v.ownBlock=some q) w w'∧(∀q,RO r v' es' q→RO r v es q∨w.heap.size≤q):=by
 cases hp:prB p with
 |false=>
  refine(Wp (some r) p k w h1 h2 (.inr hp)).mono ?_;rintro e w' ⟨rfl,hb⟩;refine⟨by rw[addN,addE,hp];rfl,v,es,h.below hb,by rw[addL,hp];rfl,.inl rfl,Chg.of_below hb,fun q hq=>.inl hq⟩
 |true=>
  by_cases hx:es.length<40
  ·have hx2:(its es).length<40:=by rw[DF];exact hx
   have h255:BB (its es) p<255:=by have:=Vr hn p;omega
   refine(XX B r v es p k w h hB h1 h2 hp hx h255).mono ?_;rintro e w' ⟨rfl,v',b,hbl,hr,hc,hnw⟩;refine⟨by rw[addN,addE,hp,if_pos rfl,if_pos rfl,if_pos hx2,if_pos hx2];rfl,v',_,hr,?_,.inr ⟨_,rfl,rfl,rfl,rfl⟩,hc,hnw⟩;rw[TW,addL,hp,if_pos rfl,if_pos hx2]
  ·have hx2:¬(its es).length<40:=by rw[DF];exact hx
   refine(TZ B r v es p k w h h1 h2 hp (by omega) (by omega)).mono ?_;rintro e w' ⟨rfl,hb⟩;refine⟨by rw[addN,addE,hp,if_pos rfl,if_pos rfl,if_neg hx2,if_neg hx2];rfl,v,es,h.below hb,?_,.inl rfl,Chg.of_below hb,fun q hq=>.inl hq⟩;rw[addL,hp,if_pos rfl,if_neg hx2]
end Rg
end
section
namespace Rg
open Go.RowKit Af Se
def kB (b:UInt8) (i:Nat):UInt8:=if i=0 then b else 0
abbrev p1:Pr:=([65],[120])
abbrev AT (r:Nat) (v:Value) (q:Nat):Prop:=q=r∨v.ownBlock=some q
theorem Wr {r:Nat} {v:Value} {es:List Ent} {q:Nat} (h:AT r v q):RO r v es q:=by
 rcases h with h | h
 ·exact .inl h
 ·exact .inr (.inl h)
end Rg
end
section
namespace Rg
open Go.RowKit Af Se
section
variable {w w':World} {B r i:Nat} {v v':Value} {es es':List Ent} {e:Ent} {A:Option Addr} {xs:List Value}
theorem Ws (he:es[i]? = some e) {k:Nat} (h:Ow e.b e.h k):RO r v es k:=.inr (.inr ⟨i,e,he,h⟩)
end
end Rg
end
section
namespace Rg
open Go.RowKit Af Se
structure DRing (w:World) (B q:Nat) (v:Value) (l:List It):Prop where
 blk:Blk w q 115 #[v]
 row:w.ownsRow B 210 35 v l.length (l.flatMap iC)
 lo:B≤q
 vq:v.ownBlock≠some q
abbrev DO (q:Nat) (v:Value) (k:Nat):Prop:=k=q∨v.ownBlock=some k
section
variable {w w':World} {B q:Nat} {v:Value} {l:List It} {S:Nat→Prop}
theorem DRing.lt (h:DRing w B q v l):q<w.heap.size:=h.blk.lt
theorem DRing.own_lo (h:DRing w B q v l) {k:Nat} (hk:DO q v k):B≤k:=by
 rcases hk with hk | hk
 ·subst hk;exact h.lo
 ·exact(World.ownsRow.lt h.row k hk).1
theorem DRing.own_lt (h:DRing w B q v l) {k:Nat} (hk:DO q v k):k<w.heap.size:=by
 rcases hk with hk | hk
 ·subst hk;exact h.blk.lt
 ·exact(World.ownsRow.lt h.row k hk).2
theorem DRing.chg (h:DRing w B q v l) (hc:Chg S w w') (hs:∀k,DO q v k→¬S k):DRing w' B q v l:=
 ⟨hc.blk h.blk (hs q (.inl rfl)),IN hc h.row (fun k hk=>hs k (.inr hk)),h.lo,h.vq⟩
theorem DRing.below (h:DRing w B q v l) (hb:Below w.heap.size w w'):DRing w' B q v l:=h.chg (S:=fun _=>False) (Chg.of_below hb) (fun _ _ x=>x)
theorem DRing.num (h:DRing w B q v l):∃A c,v = .slice A l.length c∧l.length≤c∧c≤maxLen∧RdR w w.heap.size A iC 35 l:=EW BG h.row
end
theorem iC_p0 (x:It):(iC x)[0]? = some (.string ⟨x.p.1.toArray⟩):=rfl
theorem iC_p1 (x:It):(iC x)[1]? = some (.string ⟨x.p.2.toArray⟩):=rfl
theorem iC_n (x:It):(iC x)[2]? = some (.int .i64 (x.n:Int)):=rfl
theorem RF {l:List It} {i:Nat} {x:It} {p:Pr} (h:l[i]? = some x) (hp:x.p=p):numO l (Bi l p (i+1))=x.n:=by
 rw[Bi,if_pos (by rw[h,←hp];rfl)];simp [numO,h]
theorem Pn {l:List It} {i:Nat} {x:It} {p:Pr} (h:l[i]? = some x) (hp:x.p≠p):Bi l p (i+1)=Bi l p i:=by
 rw[Bi,if_neg];rw[h];intro y;injection y with y;exact hp y
theorem RG (B q:Nat) (v:Value) (l:List It) (p:Pr) (w:World) (h:DRing w B q v l) (hl:l.length≤1000) :
  Calls Tryz.prog 102 #[.pointer (some ⟨q,0,none⟩),prV p] w fun e w'=>e = .returned (.int .i64 (BB l p:Int))∧Below w.heap.size w w':=by
 obtain⟨A,c,rfl,hc,hm,hr⟩:=h.num;have hb0:=h.blk;obtain⟨n,en⟩:∃n,n=l.length:=⟨_,rfl⟩;rw[←en] at hb0 hc hl;have EN:=I en;obtain⟨W,eW⟩:∃W,W=w.alloc (.cells #[.string ⟨p.1.toArray⟩,.string ⟨p.2.toArray⟩] 27):=⟨_,rfl⟩;have hb:Below w.heap.size w W:=eW▸(Below.refl _ _).alloc (Nat.le_refl _) _;have HP:=I (show Blk W w.heap.size 27 #[.string ⟨p.1.toArray⟩,.string ⟨p.2.toArray⟩] from eW▸Blk.new w _ _);have HB:=I hb;have HQ:=I (hb0.below hb);have HR:=I (hr.keep hb);have hql:=hb0.lt;clear hb hr hb0 en h;go_enter Tryz.func102,Tryz.ntmps102
 go_upto_region 1 with fail
 rw[←eW];obtain⟨N,eN⟩:∃N,N=w.heap.size:=⟨_,rfl⟩;rw[←eN] at HP HB HR hql⊢;have EN2:=I eN;clear eW eN
 go_wp2
 go_loopw [5,6] (fun nv iv wr=>∃i:Nat,i≤n∧iv = .int .i64 (i:Int)∧nv = .int .i64 (numO l (Bi l p i):Int)∧Below N w wr∧Blk wr N 27 #[.string ⟨p.1.toArray⟩,.string ⟨p.2.toArray⟩]∧Blk wr q 115 #[.slice A n c]∧RdR wr N A iC 35 l) (fun _ iv _=>n - (intOf iv).toNat)
 case atStart=>exact⟨0,Nat.zero_le _,rfl,rfl,HB.o,HP.o,HQ.o,HR.o⟩
 case round=>
  clear HB HP HQ HR;obtain⟨i,hi,rfl,rfl,hb,hp,hq,hr⟩:=hrel;have HB:=I hb;have HP:=I hp;have HQ:=I hq;have HR:=I hr;have kq:wr.cell? ⟨q,0,none⟩=some (.slice A n c):=hq.cell 0;obtain⟨z,ez⟩:∃z,z=numO l (Bi l p i):=⟨_,rfl⟩;rw[←ez];have EZ:=I ez
  by_cases hlt:i<n
  ·have e1:(i:Int)<(n:Int):=by omega
   have e2:(0:Int)≤(i:Int):=by omega
   obtain⟨x,hx⟩:∃x,l[i]? = some x:=⟨l[i]'(by rw[←EN.o];exact hlt),List.getElem?_eq_getElem _⟩;obtain⟨g,rfl,hgN,hra⟩:=hr.at_ hx;have h0:wr.cell? ⟨g,i*35,none⟩=some (.string ⟨x.p.1.toArray⟩):=hra 0 _ (iC_p0 x);have h1:wr.cell? ⟨g,i*35+1,none⟩=some (.string ⟨x.p.2.toArray⟩):=hra 1 _ (iC_p1 x);have h2:wr.cell? ⟨g,i*35+2,none⟩=some (.int .i64 (x.n:Int)):=hra 2 _ (iC_n x);have kp0:wr.cell? ⟨N,0,none⟩=some (.string ⟨p.1.toArray⟩):=hp.cell 0;have kp1:wr.cell? ⟨N,1,none⟩=some (.string ⟨p.2.toArray⟩):=hp.cell 1;have HX:=I hx;clear hra hx hr hb hp hq ez
   by_cases hh:x.p=p
   ·have t1:=Co hh
    have HH:=I hh;clear hh
    go_wp2
    go_quiet (fail)
    go_wp2
    go_roundw
    case rel=>exact⟨i+1,by omega,by go_num,by rw[RF HX.o HH.o],below_drewN HB.o _,HP.o.drewN _,HQ.o.drewN _,HR.o.keep (below_drewN (Below.refl _ _) _)⟩
    case measure=>simp [intOf];omega
   ·have t1:=DG hh
    have HH:=I hh;clear hh
    go_wp2
    go_quiet (fail)
    go_wp2
    go_roundw
    case rel=>exact⟨i+1,by omega,by go_num,by rw[Pn HX.o HH.o,EZ.o],below_drewN HB.o _,HP.o.drewN _,HQ.o.drewN _,HR.o.keep (below_drewN (Below.refl _ _) _)⟩
    case measure=>simp [intOf];omega
  ·have e1:decide ((i:Int)<(n:Int))=false:=by simp;omega
   obtain rfl:n=i:=by omega
   clear hr hb hp hq hi hlt ez
   go_wp2
   go_ret;exact⟨by rw[EZ.o,BB,Cc,←EN.o];rfl,by rw[←EN2.o];exact HB.o⟩
theorem Ah {P:Program} {fn:Func} {tmps:Array Value} {w:World} {v u:Value} (t q:Nat) (ty:TypeId) (a:Addr) (hres:fn.results=#[.cell t ty,.tmp q]) (ht:tmps.getD t undef = .pointer (some a)) (hl:(loadVar ty a).run P w = .ok v w) (hq:tmps.getD q undef=u) :
  (results fn tmps).run P w = .ok (.tuple #[v,u]) w:=by
 have ht':tmps[t]?.getD undef = .pointer (some a):=by simpa using ht
 have hq':tmps[q]?.getD undef=u:=by simpa using hq
 simp [results,hres,ht',hq',asAddr,hl]
theorem Ua (p:Pr) (w:World) (h1:p.1.length≤1000000000) (h2:p.2.length≤1000000000):Calls Tryz.prog 33 #[prV p] w fun e w'=>e = .returned (.bool (prB p))∧Below w.heap.size w w':=Nm.Hb p.1 p.2 w h1 h2
def zeroI:Array Value:=#[.string ⟨#[]⟩,.string ⟨#[]⟩,.int .i64 0,.int .u8 0,.int .u8 0,.int .u8 0,.int .u8 0,.int .u8 0,.int .u8 0,.int .u8 0,.int .u8 0,.int .u8 0,.int .u8 0,.int .u8 0,.int .u8 0,.int .u8 0,.int .u8 0,.int .u8 0,.int .u8 0,.int .u8 0,.int .u8 0,.int .u8 0,.int .u8 0,.int .u8 0,.int .u8 0,.int .u8 0,.int .u8 0,.int .u8 0,.int .u8 0,.int .u8 0,.int .u8 0,.int .u8 0,.int .u8 0,.int .u8 0,.int .u8 0]
theorem Ub:(Tryz.prog.info? 210).map (fun i=>(i.zero,i.size,i.bytes))=some (some (.agg zeroI),35,72):=by kernel_rfl
theorem Po (p:Pr) (n:Nat) (k:Nat→UInt8):Tryz.prog.built 210 [(0,prV p),(1,.int .i64 (n:Int)),(2,.agg (AP k))]=some (iC ⟨p,n,k⟩).toArray:=by
 kernel_rfl
theorem NO {w W5 w6:World} {B q:Nat} {v v6:Value} {l:List It} {it:It} (h:DRing w B q v l) (hb:Below w.heap.size w W5) (h5:DRing W5 B q v l)
  (ho:w6.ownsRow B 210 35 v6 (l++[it]).length ((l++[it]).flatMap iC)) (hg:W5.grownBy w6 v.ownBlock) (hv:v6.ownBlock=v.ownBlock∨v6.ownBlock=some W5.heap.size) :
  DRing (w6.setCell ⟨q,0,none⟩ v6) B q v6 (l++[it])∧Chg (DO q v) w (w6.setCell ⟨q,0,none⟩ v6)∧(∀k,DO q v6 k→DO q v k∨w.heap.size≤k):=by
 have hvr:v6.ownBlock≠some q:=fun x=>by
  rcases hv with g | g
  ·rw[g] at x;exact h.vq x
  ·rw[g] at x;injection x with x;have:=h5.lt;omega
 have hset:Chg (fun k=>k=q) w6 (w6.setCell ⟨q,0,none⟩ v6):=Chg.set (p:=⟨q,0,none⟩) (Chg.refl (fun k=>k=q) w6) (.inl rfl) v6;have hc:Chg (DO q v) w (w6.setCell ⟨q,0,none⟩ v6):=
  (((Chg.of_below hb).trans (Mz hg) (fun k _ x=>.inr x)).trans hset (fun k _ x=>.inl x):Chg (DO q v) w _)
 refine⟨⟨(h5.blk.grown hg h5.vq).set 0 v6,IN hset ho (fun k hk x=>hvr (x▸hk)),h.lo,hvr⟩,hc,fun k hk=>?_⟩;rcases hk with hk | hk
 ·exact .inl (.inl hk)
 ·rcases hv with g | g
  ·exact .inl (.inr (g▸hk))
  ·rw[g] at hk;injection hk with hk;exact .inr (by have:=hb.size;omega)
theorem Wt (B q:Nat) (v:Value) (l:List It) (p:Pr) (k:Nat→UInt8) (w:World) (h:DRing w B q v l) (hB:B≤w.heap.size) (h1:p.1.length≤1000000000) (h2:p.2.length≤1000000000) (hp:prB p=true) (hl:l.length<40) (hn:BB l p<255) :
  Calls Tryz.prog 45 #[.pointer (some ⟨q,0,none⟩),prV p,.agg (AP k)] w fun e w'=>e = .returned (.tuple #[.int .i64 ((BB l p:Int)+1),.int .i64 0])∧∃v',DRing w' B q v' (l++[⟨p,BB l p+1,k⟩])∧Chg (DO q v) w w'∧(∀k,DO q v' k→DO q v k∨w.heap.size≤k):=by
 obtain⟨A,c,rfl,hc,hm,hr⟩:=h.num;obtain⟨n,en⟩:∃n,n=l.length:=⟨_,rfl⟩;have EN:=I en;obtain⟨z,ez⟩:∃z,z=BB l p:=⟨_,rfl⟩;have EZ:=I ez;have CL:=I (fun(w1:World) (h:DRing w1 B q (.slice A l.length c) l)=>RG B q (.slice A l.length c) l p w1 h (by omega));have CP:=I (fun w1=>Ua p w1 h1 h2);rw[hp] at CP;rw[←ez] at CL;obtain⟨kv,ekv⟩:∃kv,kv=AP k:=⟨_,rfl⟩;rw[←ekv];have hrl:=h.lt;obtain⟨W,eW⟩:∃W,W=(w.alloc (.cells #[.string ⟨p.1.toArray⟩,.string ⟨p.2.toArray⟩] 27)).alloc (.cells kv 47):=⟨_,rfl⟩;have hb:Below w.heap.size w W:=eW▸((Below.refl _ _).alloc (Nat.le_refl _) _).alloc (by simp) _;have HP:=I (show Blk W w.heap.size 27 #[.string ⟨p.1.toArray⟩,.string ⟨p.2.toArray⟩] from eW▸(Blk.new w _ _).alloc _);have HK:=I (show Blk W (w.heap.size+1) 47 kv by have:=Blk.new (w.alloc (.cells #[.string ⟨p.1.toArray⟩,.string ⟨p.2.toArray⟩] 27)) 47 kv;simp only[World.size_alloc] at this;exact eW▸this);have HB:=I hb;have HRG:=I (h.below hb);have HW:=I h;have kp0:W.cell? ⟨w.heap.size,0,none⟩=some (.string ⟨p.1.toArray⟩):=HP.o.cell 0;have kp1:W.cell? ⟨w.heap.size,1,none⟩=some (.string ⟨p.2.toArray⟩):=HP.o.cell 1;have hwr:IntKind.i64.wrap ((z:Int)+1)=(z:Int)+1:=by rw[IntKind.wrap_i64];omega
 have EK:=I ekv;have HKI:=I (show(Tryz.prog.info? 47).map (·.size)=some kv.size by rw[ekv];exact EH k);obtain⟨i0,hi0,hz0,hs0,hb0⟩:=info_parts Ub;have KI1:=I hi0;have KI2:=I hz0;have KI3:=I hs0;have KI4:=I hb0;have SL1:=I (fun(w1:World)=>Wh.Gr (P:=Tryz.prog) w1 113 210 (iC ⟨p,z+1,k⟩).toArray i0 _ Tryz.underlying113 hi0 hz0 (by rw[hs0];simp [BG]) (by simp [BG]) (by simp [BG]));have HBB:=I hB;have HN:=I (show z<255 by omega);have t1:decide (40≤(n:Int))=false:=by simp;omega
 have t2:decide (255≤(z:Int))=false:=by simp;omega
 have HL:=I (show n<40 by omega);clear hi0 hz0 hs0 hb0 hB hb h hr h1 h2 hp hn hl ekv en hc hm;rw[←ez];clear ez;go_enter Tryz.func45,Tryz.ntmps45
 go_upto_region 1 with fail
 rw[←eW];clear eW
 go_wp2_with (first
  |(go_at_call 33;refine Calls.mono (CP.o _) ?_;rintro e w1 ⟨rfl,hb⟩;replace HB:=HB.t hb;replace HRG:=I (HRG.o.below hb);replace HP:=I (HP.o.below hb);replace HK:=I (HK.o.below hb);have kp0:w1.cell? ⟨w.heap.size,0,none⟩=some (.string ⟨p.1.toArray⟩):=HP.o.cell 0;have kp1:w1.cell? ⟨w.heap.size,1,none⟩=some (.string ⟨p.2.toArray⟩):=HP.o.cell 1;have kr:w1.cell? ⟨q,0,none⟩=some (.slice A n c):=EN.o▸HRG.o.blk.cell 0;clear hb)
  |(go_at_call 102;refine Calls.mono (CL.o _ HRG.o) ?_;rintro e w2 ⟨rfl,hb⟩;clear kp0 kp1 kr;replace HB:=HB.t hb;replace HRG:=I (HRG.o.below hb);replace HP:=I (HP.o.below hb);replace HK:=I (HK.o.below hb);have kp0:w2.cell? ⟨w.heap.size,0,none⟩=some (.string ⟨p.1.toArray⟩):=HP.o.cell 0;have kp1:w2.cell? ⟨w.heap.size,1,none⟩=some (.string ⟨p.2.toArray⟩):=HP.o.cell 1;have kr:w2.cell? ⟨q,0,none⟩=some (.slice A n c):=EN.o▸HRG.o.blk.cell 0;clear hb)
  |fail)
 replace HP:=I (show Blk w2.drew _ _ _ from HP.o.drewN 1);replace HK:=I (show Blk w2.drew _ _ _ from HK.o.drewN 1);replace HRG:=I (show DRing w2.drew B q _ l from HRG.o.below (below_drewN (Below.refl _ _) 1));replace HB:=I (show Below w.heap.size w w2.drew from below_drewN HB.o 1);clear kp0 kp1 kr;refine Reg.AR (fun w'=>Blk w' w.heap.size 27 #[.string ⟨p.1.toArray⟩,.string ⟨p.2.toArray⟩]∧Blk w' (w.heap.size+1) 47 kv) 15 rfl (by kernel_rfl) ⟨HP.o,HK.o⟩ ?_;obtain⟨W2,eW2⟩:∃W2,W2=w2.drew:=⟨_,rfl⟩;rw[←eW2] at HP HK HRG HB⊢;clear eW2;refine Reg.Ar 0 (v:=?vu1) rfl (by kernel_rfl) (by kernel_rfl) (by kernel_rfl) (fun _ _ _ h=>h) ⟨HP.o,HK.o⟩ (by rfl) (fun w' hS=>?hu1) ?ru1
 case hu1=>go_simp;rfl
 simp only[Act.put,U,Aa,Ab];refine Reg.Ar 1 (v:=?vu2) rfl (by kernel_rfl) (by kernel_rfl) (by kernel_rfl) (fun _ _ _ h=>h) ⟨HP.o,HK.o⟩ (by rfl) (fun w' hS=>?hu2) ?ru2
 case hu2=>go_simp;rfl
 simp only[Act.put,U,Aa,Ab];refine Reg.Ar 2 (v:=?vu3) rfl (by kernel_rfl) (by kernel_rfl) (by kernel_rfl) (fun _ _ _ h=>h) ⟨HP.o,HK.o⟩ (by rfl) (fun w' hS=>?hu3) ?ru3
 case hu3=>go_simp;rfl
 simp only[Act.put,U,Aa,Ab];refine Reg.Ar 3 (v:=?vu4) rfl (by kernel_rfl) (by kernel_rfl) (by kernel_rfl) (fun _ _ _ h=>h) ⟨HP.o,HK.o⟩ (by rfl) (fun w' hS=>?hu4) ?ru4
 case hu4=>go_simp;rfl
 simp only[Act.put,U,Aa,Ab];refine Reg.Ar 5 (v:=.agg #[.string ⟨p.1.toArray⟩,.string ⟨p.2.toArray⟩]) rfl (by kernel_rfl) (by kernel_rfl) (by kernel_rfl) (fun _ _ _ h=>h) ⟨HP.o,HK.o⟩ (by rfl) (fun w' hS=>?hu5) ?ru5
 case hu5=>exact Wh.AS (.tmp 4) rfl rfl hS.1 Tryz.underlying27 rfl Da
 simp only[Act.put,U,Aa,Ab];refine Reg.Ar 6 (v:=?vu6) rfl (by kernel_rfl) (by kernel_rfl) (by kernel_rfl) (fun _ _ _ h=>h) ⟨HP.o,HK.o⟩ (by rfl) (fun w' hS=>?hu6) ?ru6
 case hu6=>go_simp;rfl
 simp only[Act.put,U,Aa,Ab];refine Reg.Ar 7 (v:=.int .i64 ((z:Int)+1)) rfl (by kernel_rfl) (by kernel_rfl) (by kernel_rfl) (fun _ _ _ h=>h) ⟨HP.o,HK.o⟩ (by rfl) (fun w' hS=>?hu7) ?ru7
 case hu7=>go_simp
 simp only[Act.put,U,Aa,Ab];refine Reg.Ar 8 (v:=.agg kv) rfl (by kernel_rfl) (by kernel_rfl) (by kernel_rfl) (fun _ _ _ h=>h) ⟨HP.o,HK.o⟩ (by rfl) (fun w' hS=>?hu8) ?ru8
 case hu8=>exact Wh.AS (.tmp 5) rfl rfl hS.2 Tryz.underlying47 rfl HKI.o
 simp only[Act.put,U,Aa,Ab];refine Reg.Ar 9 (v:=.agg (iC ⟨p,z+1,k⟩).toArray) rfl (by kernel_rfl) (by kernel_rfl) (by kernel_rfl) (fun _ _ _ h=>h) ⟨HP.o,HK.o⟩ (by rfl) (fun w' hS=>?hu9) ?ru9
 case hu9=>exact AU (by go_simp) (EK.o▸Po p (z+1) k)
 simp only[Act.put,U,Aa,Ab];refine Reg.II [4,10] (by kernel_rfl) (by simp) ?_;intro j0 hj0;have hj0:j0=4∨j0=10:=by simpa using hj0
 rcases hj0 with rfl | rfl
 ·have kr:W2.cell? ⟨q,0,none⟩=some (.slice A n c):=EN.o▸HRG.o.blk.cell 0
  refine⟨_,_,_,_,_,_,_,_,rfl,by rfl,by(go_simp;rfl),⟨HP.o,HK.o⟩,?_⟩;simp only[Act.put,U,Aa,Ab];clear kr;refine Reg.II [10] (by kernel_rfl) (by simp) ?_;intro j0 hj0;obtain rfl:j0=10:=by simpa using hj0
  clear hj0;have hb:Below W2.heap.size W2 (W2.alloc (.cells (iC ⟨p,z+1,k⟩).toArray 210)):=(Below.refl _ _).alloc (Nat.le_refl _) _;refine⟨_,_,_,_,_,_,.slice (some ⟨W2.heap.size,0,none⟩) 1 1,(W2.alloc (.cells (iC ⟨p,z+1,k⟩).toArray 210)),rfl,by rfl,CV rfl (SL1.o _),⟨HP.o.below hb,HK.o.below hb⟩,?_⟩;simp only[Act.put,U,Aa,Ab];have HNB:=I (Blk.new W2 210 (iC ⟨p,z+1,k⟩).toArray);replace HB:=HB.t hb;replace HRG:=I (HRG.o.below hb);replace HP:=I (HP.o.below hb);replace HK:=I (HK.o.below hb);clear hb;obtain⟨W5,eW5⟩:∃W5,W5=(W2.alloc (.cells (iC ⟨p,z+1,k⟩).toArray 210)):=⟨_,rfl⟩;obtain⟨g5,eg5⟩:∃g5,g5=W2.heap.size:=⟨_,rfl⟩;rw[←eW5] at HNB HB HRG HP HK⊢;rw[←eg5] at HNB⊢;clear eW5 eg5;refine Reg.II [11] (by kernel_rfl) (by simp) ?_;intro j0 hj0;obtain rfl:j0=11:=by simpa using hj0
  clear hj0;obtain⟨v6,w6,hrun,ho6,hg6,hv6⟩:=Wh.FP (P:=Tryz.prog) iC 35 72 BG Rx W5 113 113 210 i0 _ Tryz.underlying113 KI1.o KI2.o KI3.o KI4.o (by rfl) (by omega) B _ l HRG.o.row ⟨p,z+1,k⟩ g5 HNB.o (by have:=EN.o;have:=HL.o;omega) (by omega) (Nat.le_trans HBB.o HB.o.size);rw[←EN.o] at hrun;replace HP:=I (HP.o.grown hg6 (fun x=>by have:=(World.ownsRow.lt HW.o.row _ x).2;omega));replace HK:=I (HK.o.grown hg6 (fun x=>by have:=(World.ownsRow.lt HW.o.row _ x).2;omega));refine⟨_,_,_,_,_,_,v6,w6,rfl,by rfl,Fp rfl rfl hrun,⟨HP.o,HK.o⟩,?_⟩;simp only[Act.put,U,Aa,Ab];refine Reg.Ar 12 (v:=?vu10) rfl (by kernel_rfl) (by kernel_rfl) (by kernel_rfl) (fun _ _ _ h=>h) ⟨HP.o,HK.o⟩ (by rfl) (fun w' hS=>?hu10) ?ru10
  case hu10=>go_simp;rfl
  simp only[Act.put,U,Aa,Ab];refine Reg.Ar 13 (v:=?vu11) rfl (by kernel_rfl) (by kernel_rfl) (by kernel_rfl) (fun _ _ _ h=>h) ⟨HP.o,HK.o⟩ (by rfl) (fun w' hS=>?hu11) ?ru11
  case hu11=>go_simp;rfl
  simp only[Act.put,U,Aa,Ab];have hfin:=NO HW.o HB.o HRG.o ho6 hg6 hv6;have hr6:=HRG.o.blk.grown hg6 HRG.o.vq;obtain⟨A7,c7,e7,_⟩:=EW BG ho6;obtain⟨m7,em7⟩:∃m7,m7=(l++[(⟨p,z+1,k⟩:It)]).length:=⟨_,rfl⟩;rw[←em7] at e7;subst e7;have f0:=hr6.frozen 0;have k6:w6.cell? ⟨q,0,none⟩=some _:=hr6.cell 0;refine Reg.Be 14 (w6.setCell ⟨q,0,none⟩ (.slice A7 m7 c7)) rfl (by kernel_rfl) (by rfl) (by go_simp) ⟨Si.Blk.far HP.o _ _ (by simp;have:=HW.o.lt;omega),Si.Blk.far HK.o _ _ (by simp;have:=HW.o.lt;omega)⟩ ?_;simp only[Act.put,U,Aa,Ab];refine wpAnyH_done (by kernel_rfl) ?_ _;clear f0 k6 hr6 ho6 hg6 hv6 hrun em7;have HFIN:=I hfin;clear hfin
  go_wp2
  go_ret2
  exact⟨rfl,_,HFIN.o.1,HFIN.o.2.1,HFIN.o.2.2⟩
 ·have hb:Below W2.heap.size W2 (W2.alloc (.cells (iC ⟨p,z+1,k⟩).toArray 210)):=(Below.refl _ _).alloc (Nat.le_refl _) _
  refine⟨_,_,_,_,_,_,.slice (some ⟨W2.heap.size,0,none⟩) 1 1,(W2.alloc (.cells (iC ⟨p,z+1,k⟩).toArray 210)),rfl,by rfl,CV rfl (SL1.o _),⟨HP.o.below hb,HK.o.below hb⟩,?_⟩;simp only[Act.put,U,Aa,Ab];have HNB:=I (Blk.new W2 210 (iC ⟨p,z+1,k⟩).toArray);replace HB:=HB.t hb;replace HRG:=I (HRG.o.below hb);replace HP:=I (HP.o.below hb);replace HK:=I (HK.o.below hb);clear hb;obtain⟨W5,eW5⟩:∃W5,W5=(W2.alloc (.cells (iC ⟨p,z+1,k⟩).toArray 210)):=⟨_,rfl⟩;obtain⟨g5,eg5⟩:∃g5,g5=W2.heap.size:=⟨_,rfl⟩;rw[←eW5] at HNB HB HRG HP HK⊢;rw[←eg5] at HNB⊢;clear eW5 eg5;refine Reg.II [4] (by kernel_rfl) (by simp) ?_;intro j0 hj0;obtain rfl:j0=4:=by simpa using hj0
  clear hj0;have kr:W5.cell? ⟨q,0,none⟩=some (.slice A n c):=EN.o▸HRG.o.blk.cell 0;refine⟨_,_,_,_,_,_,_,_,rfl,by rfl,by(go_simp;rfl),⟨HP.o,HK.o⟩,?_⟩;simp only[Act.put,U,Aa,Ab];clear kr;refine Reg.II [11] (by kernel_rfl) (by simp) ?_;intro j0 hj0;obtain rfl:j0=11:=by simpa using hj0
  clear hj0;obtain⟨v6,w6,hrun,ho6,hg6,hv6⟩:=Wh.FP (P:=Tryz.prog) iC 35 72 BG Rx W5 113 113 210 i0 _ Tryz.underlying113 KI1.o KI2.o KI3.o KI4.o (by rfl) (by omega) B _ l HRG.o.row ⟨p,z+1,k⟩ g5 HNB.o (by have:=EN.o;have:=HL.o;omega) (by omega) (Nat.le_trans HBB.o HB.o.size);rw[←EN.o] at hrun;replace HP:=I (HP.o.grown hg6 (fun x=>by have:=(World.ownsRow.lt HW.o.row _ x).2;omega));replace HK:=I (HK.o.grown hg6 (fun x=>by have:=(World.ownsRow.lt HW.o.row _ x).2;omega));refine⟨_,_,_,_,_,_,v6,w6,rfl,by rfl,Fp rfl rfl hrun,⟨HP.o,HK.o⟩,?_⟩;simp only[Act.put,U,Aa,Ab];refine Reg.Ar 12 (v:=?vu12) rfl (by kernel_rfl) (by kernel_rfl) (by kernel_rfl) (fun _ _ _ h=>h) ⟨HP.o,HK.o⟩ (by rfl) (fun w' hS=>?hu12) ?ru12
  case hu12=>go_simp;rfl
  simp only[Act.put,U,Aa,Ab];refine Reg.Ar 13 (v:=?vu13) rfl (by kernel_rfl) (by kernel_rfl) (by kernel_rfl) (fun _ _ _ h=>h) ⟨HP.o,HK.o⟩ (by rfl) (fun w' hS=>?hu13) ?ru13
  case hu13=>go_simp;rfl
  simp only[Act.put,U,Aa,Ab];have hfin:=NO HW.o HB.o HRG.o ho6 hg6 hv6;have hr6:=HRG.o.blk.grown hg6 HRG.o.vq;obtain⟨A7,c7,e7,_⟩:=EW BG ho6;obtain⟨m7,em7⟩:∃m7,m7=(l++[(⟨p,z+1,k⟩:It)]).length:=⟨_,rfl⟩;rw[←em7] at e7;subst e7;have f0:=hr6.frozen 0;have k6:w6.cell? ⟨q,0,none⟩=some _:=hr6.cell 0;refine Reg.Be 14 (w6.setCell ⟨q,0,none⟩ (.slice A7 m7 c7)) rfl (by kernel_rfl) (by rfl) (by go_simp) ⟨Si.Blk.far HP.o _ _ (by simp;have:=HW.o.lt;omega),Si.Blk.far HK.o _ _ (by simp;have:=HW.o.lt;omega)⟩ ?_;simp only[Act.put,U,Aa,Ab];refine wpAnyH_done (by kernel_rfl) ?_ _;clear f0 k6 hr6 ho6 hg6 hv6 hrun em7;have HFIN:=I hfin;clear hfin
  go_wp2
  go_ret2
  exact⟨rfl,_,HFIN.o.1,HFIN.o.2.1,HFIN.o.2.2⟩
end Rg
end
end Go.Proofs.YtfcjeebnkigeaaaGreat
