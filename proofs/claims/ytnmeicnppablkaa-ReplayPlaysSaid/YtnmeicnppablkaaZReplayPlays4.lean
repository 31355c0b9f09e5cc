import Derived.Deep.CutBlock
import Derived.Test.YtnmeicnppablkaaProg
import Derived.Deep.RegionHeld3
import Derived.Deep.LoopGhost
import Derived.Laws.StructEq
import Derived.StillTailTactics
import Derived.SizedLaws
import Derived.Test.YtnmeicnppablkaaRows
import Derived.Lib.SmallJoins
import Derived.Deep.Strs
import Derived.ChangeSame
import Derived.Test.YtnmeicnppablkaaZReplayPlays1
import Derived.Test.YtnmeicnppablkaaZReplayPlays2
import Derived.Test.YtnmeicnppablkaaZReplayPlays3
section
set_option linter.unusedVariables false
set_option linter.unusedSimpArgs false
namespace Go.Proofs.Ytnmeicnppablkaa.Rp
open Go.RowKit Go.Proofs.Ytnmeicnppablkaa.Mem Go.Proofs.Ytnmeicnppablkaa.Se
open Go.Proofs.Ytnmeicnppablkaa.Ms (An)
open Go.Proofs.Ytnmeicnppablkaa.Rg (RdR own_rdr own_chg)
structure DRp (w:World) (B r:Nat) (v:Value) (on:Bool) (st:Int) (l:List An):Prop where
 blk:Blk w r 41 #[v,.bool on,.int .i64 st]
 row:w.ownsRow B 31 4 v l.length (l.flatMap anC)
 lo:B≤r
 vr:v.ownBlock≠some r
 tm:∀a∈l,Tm a.t
section
variable {w w' w1 w2:World} {B r:Nat} {v v' v1 v2:Value} {on on2:Bool} {st st2:Int} {l l' l1 l2:List An} {S:Nat→Prop}
theorem DRp.lt (h:DRp w B r v on st l):r<w.heap.size:=h.blk.lt
theorem DRp.big (h:DRp w B r v on st l):B≤w.heap.size:=by have:=h.lo;have:=h.lt;omega
theorem DRp.own_lo (h:DRp w B r v on st l) {k:Nat} (hk:RO r v k):B≤k:=by
 rcases hk with hk | hk
 ·subst hk;exact h.lo
 ·exact(World.ownsRow.lt h.row k hk).1
theorem DRp.own_lt (h:DRp w B r v on st l) {k:Nat} (hk:RO r v k):k<w.heap.size:=by
 rcases hk with hk | hk
 ·subst hk;exact h.lt
 ·exact(World.ownsRow.lt h.row k hk).2
theorem DRp.chg (h:DRp w B r v on st l) (hc:Chg S w w') (hs:∀k,RO r v k→¬S k):DRp w' B r v on st l:=
 ⟨hc.blk h.blk (hs r (.inl rfl)),own_chg hc h.row (fun k hk=>hs k (.inr hk)),h.lo,h.vr,h.tm⟩
theorem DRp.below (h:DRp w B r v on st l) (hb:Below w.heap.size w w'):DRp w' B r v on st l:=h.chg (S:=fun _=>False) (Chg.of_below hb) (fun _ _ x=>x)
theorem DRp.num (h:DRp w B r v on st l):∃A c,v = .slice A l.length c∧l.length≤c∧c≤maxLen∧RdR w w.heap.size A anC 4 l:=own_rdr anC_length h.row
structure DStp (w w':World) (B r:Nat) (v v':Value) (on:Bool) (st:Int) (l:List An):Prop where
 rp:DRp w' B r v' on st l
 chg:Chg (RO r v) w w'
 new:∀q,RO r v' q→RO r v q∨w.heap.size≤q
theorem DStp.trans (h:DStp w w1 B r v v1 on st l1) (k:DStp w1 w2 B r v1 v2 on2 st2 l2):DStp w w2 B r v v2 on2 st2 l2:=
 ⟨k.rp,h.chg.trans k.chg (fun q hq x=>by
  rcases h.new q x with g | g
  ·exact g
  ·omega),fun q hq=>by
  rcases k.new q hq with g | g
  ·exact h.new q g
  ·exact .inr (Nat.le_trans h.chg.size g)⟩
theorem DStp.below (h:DStp w w1 B r v v1 on st l1) (hb:Below w1.heap.size w1 w2):DStp w w2 B r v v1 on st l1:=
 h.trans ⟨h.rp.below hb,Chg.of_below hb,fun q hq=>.inl hq⟩
theorem row_more {t:TypeId} {n m:Nat} {xs:List Value} {B':Nat} (h:w.ownsRow B' t n v m xs) (hB:B≤B'):w.ownsRow B t n v m xs:=by
 refine⟨h.1,?_⟩
 rcases h.2 with h2 | ⟨g,cap,cur,h2,h3,h4⟩
 ·exact .inl h2
 ·exact .inr ⟨g,cap,cur,h2,Nat.le_trans hB h3,h4⟩
theorem drp_set {M:Nat} (h:DRp w B r v on st l) (hM:w.heap.size≤M) (hb:Below w.heap.size w w1) (ho:w1.ownsRow M 31 4 v1 l1.length (l1.flatMap anC)) (hs:∀x∈l1,x∈l) :
  DStp w (w1.setCell ⟨r,0,none⟩ v1) B r v v1 on st l1:=by
 have hset:Chg (fun q=>q=r) w1 (w1.setCell ⟨r,0,none⟩ v1):=Chg.set (p:=⟨r,0,none⟩) (Chg.refl (fun q=>q=r) w1) (.inl rfl) v1
 have hrl:=h.lt
 have hvr:v1.ownBlock≠some r:=fun x=>by have:=(World.ownsRow.lt ho _ x).1;omega
 refine⟨⟨(h.blk.below hb).set 0 v1,row_more (own_chg hset ho (fun k hk x=>hvr (x▸hk))) (Nat.le_trans h.big hM),h.lo,hvr,fun y hy=>h.tm y (hs y hy)⟩,(Chg.of_below hb).trans hset (fun q _ x=>.inl x),fun q hq=>?_⟩
 rcases hq with hq | hq
 ·exact .inl (.inl hq)
 ·exact .inr (Nat.le_trans hM (World.ownsRow.lt ho _ hq).1)
theorem drp_put {w5 w6:World} {v6:Value} {e:An} (h5:DRp w5 B r v on st l1) (ht:Tm e.t) (ho:w6.ownsRow B 31 4 v6 (l1++[e]).length ((l1++[e]).flatMap anC)) (hg:w5.grownBy w6 v.ownBlock) (hv:v6.ownBlock=v.ownBlock∨v6.ownBlock=some w5.heap.size) :
  DStp w5 (w6.setCell ⟨r,0,none⟩ v6) B r v v6 on st (l1++[e]):=by
 have hset:Chg (fun q=>q=r) w6 (w6.setCell ⟨r,0,none⟩ v6):=Chg.set (p:=⟨r,0,none⟩) (Chg.refl (fun q=>q=r) w6) (.inl rfl) v6
 have hc5:Chg (RO r v) w5 (w6.setCell ⟨r,0,none⟩ v6):=((chg_row hg).mono (fun q _ x=>.inr x)).trans hset (fun q _ x=>.inl x)
 have hrl:=h5.lt
 have hvr:v6.ownBlock≠some r:=fun x=>by
  rcases hv with g | g
  ·rw[g] at x;exact h5.vr x
  ·rw[g] at x;injection x with x;omega
 refine⟨⟨(h5.blk.grown hg h5.vr).set 0 v6,own_chg hset ho (fun k hk x=>hvr (x▸hk)),h5.lo,hvr,fun y hy=>?_⟩,hc5,fun q hq=>?_⟩
 ·rcases List.mem_append.1 hy with hy | hy
  ·exact h5.tm y hy
  ·rw[List.mem_singleton] at hy;exact hy▸ht
 ·rcases hq with hq | hq
  ·exact .inl (.inl hq)
  ·rcases hv with g | g
   ·exact .inl (.inr (g▸hq))
   ·rw[g] at hq;injection hq with hq;exact .inr (by omega)
end
theorem dnew_any (t:Int) (w:World):Calls Try.prog 12 #[.int .i64 t] w fun e w'=>∃r,e = .returned (.pointer (some ⟨r,0,none⟩))∧DRp w' w.heap.size r (.slice none 0 0) (!decide (t=0)) t []∧Below w.heap.size w w':=by
 obtain⟨b,eb⟩:∃b,b = !decide (t=0):=⟨_,rfl⟩
 have h1:((t:Int) != 0)=b:=by rw[eb];rfl
 rw[←eb]
 clear eb
 go_enter Try.func12,Try.ntmps12
 go_wp2
 go_ret
 exact⟨_,rfl,⟨Blk.new _ _ _,⟨rfl,.inl ⟨rfl,rfl⟩⟩,Nat.le_refl _,by simp [Value.ownBlock],by simp⟩,(Below.refl _ _).alloc (Nat.le_refl _) _⟩
theorem drestart_any {w:World} {B r:Nat} {v:Value} {on:Bool} {st:Int} {l:List An} (t:Int) (h:DRp w B r v on st l):Calls Try.prog 14 #[.pointer (some ⟨r,0,none⟩),.int .i64 t] w fun e w'=>e = .returned (.tuple #[])∧DStp w w' B r v (.slice none 0 0) true t []:=by
 have k0:w.cell? ⟨r,0,none⟩=some v:=h.blk.cell 0
 have k1:w.cell? ⟨r,1,none⟩=some (.bool on):=h.blk.cell 1
 have k2:w.cell? ⟨r,2,none⟩=some (.int .i64 st):=h.blk.cell 2
 have f0:=h.blk.frozen
 have HB:=Lib.hid (((h.blk.set 0 (.slice none 0 0)).set 1 (.bool true)).set 2 (.int .i64 t))
 have HC:=Lib.hid ((((Chg.refl (fun q=>q=r) w).set (p:=⟨r,0,none⟩) (.inl rfl) (.slice none 0 0)).set (p:=⟨r,1,none⟩) (.inl rfl) (.bool true)).set (p:=⟨r,2,none⟩) (.inl rfl) (.int .i64 t))
 have HL:=Lib.hid h.lo
 clear h
 go_enter Try.func14,Try.ntmps14
 go_wp2
 go_end0
 refine⟨rfl,⟨HB.out,⟨rfl,.inl ⟨rfl,rfl⟩⟩,HL.out,by simp [Value.ownBlock],by simp⟩,HC.out.mono (fun q _ x=>.inl x),fun q hq=>?_⟩
 rcases hq with hq | hq
 ·exact .inl (.inl hq)
 ·simp [Value.ownBlock] at hq
theorem keep_take {now:Int} {l:List An} {i:Nat} {x:An} (hx:l[i]? = some x):keepL now (l.take (i+1))=if x.t<now - 5 then keepL now (l.take i) else keepL now (l.take i)++[x]:=by
 rw[List.take_add_one,hx,keepL,List.filter_append]
 by_cases h:x.t<now - 5
 ·have:old now x.t=true:=decide_eq_true (by omega)
  simp [keepL,h,this]
 ·have:old now x.t=false:=decide_eq_false (by omega)
  simp [keepL,h,this]
set_option maxRecDepth 100000 in
set_option maxHeartbeats 6400000 in
theorem dsee_any (B q:Nat) (v:Value) (on:Bool) (st:Int) (l:List An) (a:An) (now:Int) (w:World) (h:DRp w B q v on st l) (hs:Tm st) (ha:Tm a.t) (hn:Tm now) (hl:l.length≤1000) :
  Calls Try.prog 16 #[.pointer (some ⟨q,0,none⟩),.agg (anA a),.int .i64 now] w fun e w'=>e = .returned (.int .i64 (seeE on st l a now))∧∃v',DStp w w' B q v v' on st (seeL on st l a now):=by
 obtain⟨A0,c0,rfl,_,_,hr⟩:=h.num
 obtain⟨n,en⟩:∃n,n=l.length:=⟨_,rfl⟩
 have EN:=Lib.hid en
 have hb0:=h.blk
 rw[←en] at hb0 hl
 obtain⟨M,eM⟩:∃M,M=w.heap.size:=⟨_,rfl⟩
 obtain⟨W,eW⟩:∃W,W=w.alloc (.cells (anA a) 31):=⟨_,rfl⟩
 have hb:Below w.heap.size w W:=eW▸(Below.refl _ _).alloc (Nat.le_refl _) _
 have hab:Blk W w.heap.size 31 (anA a):=eW▸Blk.new w _ _
 have hql:=h.lt
 have hqc:=hb0.cell 0
 have hq1:=hb0.cell 1
 have hq2:=hb0.cell 2
 have HS0:=Lib.hid (⟨h.below hb,Chg.of_below hb,fun q hq=>.inl hq⟩:DStp w W B q (.slice A0 l.length c0) (.slice A0 l.length c0) on st l)
 rw[←eM] at hb hab hr hql
 have HB:=Lib.hid hb
 have HA:=Lib.hid hab
 have HR:=Lib.hid hr
 have HQ:=Lib.hid hql
 have HH:=Lib.hid h
 have EM:=Lib.hid eM
 have HTA:=Lib.hid ha
 have HTM:=Lib.hid h.tm
 have HM:=Lib.hid (show ∀w1:World,Below M w w1→M≤w1.heap.size from fun w1 h=>by rw[eM];exact h.size)
 have HL:=Lib.hid hl
 have KQ:=Lib.hid (fun(w1:World) (hb:Below M w w1)=>((hb.cell (p:=⟨q,0,none⟩) hql).trans hqc:w1.cell? ⟨q,0,none⟩=some (.slice A0 n c0)))
 obtain⟨iE,hiE,hzE,hsE,hbE⟩:=info_parts an_all
 have KI1:=Lib.hid hiE;have KI2:=Lib.hid hzE;have KI3:=Lib.hid hsE;have KI4:=Lib.hid hbE
 have SL1:=Lib.hid (fun(w1:World)=>Wh.run_build_one (P:=Try.prog) w1 39 31 (anA a) iE _ Try.underlying39 hiE hzE (by rw[hsE];rfl) (by simp) (by simp))
 have k0:=KQ.out W HB.out
 have k1:W.cell? ⟨q,1,none⟩=some (.bool on):=(hb.cell (p:=⟨q,1,none⟩) hql).trans hq1
 have k2:W.cell? ⟨q,2,none⟩=some (.int .i64 st):=(hb.cell (p:=⟨q,2,none⟩) hql).trans hq2
 have ka:W.cell? ⟨M,1+1,none⟩=some (.int .i64 a.t):=hab.cell 2
 have ka:W.cell? ⟨M,2,none⟩=some (.int .i64 a.t):=hab.cell 2
 have u1:IntKind.i64.wrap (now+5)=now+5:=by rw[IntKind.wrap_i64];omega
 have u2:IntKind.i64.wrap (now - 5)=now - 5:=by rw[IntKind.wrap_i64];omega
 have u3:IntKind.i64.wrap (st+5)=st+5:=by rw[IntKind.wrap_i64];omega
 have n1 : -5≤now - 5∧now - 5≤4611686018427387904:=by omega
 obtain⟨b0,e0⟩:∃b,b=skw on st a.t now:=⟨_,rfl⟩
 have E0:=Lib.hid e0
 have hsk:skw on st a.t now=(decide (now+5<a.t)||(decide (a.t<now - 5)||(on&&decide (a.t≤st+5)))):=by
  unfold skw old
  rw[show decide (a.t+5<now)=decide (a.t<now - 5) from decide_eq_decide.2 (by omega),show(!decide (st+5<a.t))=decide (a.t≤st+5) by by_cases h:st+5<a.t<;>simp [h]<;>omega]
 rw[hsk] at e0
 clear h hb hab hqc hr hb0 en hl hiE hzE hsE hbE hsk hq1 hq2 ha hs hn hql
 go_enter Try.func16,Try.ntmps16
 go_upto_region 1 with fail
 rw[←eW,←eM]
 clear eW eM
 by_cases g1:now+5<a.t
 ·have t1:decide (now+5<a.t)=true:=decide_eq_true g1
  rw[t1,Bool.true_or] at e0
  subst e0
  clear g1
  go_quiet (fail)
  go_wp2
  go_ret
  exact⟨by rw[seeE,if_pos E0.out.symm];rfl,_,by rw[seeL,if_pos E0.out.symm];exact HS0.out.below (below_drewN (Below.refl _ _) _)⟩
 ·have t1:decide (now+5<a.t)=false:=decide_eq_false g1
  rw[t1,Bool.false_or] at e0
  clear g1
  by_cases g2:a.t<now - 5
  ·have t2:decide (a.t<now - 5)=true:=decide_eq_true g2
   rw[t2,Bool.true_or] at e0
   subst e0
   clear g2
   go_quiet (fail)
   go_wp2
   go_ret
   exact⟨by rw[seeE,if_pos E0.out.symm];rfl,_,by rw[seeL,if_pos E0.out.symm];exact HS0.out.below (below_drewN (Below.refl _ _) _)⟩
  ·have t2:decide (a.t<now - 5)=false:=decide_eq_false g2
   rw[t2,Bool.false_or] at e0
   clear g2
   cases on with
   |true=>
    rw[Bool.true_and] at e0
    by_cases g3:a.t≤st+5
    ·have t3:decide (a.t≤st+5)=true:=decide_eq_true g3
     rw[t3] at e0
     subst e0
     clear g3
     go_quiet (fail)
     go_wp2
     go_ret
     exact⟨by rw[seeE,if_pos E0.out.symm];rfl,_,by rw[seeL,if_pos E0.out.symm];exact HS0.out.below (below_drewN (Below.refl _ _) _)⟩
    ·have t3:decide (a.t≤st+5)=false:=decide_eq_false g3
     rw[t3] at e0
     subst e0
     clear g3
     go_quiet (fail)
     obtain⟨W9,eW9⟩:∃W9,W9=W.drewN nq:=⟨_,rfl⟩
     rw[←eW9]
     have hb9:Below W.heap.size W W9:=eW9▸below_drewN (Below.refl _ _) _
     replace HA:=Lib.hid (HA.out.below hb9)
     replace HB:=Lib.hid (HB.out.trans (hb9.mono (HM.out _ HB.out)))
     clear k0 k1 k2 ka t1 eW9 hb9 HS0 u1 u3
     have k0:=KQ.out W9 HB.out
     go_wp2
     go_loopw [7,8] (fun lv iv wr=>∃(i:Nat) (acc:List An),i≤n∧iv = .int .i64 (i:Int)∧acc=keepL now (l.take i)∧wr.ownsRow (M+1) 31 4 lv acc.length (acc.flatMap anC)∧Below M w wr∧Blk wr M 31 (anA a)) (fun _ iv _=>n - (intOf iv).toNat)
     case atStart=>exact⟨0,[],Nat.zero_le _,rfl,rfl,World.ownsRow_nil _ _ _ _,HB.out,HA.out⟩
     case round=>
      clear HB HA k0
      obtain⟨i,acc,hi,rfl,hacc,ho,hb,ha⟩:=hrel
      have HD:=Lib.hid hacc;have HO:=Lib.hid ho;have HB:=Lib.hid hb;have HA:=Lib.hid ha
      have k0:=KQ.out wr hb
      clear hacc ho hb ha
      by_cases hlt:i<n
      ·have e1:(i:Int)<(n:Int):=by omega
       have e2:(0:Int)≤(i:Int):=by omega
       have e8:(i:Int)≤1000:=by have:=HL.out;omega
       obtain⟨x,hx⟩:∃x,l[i]? = some x:=⟨l[i]'(by rw[←EN.out];exact hlt),List.getElem?_eq_getElem _⟩
       obtain⟨g,rfl,hgM,hra⟩:=(HR.out.keep HB.out).at_ hx
       have kt:wr.cell? ⟨g,i*4+2,none⟩=some (.int .i64 x.t):=hra 2 _ rfl
       have HRA:=Lib.hid (show wr.rangeAt g (i*4) (anA x).toList from hra)
       have hk:=keep_take (now:=now) hx
       have hxm:=HTM.out x (List.mem_of_getElem? hx)
       clear hra hx
       by_cases h1:x.t<now - 5
       ·have t1:decide (now - 5≤x.t)=false:=decide_eq_false (by omega)
        rw[if_pos h1] at hk
        have HK:=Lib.hid hk
        clear hk h1 hxm
        go_wp2
        go_roundw
        case rel=>exact⟨i+1,acc,by omega,by go_num,by rw[HK.out];exact HD.out,HO.out,HB.out,HA.out⟩
        case measure=>simp [intOf];omega
       ·have t1:decide (now - 5≤x.t)=true:=decide_eq_true (by omega)
        rw[if_neg h1] at hk
        have HK:=Lib.hid hk
        have HAL:=Lib.hid (show acc.length+1≤100000 by have:=keep_le now (l.take i);rw[←HD.out,List.length_take] at this;have:=HL.out;omega)
        clear hk h1 hxm
        obtain⟨xs,exs⟩:∃xs,xs=anA x:=⟨_,rfl⟩
        rw[←exs] at HRA
        have XS:=Lib.hid exs
        clear exs
        go_wp2_with (first
         |(refine Wh.load_g (by rfl) 31 (.tmp 64) (by rfl) g _ (by rfl) xs _ HRA.out Try.underlying31 (by rfl) (by rw[XS.out];exact an_info) ?_)
         |(refine Wh.build_one (by rfl) 39 31 (.tmp 65) (by rfl) xs (by rfl) iE _ Try.underlying39 KI1.out KI2.out (by rw[KI3.out,XS.out];rfl) (by rw[XS.out,anA_size];omega) (by rw[XS.out,anA_size];omega) ?_;intro W8 e8;have hb8:Below wr.heap.size wr W8:=e8▸(Below.refl _ _).alloc (Nat.le_refl _) _;have HNB:=Lib.hid (show Blk W8 wr.heap.size 31 xs from e8▸Blk.new _ _ _);clear e8;replace HO:=Lib.hid (own_kept HO.out hb8);replace HB:=Lib.hid (HB.out.trans (hb8.mono (HM.out _ HB.out)));replace HA:=Lib.hid (HA.out.below hb8);clear hb8)
         |(at_builtin;refine Wh.app_one anC 4 48 anC_length anC_one (by rfl) (.tmp 58) (.tmp 66) 39 31 (by rfl) iE _ Try.underlying39 KI1.out KI2.out KI3.out KI4.out (by rfl) (by omega) (by omega) (M+1) _ acc (by rfl) HO.out x wr.heap.size (by rfl) (by rw[show(anC x).toArray=xs from XS.out.symm];exact HNB.out) (by have:=HAL.out;omega) HA.out.lt ?_;intro v9 w9 ho9 hg9 hv9;replace HB:=Lib.hid (HB.out.grown hg9 (Nat.le_of_lt HA.out.lt) (fun k hk=>Nat.le_trans (by omega) (World.ownsRow.lt HO.out k hk).1));replace HA:=Lib.hid (HA.out.grown hg9 (fun x=>by have:=(World.ownsRow.lt HO.out _ x).1;omega));replace HO:=Lib.hid ho9;clear ho9 hg9 hv9)
         |fail)
        go_roundw
        case rel=>exact⟨i+1,acc++[x],by omega,by go_num,by rw[HK.out,HD.out],HO.out,HB.out,HA.out⟩
        case measure=>simp [intOf];omega
      ·have e1:¬(i:Int)<(n:Int):=by omega
       obtain rfl:n=i:=by omega
       have hfull:l.take n=l:=by rw[EN.out];exact List.take_length ..
       rw[hfull] at HD
       clear hfull
       obtain⟨A2,c2,rfl,_,_,hra⟩:=own_rdr anC_length HO.out
       have hset:=drp_set HH.out (by rw[←EM.out];exact Nat.le_add_right _ _) (by rw[←EM.out];exact HB.out) HO.out (fun x hx=>keep_mem (HD.out▸hx))
       have hqb:Blk wr q 41 #[.slice A0 l.length c0,.bool _,.int .i64 st]:=(HB.out.block q HQ.out).trans HH.out.blk
       have f0:=hqb.frozen 0
       have hfar:=Si.Blk.far HA.out ⟨q,0,none⟩ (.slice A2 acc.length c2) (fun x=>by have:=HQ.out;have:M=q:=x.symm;omega)
       obtain⟨m,em⟩:∃m,m=acc.length:=⟨_,rfl⟩
       have EMM:=Lib.hid em
       have HML:=Lib.hid (show m≤1000 by have:=keep_le now l;rw[←HD.out] at this;have:=HL.out;have:=EN.out;rw[em];omega)
       have HOB:=Lib.hid (show Value.ownBlock (.slice A2 acc.length c2)≠some M from fun x=>by have:=(World.ownsRow.lt HO.out _ x).1;omega)
       rw[←em] at HO hset hfar HOB⊢
       obtain⟨W1,eW1⟩:∃W1,W1=wr.setCell ⟨q,0,none⟩ (.slice A2 m c2):=⟨_,rfl⟩
       rw[←eW1] at hset hfar
       have HS:=Lib.hid hset
       replace HA:=Lib.hid hfar
       have HB1:=Lib.hid (show M≤W1.heap.size by rw[EM.out];exact hset.chg.size)
       clear hset hfar hqb em HB HO hra
       go_upto_region 10 with fail
       rw[←eW1]
       clear eW1 k0 f0
       go_wp2
       go_loopw [9] (fun jv wq=>∃j:Nat,j≤m∧jv = .int .i64 (j:Int)∧Below W1.heap.size W1 wq∧∀k x,k<j→acc[k]? = some x→¬x=a) (fun jv _=>m - (intOf jv).toNat)
       case atStart=>exact⟨0,Nat.zero_le _,rfl,Below.refl _ _,fun k x hk=>absurd hk (Nat.not_lt_zero _)⟩
       case round=>
        obtain⟨j,hj,rfl,hb,hno⟩:=hrel
        have HNO:=Lib.hid hno
        replace HS:=Lib.hid (HS.out.below hb)
        replace HA:=Lib.hid (HA.out.below hb)
        have HBQ:=Lib.hid hb
        clear hno hb
        by_cases hjl:j<m
        ·have e3:(j:Int)<(m:Int):=by omega
         have e4:(0:Int)≤(j:Int):=by omega
         have e9:(j:Int)≤1000:=by have:=HML.out;omega
         obtain⟨x,hx⟩:∃x,acc[j]? = some x:=⟨acc[j]'(by rw[←EMM.out];exact hjl),List.getElem?_eq_getElem _⟩
         obtain⟨A3,c3,q3,_,_,hr3⟩:=HS.out.rp.num
         injection q3 with q3 _ q4
         subst q3 q4
         obtain⟨g3,rfl,_,hra⟩:=hr3.at_ hx
         have HX:=Lib.hid hx
         have qe:=eql_an x a
         have x0:wr.cell? ⟨g3,j*4,none⟩=some _:=hra 0 _ rfl;have x1:=hra 1 _ rfl;have x2:=hra 2 _ rfl;have x3:=hra 3 _ rfl
         have a0:=HA.out.cell 0;have a1:=HA.out.cell 1;have a2:=HA.out.cell 2;have a3:=HA.out.cell 3
         obtain⟨b,eb⟩:∃b,b=decide (x=a):=⟨_,rfl⟩
         rw[←eb] at qe
         have EB:=Lib.hid eb
         clear eb hx hr3 hra
         cases b with
         |true=>
          go_wp2
          go_quiet (fail)
          go_wp2
          go_ret
          have hin:a∈keepL now l:=by rw[←HD.out,←of_decide_eq_true EB.out.symm];exact List.mem_of_getElem? HX.out
          exact⟨by rw[seeE,if_neg (by rw[←E0.out];simp),if_pos hin];rfl,_,by rw[seeL,if_neg (by rw[←E0.out];simp),if_pos (.inl hin),←HD.out];exact HS.out.below (below_drewN (Below.refl _ _) _)⟩
         |false=>
          go_wp2
          go_quiet (fail)
          go_wp2
          go_roundw
          case rel=>exact⟨j+1,by omega,by go_num,below_drewN HBQ.out _,fun k y hk hy=>by
           rcases Nat.lt_or_eq_of_le (Nat.le_of_lt_succ hk) with g | g
           ·exact HNO.out k y g hy
           ·rw[g,HX.out] at hy
            injection hy with hy
            rw[←hy]
            exact of_decide_eq_false EB.out.symm⟩
          case measure=>simp [intOf];omega
        ·have e3:¬(j:Int)<(m:Int):=by omega
         obtain rfl:m=j:=by omega
         have hni:¬a∈keepL now l:=by
          rw[←HD.out]
          intro hx
          obtain⟨k,hk1,hk2⟩:=List.getElem_of_mem hx
          exact HNO.out k _ (by rw[EMM.out];exact hk1) (List.getElem?_eq_getElem hk1) hk2
         have HNI:=Lib.hid hni
         clear hni
         by_cases hfull:8≤m
         ·have t1:decide ((8:Int)≤(m:Int))=true:=decide_eq_true (by omega)
          have HF:=Lib.hid (show 8≤(keepL now l).length by rw[←HD.out,←EMM.out];exact hfull)
          clear hfull
          go_wp2
          go_ret
          exact⟨by rw[seeE,if_neg (by rw[←E0.out];simp),if_neg HNI.out,if_pos HF.out];rfl,_,by rw[seeL,if_neg (by rw[←E0.out];simp),if_pos (.inr HF.out),←HD.out];exact HS.out⟩
         ·have t1:decide ((8:Int)≤(m:Int))=false:=decide_eq_false (by omega)
          have HF:=Lib.hid (show ¬8≤(keepL now l).length by rw[←HD.out,←EMM.out];exact hfull)
          have HNR:=Lib.hid (show M≠q by have:=HQ.out;omega)
          have HNW:=Lib.hid (show ∀z,RO q (.slice A2 m c2) z→¬z=M from fun z hz e=>by
           rcases HS.out.new z hz with g | g
           ·have:=HH.out.own_lt g;have:=EM.out;omega
           ·rcases hz with hz | hz
            ·exact HNR.out (by omega)
            ·exact HOB.out (by rw[hz,e]))
          clear hfull
          go_upto_region 17 with fail
          have hdr:Below wr.heap.size wr wr.drew:=below_drewN (Below.refl _ _) 1
          replace HS:=Lib.hid (HS.out.below hdr)
          have HP:=Lib.hid HS.out.rp
          replace HA:=Lib.hid (HA.out.below hdr)
          clear hdr t1
          refine Reg.any_begin (fun w'=>Blk w' M 31 (anA a)) 11 rfl (by kernel_rfl) HA.out ?_
          refine Reg.tk 0 (v:=?vv11) rfl HA.out (fun w' hS=>?hv11) ?rv11
          case hv11=>go_simp<;>rfl
          simp only[Act.put,Reg.s0,Reg.s1,Reg.s2]
          refine Reg.tk 1 (v:=?vv12) rfl HA.out (fun w' hS=>?hv12) ?rv12
          case hv12=>go_simp<;>rfl
          simp only[Act.put,Reg.s0,Reg.s1,Reg.s2]
          refine Reg.tk 2 (v:=?vv13) rfl HA.out (fun w' hS=>?hv13) ?rv13
          case hv13=>go_simp<;>rfl
          simp only[Act.put,Reg.s0,Reg.s1,Reg.s2]
          refine Reg.tk 3 (v:=?vv14) rfl HA.out (fun w' hS=>?hv14) ?rv14
          case hv14=>go_simp<;>rfl
          simp only[Act.put,Reg.s0,Reg.s1,Reg.s2]
          refine Reg.tk 5 (v:=.agg (anA a)) rfl HA.out (fun w' hS=>?hv15) ?rv15
          case hv15=>exact Wh.exec_load (.tmp 4) rfl rfl hS Try.underlying31 rfl an_info
          simp only[Act.put,Reg.s0,Reg.s1,Reg.s2]
          refine Reg.both_all [4,6] (by kernel_rfl) (by simp) ?_
          intro j0 hj0
          have hj0:j0=4∨j0=6:=by simpa using hj0
          rcases hj0 with rfl | rfl
          ·left
           have kr:wr.drew.cell? ⟨q,0,none⟩=some (.slice A2 m c2):=HP.out.blk.cell 0
           refine⟨_,_,_,_,_,_,_,_,rfl,by rfl,by(go_simp;rfl),HA.out,?_⟩
           simp only[Act.put,Reg.s0,Reg.s1,Reg.s2]
           clear kr
           refine Reg.both_all [6] (by kernel_rfl) (by simp) ?_
           intro j0 hj0
           obtain rfl:j0=6:=by simpa using hj0
           clear hj0
           left
           have hb:Below wr.drew.heap.size wr.drew (wr.drew.alloc (.cells (anA a) 31)):=(Below.refl _ _).alloc (Nat.le_refl _) _
           refine⟨_,_,_,_,_,_,.slice (some ⟨wr.drew.heap.size,0,none⟩) 1 1,(wr.drew.alloc (.cells (anA a) 31)),rfl,by rfl,exec_slice rfl (SL1.out _),HA.out.below hb,?_⟩
           simp only[Act.put,Reg.s0,Reg.s1,Reg.s2]
           have HNB:=Lib.hid (Blk.new wr.drew 31 (anA a))
           replace HS:=Lib.hid (HS.out.below hb)
           replace HP:=Lib.hid HS.out.rp
           replace HA:=Lib.hid (HA.out.below hb)
           clear hb
           obtain⟨WTv16,eWTv16⟩:∃z,z=(wr.drew.alloc (.cells (anA a) 31)):=⟨_,rfl⟩
           rw[←eWTv16] at HNB HS HP HA⊢
           clear eWTv16
           refine Reg.both_all [7] (by kernel_rfl) (by simp) ?_
           intro j0 hj0
           obtain rfl:j0=7:=by simpa using hj0
           clear hj0
           left
           obtain⟨v6,w6,hrun,ho6,hg6,hv6⟩:=Wh.app_run (P:=Try.prog) anC 4 48 anC_length anC_one WTv16 39 39 31 iE _ Try.underlying39 KI1.out KI2.out KI3.out KI4.out rfl (by omega) B (.slice A2 m c2) acc HP.out.row a wr.drew.heap.size HNB.out (by have:=EMM.out;have:=HML.out;omega) (by omega) HP.out.big
           have hfin:=HS.out.trans (drp_put HP.out HTA.out ho6 hg6 hv6)
           have hr6:=HP.out.blk.grown hg6 HP.out.vr
           replace HA:=Lib.hid (HA.out.grown hg6 (fun x=>HNW.out _ (.inr x) rfl))
           refine⟨_,_,_,_,_,_,v6,w6,rfl,by rfl,exec_app rfl rfl hrun,HA.out,?_⟩
           simp only[Act.put,Reg.s0,Reg.s1,Reg.s2]
           refine Reg.tk 8 (v:=?vv17) rfl HA.out (fun w' hS=>?hv17) ?rv17
           case hv17=>go_simp<;>rfl
           simp only[Act.put,Reg.s0,Reg.s1,Reg.s2]
           refine Reg.tk 9 (v:=?vv18) rfl HA.out (fun w' hS=>?hv18) ?rv18
           case hv18=>go_simp<;>rfl
           simp only[Act.put,Reg.s0,Reg.s1,Reg.s2]
           obtain⟨A7,c7,e7,_⟩:=own_rdr anC_length ho6
           obtain⟨m7,em7⟩:∃m7,m7=(acc++[a]).length:=⟨_,rfl⟩
           rw[←em7] at e7
           subst e7
           have f0:=hr6.frozen 0
           have k6:w6.cell? ⟨q,0,none⟩=some _:=hr6.cell 0
           refine Reg.any_store 10 (w6.setCell ⟨q,0,none⟩ (.slice A7 m7 c7)) rfl (by kernel_rfl) (by rfl) (by go_simp) (Si.Blk.far HA.out _ _ (fun x=>HNR.out x.symm)) ?_
           simp only[Act.put,Reg.s0,Reg.s1,Reg.s2]
           clear f0 k6 hr6 ho6 hg6 hv6 hrun em7 HA HNB HP
           refine wpAnyH_done (by kernel_rfl) ?_ _
           have HFIN:=Lib.hid hfin
           clear hfin HS
           go_wp2
           go_ret
           exact⟨by rw[seeE,if_neg (by rw[←E0.out];simp),if_neg HNI.out,if_neg HF.out];rfl,_,by rw[seeL,if_neg (by rw[←E0.out];simp),if_neg (fun x=>x.elim HNI.out HF.out),←HD.out];exact HFIN.out⟩
          ·left
           have hb:Below wr.drew.heap.size wr.drew (wr.drew.alloc (.cells (anA a) 31)):=(Below.refl _ _).alloc (Nat.le_refl _) _
           refine⟨_,_,_,_,_,_,.slice (some ⟨wr.drew.heap.size,0,none⟩) 1 1,(wr.drew.alloc (.cells (anA a) 31)),rfl,by rfl,exec_slice rfl (SL1.out _),HA.out.below hb,?_⟩
           simp only[Act.put,Reg.s0,Reg.s1,Reg.s2]
           have HNB:=Lib.hid (Blk.new wr.drew 31 (anA a))
           replace HS:=Lib.hid (HS.out.below hb)
           replace HP:=Lib.hid HS.out.rp
           replace HA:=Lib.hid (HA.out.below hb)
           clear hb
           obtain⟨WTv19,eWTv19⟩:∃z,z=(wr.drew.alloc (.cells (anA a) 31)):=⟨_,rfl⟩
           rw[←eWTv19] at HNB HS HP HA⊢
           clear eWTv19
           refine Reg.both_all [4] (by kernel_rfl) (by simp) ?_
           intro j0 hj0
           obtain rfl:j0=4:=by simpa using hj0
           clear hj0
           left
           have kr:WTv19.cell? ⟨q,0,none⟩=some (.slice A2 m c2):=HP.out.blk.cell 0
           refine⟨_,_,_,_,_,_,_,_,rfl,by rfl,by(go_simp;rfl),HA.out,?_⟩
           simp only[Act.put,Reg.s0,Reg.s1,Reg.s2]
           clear kr
           refine Reg.both_all [7] (by kernel_rfl) (by simp) ?_
           intro j0 hj0
           obtain rfl:j0=7:=by simpa using hj0
           clear hj0
           left
           obtain⟨v6,w6,hrun,ho6,hg6,hv6⟩:=Wh.app_run (P:=Try.prog) anC 4 48 anC_length anC_one WTv19 39 39 31 iE _ Try.underlying39 KI1.out KI2.out KI3.out KI4.out rfl (by omega) B (.slice A2 m c2) acc HP.out.row a wr.drew.heap.size HNB.out (by have:=EMM.out;have:=HML.out;omega) (by omega) HP.out.big
           have hfin:=HS.out.trans (drp_put HP.out HTA.out ho6 hg6 hv6)
           have hr6:=HP.out.blk.grown hg6 HP.out.vr
           replace HA:=Lib.hid (HA.out.grown hg6 (fun x=>HNW.out _ (.inr x) rfl))
           refine⟨_,_,_,_,_,_,v6,w6,rfl,by rfl,exec_app rfl rfl hrun,HA.out,?_⟩
           simp only[Act.put,Reg.s0,Reg.s1,Reg.s2]
           refine Reg.tk 8 (v:=?vv110) rfl HA.out (fun w' hS=>?hv110) ?rv110
           case hv110=>go_simp<;>rfl
           simp only[Act.put,Reg.s0,Reg.s1,Reg.s2]
           refine Reg.tk 9 (v:=?vv111) rfl HA.out (fun w' hS=>?hv111) ?rv111
           case hv111=>go_simp<;>rfl
           simp only[Act.put,Reg.s0,Reg.s1,Reg.s2]
           obtain⟨A7,c7,e7,_⟩:=own_rdr anC_length ho6
           obtain⟨m7,em7⟩:∃m7,m7=(acc++[a]).length:=⟨_,rfl⟩
           rw[←em7] at e7
           subst e7
           have f0:=hr6.frozen 0
           have k6:w6.cell? ⟨q,0,none⟩=some _:=hr6.cell 0
           refine Reg.any_store 10 (w6.setCell ⟨q,0,none⟩ (.slice A7 m7 c7)) rfl (by kernel_rfl) (by rfl) (by go_simp) (Si.Blk.far HA.out _ _ (fun x=>HNR.out x.symm)) ?_
           simp only[Act.put,Reg.s0,Reg.s1,Reg.s2]
           clear f0 k6 hr6 ho6 hg6 hv6 hrun em7 HA HNB HP
           refine wpAnyH_done (by kernel_rfl) ?_ _
           have HFIN:=Lib.hid hfin
           clear hfin HS
           go_wp2
           go_ret
           exact⟨by rw[seeE,if_neg (by rw[←E0.out];simp),if_neg HNI.out,if_neg HF.out];rfl,_,by rw[seeL,if_neg (by rw[←E0.out];simp),if_neg (fun x=>x.elim HNI.out HF.out),←HD.out];exact HFIN.out⟩
   |false=>
    rw[Bool.false_and] at e0
    subst e0
    go_quiet (fail)
    obtain⟨W9,eW9⟩:∃W9,W9=W.drewN nq:=⟨_,rfl⟩
    rw[←eW9]
    have hb9:Below W.heap.size W W9:=eW9▸below_drewN (Below.refl _ _) _
    replace HA:=Lib.hid (HA.out.below hb9)
    replace HB:=Lib.hid (HB.out.trans (hb9.mono (HM.out _ HB.out)))
    clear k0 k1 k2 ka t1 eW9 hb9 HS0 u1 u3
    have k0:=KQ.out W9 HB.out
    go_wp2
    go_loopw [7,8] (fun lv iv wr=>∃(i:Nat) (acc:List An),i≤n∧iv = .int .i64 (i:Int)∧acc=keepL now (l.take i)∧wr.ownsRow (M+1) 31 4 lv acc.length (acc.flatMap anC)∧Below M w wr∧Blk wr M 31 (anA a)) (fun _ iv _=>n - (intOf iv).toNat)
    case atStart=>exact⟨0,[],Nat.zero_le _,rfl,rfl,World.ownsRow_nil _ _ _ _,HB.out,HA.out⟩
    case round=>
     clear HB HA k0
     obtain⟨i,acc,hi,rfl,hacc,ho,hb,ha⟩:=hrel
     have HD:=Lib.hid hacc;have HO:=Lib.hid ho;have HB:=Lib.hid hb;have HA:=Lib.hid ha
     have k0:=KQ.out wr hb
     clear hacc ho hb ha
     by_cases hlt:i<n
     ·have e1:(i:Int)<(n:Int):=by omega
      have e2:(0:Int)≤(i:Int):=by omega
      have e8:(i:Int)≤1000:=by have:=HL.out;omega
      obtain⟨x,hx⟩:∃x,l[i]? = some x:=⟨l[i]'(by rw[←EN.out];exact hlt),List.getElem?_eq_getElem _⟩
      obtain⟨g,rfl,hgM,hra⟩:=(HR.out.keep HB.out).at_ hx
      have kt:wr.cell? ⟨g,i*4+2,none⟩=some (.int .i64 x.t):=hra 2 _ rfl
      have HRA:=Lib.hid (show wr.rangeAt g (i*4) (anA x).toList from hra)
      have hk:=keep_take (now:=now) hx
      have hxm:=HTM.out x (List.mem_of_getElem? hx)
      clear hra hx
      by_cases h1:x.t<now - 5
      ·have t1:decide (now - 5≤x.t)=false:=decide_eq_false (by omega)
       rw[if_pos h1] at hk
       have HK:=Lib.hid hk
       clear hk h1 hxm
       go_wp2
       go_roundw
       case rel=>exact⟨i+1,acc,by omega,by go_num,by rw[HK.out];exact HD.out,HO.out,HB.out,HA.out⟩
       case measure=>simp [intOf];omega
      ·have t1:decide (now - 5≤x.t)=true:=decide_eq_true (by omega)
       rw[if_neg h1] at hk
       have HK:=Lib.hid hk
       have HAL:=Lib.hid (show acc.length+1≤100000 by have:=keep_le now (l.take i);rw[←HD.out,List.length_take] at this;have:=HL.out;omega)
       clear hk h1 hxm
       obtain⟨xs,exs⟩:∃xs,xs=anA x:=⟨_,rfl⟩
       rw[←exs] at HRA
       have XS:=Lib.hid exs
       clear exs
       go_wp2_with (first
        |(refine Wh.load_g (by rfl) 31 (.tmp 64) (by rfl) g _ (by rfl) xs _ HRA.out Try.underlying31 (by rfl) (by rw[XS.out];exact an_info) ?_)
        |(refine Wh.build_one (by rfl) 39 31 (.tmp 65) (by rfl) xs (by rfl) iE _ Try.underlying39 KI1.out KI2.out (by rw[KI3.out,XS.out];rfl) (by rw[XS.out,anA_size];omega) (by rw[XS.out,anA_size];omega) ?_;intro W8 e8;have hb8:Below wr.heap.size wr W8:=e8▸(Below.refl _ _).alloc (Nat.le_refl _) _;have HNB:=Lib.hid (show Blk W8 wr.heap.size 31 xs from e8▸Blk.new _ _ _);clear e8;replace HO:=Lib.hid (own_kept HO.out hb8);replace HB:=Lib.hid (HB.out.trans (hb8.mono (HM.out _ HB.out)));replace HA:=Lib.hid (HA.out.below hb8);clear hb8)
        |(at_builtin;refine Wh.app_one anC 4 48 anC_length anC_one (by rfl) (.tmp 58) (.tmp 66) 39 31 (by rfl) iE _ Try.underlying39 KI1.out KI2.out KI3.out KI4.out (by rfl) (by omega) (by omega) (M+1) _ acc (by rfl) HO.out x wr.heap.size (by rfl) (by rw[show(anC x).toArray=xs from XS.out.symm];exact HNB.out) (by have:=HAL.out;omega) HA.out.lt ?_;intro v9 w9 ho9 hg9 hv9;replace HB:=Lib.hid (HB.out.grown hg9 (Nat.le_of_lt HA.out.lt) (fun k hk=>Nat.le_trans (by omega) (World.ownsRow.lt HO.out k hk).1));replace HA:=Lib.hid (HA.out.grown hg9 (fun x=>by have:=(World.ownsRow.lt HO.out _ x).1;omega));replace HO:=Lib.hid ho9;clear ho9 hg9 hv9)
        |fail)
       go_roundw
       case rel=>exact⟨i+1,acc++[x],by omega,by go_num,by rw[HK.out,HD.out],HO.out,HB.out,HA.out⟩
       case measure=>simp [intOf];omega
     ·have e1:¬(i:Int)<(n:Int):=by omega
      obtain rfl:n=i:=by omega
      have hfull:l.take n=l:=by rw[EN.out];exact List.take_length ..
      rw[hfull] at HD
      clear hfull
      obtain⟨A2,c2,rfl,_,_,hra⟩:=own_rdr anC_length HO.out
      have hset:=drp_set HH.out (by rw[←EM.out];exact Nat.le_add_right _ _) (by rw[←EM.out];exact HB.out) HO.out (fun x hx=>keep_mem (HD.out▸hx))
      have hqb:Blk wr q 41 #[.slice A0 l.length c0,.bool _,.int .i64 st]:=(HB.out.block q HQ.out).trans HH.out.blk
      have f0:=hqb.frozen 0
      have hfar:=Si.Blk.far HA.out ⟨q,0,none⟩ (.slice A2 acc.length c2) (fun x=>by have:=HQ.out;have:M=q:=x.symm;omega)
      obtain⟨m,em⟩:∃m,m=acc.length:=⟨_,rfl⟩
      have EMM:=Lib.hid em
      have HML:=Lib.hid (show m≤1000 by have:=keep_le now l;rw[←HD.out] at this;have:=HL.out;have:=EN.out;rw[em];omega)
      have HOB:=Lib.hid (show Value.ownBlock (.slice A2 acc.length c2)≠some M from fun x=>by have:=(World.ownsRow.lt HO.out _ x).1;omega)
      rw[←em] at HO hset hfar HOB⊢
      obtain⟨W1,eW1⟩:∃W1,W1=wr.setCell ⟨q,0,none⟩ (.slice A2 m c2):=⟨_,rfl⟩
      rw[←eW1] at hset hfar
      have HS:=Lib.hid hset
      replace HA:=Lib.hid hfar
      have HB1:=Lib.hid (show M≤W1.heap.size by rw[EM.out];exact hset.chg.size)
      clear hset hfar hqb em HB HO hra
      go_upto_region 10 with fail
      rw[←eW1]
      clear eW1 k0 f0
      go_wp2
      go_loopw [9] (fun jv wq=>∃j:Nat,j≤m∧jv = .int .i64 (j:Int)∧Below W1.heap.size W1 wq∧∀k x,k<j→acc[k]? = some x→¬x=a) (fun jv _=>m - (intOf jv).toNat)
      case atStart=>exact⟨0,Nat.zero_le _,rfl,Below.refl _ _,fun k x hk=>absurd hk (Nat.not_lt_zero _)⟩
      case round=>
       obtain⟨j,hj,rfl,hb,hno⟩:=hrel
       have HNO:=Lib.hid hno
       replace HS:=Lib.hid (HS.out.below hb)
       replace HA:=Lib.hid (HA.out.below hb)
       have HBQ:=Lib.hid hb
       clear hno hb
       by_cases hjl:j<m
       ·have e3:(j:Int)<(m:Int):=by omega
        have e4:(0:Int)≤(j:Int):=by omega
        have e9:(j:Int)≤1000:=by have:=HML.out;omega
        obtain⟨x,hx⟩:∃x,acc[j]? = some x:=⟨acc[j]'(by rw[←EMM.out];exact hjl),List.getElem?_eq_getElem _⟩
        obtain⟨A3,c3,q3,_,_,hr3⟩:=HS.out.rp.num
        injection q3 with q3 _ q4
        subst q3 q4
        obtain⟨g3,rfl,_,hra⟩:=hr3.at_ hx
        have HX:=Lib.hid hx
        have qe:=eql_an x a
        have x0:wr.cell? ⟨g3,j*4,none⟩=some _:=hra 0 _ rfl;have x1:=hra 1 _ rfl;have x2:=hra 2 _ rfl;have x3:=hra 3 _ rfl
        have a0:=HA.out.cell 0;have a1:=HA.out.cell 1;have a2:=HA.out.cell 2;have a3:=HA.out.cell 3
        obtain⟨b,eb⟩:∃b,b=decide (x=a):=⟨_,rfl⟩
        rw[←eb] at qe
        have EB:=Lib.hid eb
        clear eb hx hr3 hra
        cases b with
        |true=>
         go_wp2
         go_quiet (fail)
         go_wp2
         go_ret
         have hin:a∈keepL now l:=by rw[←HD.out,←of_decide_eq_true EB.out.symm];exact List.mem_of_getElem? HX.out
         exact⟨by rw[seeE,if_neg (by rw[←E0.out];simp),if_pos hin];rfl,_,by rw[seeL,if_neg (by rw[←E0.out];simp),if_pos (.inl hin),←HD.out];exact HS.out.below (below_drewN (Below.refl _ _) _)⟩
        |false=>
         go_wp2
         go_quiet (fail)
         go_wp2
         go_roundw
         case rel=>exact⟨j+1,by omega,by go_num,below_drewN HBQ.out _,fun k y hk hy=>by
          rcases Nat.lt_or_eq_of_le (Nat.le_of_lt_succ hk) with g | g
          ·exact HNO.out k y g hy
          ·rw[g,HX.out] at hy
           injection hy with hy
           rw[←hy]
           exact of_decide_eq_false EB.out.symm⟩
         case measure=>simp [intOf];omega
       ·have e3:¬(j:Int)<(m:Int):=by omega
        obtain rfl:m=j:=by omega
        have hni:¬a∈keepL now l:=by
         rw[←HD.out]
         intro hx
         obtain⟨k,hk1,hk2⟩:=List.getElem_of_mem hx
         exact HNO.out k _ (by rw[EMM.out];exact hk1) (List.getElem?_eq_getElem hk1) hk2
        have HNI:=Lib.hid hni
        clear hni
        by_cases hfull:8≤m
        ·have t1:decide ((8:Int)≤(m:Int))=true:=decide_eq_true (by omega)
         have HF:=Lib.hid (show 8≤(keepL now l).length by rw[←HD.out,←EMM.out];exact hfull)
         clear hfull
         go_wp2
         go_ret
         exact⟨by rw[seeE,if_neg (by rw[←E0.out];simp),if_neg HNI.out,if_pos HF.out];rfl,_,by rw[seeL,if_neg (by rw[←E0.out];simp),if_pos (.inr HF.out),←HD.out];exact HS.out⟩
        ·have t1:decide ((8:Int)≤(m:Int))=false:=decide_eq_false (by omega)
         have HF:=Lib.hid (show ¬8≤(keepL now l).length by rw[←HD.out,←EMM.out];exact hfull)
         have HNR:=Lib.hid (show M≠q by have:=HQ.out;omega)
         have HNW:=Lib.hid (show ∀z,RO q (.slice A2 m c2) z→¬z=M from fun z hz e=>by
          rcases HS.out.new z hz with g | g
          ·have:=HH.out.own_lt g;have:=EM.out;omega
          ·rcases hz with hz | hz
           ·exact HNR.out (by omega)
           ·exact HOB.out (by rw[hz,e]))
         clear hfull
         go_upto_region 17 with fail
         have hdr:Below wr.heap.size wr wr.drew:=below_drewN (Below.refl _ _) 1
         replace HS:=Lib.hid (HS.out.below hdr)
         have HP:=Lib.hid HS.out.rp
         replace HA:=Lib.hid (HA.out.below hdr)
         clear hdr t1
         refine Reg.any_begin (fun w'=>Blk w' M 31 (anA a)) 11 rfl (by kernel_rfl) HA.out ?_
         refine Reg.tk 0 (v:=?vv21) rfl HA.out (fun w' hS=>?hv21) ?rv21
         case hv21=>go_simp<;>rfl
         simp only[Act.put,Reg.s0,Reg.s1,Reg.s2]
         refine Reg.tk 1 (v:=?vv22) rfl HA.out (fun w' hS=>?hv22) ?rv22
         case hv22=>go_simp<;>rfl
         simp only[Act.put,Reg.s0,Reg.s1,Reg.s2]
         refine Reg.tk 2 (v:=?vv23) rfl HA.out (fun w' hS=>?hv23) ?rv23
         case hv23=>go_simp<;>rfl
         simp only[Act.put,Reg.s0,Reg.s1,Reg.s2]
         refine Reg.tk 3 (v:=?vv24) rfl HA.out (fun w' hS=>?hv24) ?rv24
         case hv24=>go_simp<;>rfl
         simp only[Act.put,Reg.s0,Reg.s1,Reg.s2]
         refine Reg.tk 5 (v:=.agg (anA a)) rfl HA.out (fun w' hS=>?hv25) ?rv25
         case hv25=>exact Wh.exec_load (.tmp 4) rfl rfl hS Try.underlying31 rfl an_info
         simp only[Act.put,Reg.s0,Reg.s1,Reg.s2]
         refine Reg.both_all [4,6] (by kernel_rfl) (by simp) ?_
         intro j0 hj0
         have hj0:j0=4∨j0=6:=by simpa using hj0
         rcases hj0 with rfl | rfl
         ·left
          have kr:wr.drew.cell? ⟨q,0,none⟩=some (.slice A2 m c2):=HP.out.blk.cell 0
          refine⟨_,_,_,_,_,_,_,_,rfl,by rfl,by(go_simp;rfl),HA.out,?_⟩
          simp only[Act.put,Reg.s0,Reg.s1,Reg.s2]
          clear kr
          refine Reg.both_all [6] (by kernel_rfl) (by simp) ?_
          intro j0 hj0
          obtain rfl:j0=6:=by simpa using hj0
          clear hj0
          left
          have hb:Below wr.drew.heap.size wr.drew (wr.drew.alloc (.cells (anA a) 31)):=(Below.refl _ _).alloc (Nat.le_refl _) _
          refine⟨_,_,_,_,_,_,.slice (some ⟨wr.drew.heap.size,0,none⟩) 1 1,(wr.drew.alloc (.cells (anA a) 31)),rfl,by rfl,exec_slice rfl (SL1.out _),HA.out.below hb,?_⟩
          simp only[Act.put,Reg.s0,Reg.s1,Reg.s2]
          have HNB:=Lib.hid (Blk.new wr.drew 31 (anA a))
          replace HS:=Lib.hid (HS.out.below hb)
          replace HP:=Lib.hid HS.out.rp
          replace HA:=Lib.hid (HA.out.below hb)
          clear hb
          obtain⟨WTv26,eWTv26⟩:∃z,z=(wr.drew.alloc (.cells (anA a) 31)):=⟨_,rfl⟩
          rw[←eWTv26] at HNB HS HP HA⊢
          clear eWTv26
          refine Reg.both_all [7] (by kernel_rfl) (by simp) ?_
          intro j0 hj0
          obtain rfl:j0=7:=by simpa using hj0
          clear hj0
          left
          obtain⟨v6,w6,hrun,ho6,hg6,hv6⟩:=Wh.app_run (P:=Try.prog) anC 4 48 anC_length anC_one WTv26 39 39 31 iE _ Try.underlying39 KI1.out KI2.out KI3.out KI4.out rfl (by omega) B (.slice A2 m c2) acc HP.out.row a wr.drew.heap.size HNB.out (by have:=EMM.out;have:=HML.out;omega) (by omega) HP.out.big
          have hfin:=HS.out.trans (drp_put HP.out HTA.out ho6 hg6 hv6)
          have hr6:=HP.out.blk.grown hg6 HP.out.vr
          replace HA:=Lib.hid (HA.out.grown hg6 (fun x=>HNW.out _ (.inr x) rfl))
          refine⟨_,_,_,_,_,_,v6,w6,rfl,by rfl,exec_app rfl rfl hrun,HA.out,?_⟩
          simp only[Act.put,Reg.s0,Reg.s1,Reg.s2]
          refine Reg.tk 8 (v:=?vv27) rfl HA.out (fun w' hS=>?hv27) ?rv27
          case hv27=>go_simp<;>rfl
          simp only[Act.put,Reg.s0,Reg.s1,Reg.s2]
          refine Reg.tk 9 (v:=?vv28) rfl HA.out (fun w' hS=>?hv28) ?rv28
          case hv28=>go_simp<;>rfl
          simp only[Act.put,Reg.s0,Reg.s1,Reg.s2]
          obtain⟨A7,c7,e7,_⟩:=own_rdr anC_length ho6
          obtain⟨m7,em7⟩:∃m7,m7=(acc++[a]).length:=⟨_,rfl⟩
          rw[←em7] at e7
          subst e7
          have f0:=hr6.frozen 0
          have k6:w6.cell? ⟨q,0,none⟩=some _:=hr6.cell 0
          refine Reg.any_store 10 (w6.setCell ⟨q,0,none⟩ (.slice A7 m7 c7)) rfl (by kernel_rfl) (by rfl) (by go_simp) (Si.Blk.far HA.out _ _ (fun x=>HNR.out x.symm)) ?_
          simp only[Act.put,Reg.s0,Reg.s1,Reg.s2]
          clear f0 k6 hr6 ho6 hg6 hv6 hrun em7 HA HNB HP
          refine wpAnyH_done (by kernel_rfl) ?_ _
          have HFIN:=Lib.hid hfin
          clear hfin HS
          go_wp2
          go_ret
          exact⟨by rw[seeE,if_neg (by rw[←E0.out];simp),if_neg HNI.out,if_neg HF.out];rfl,_,by rw[seeL,if_neg (by rw[←E0.out];simp),if_neg (fun x=>x.elim HNI.out HF.out),←HD.out];exact HFIN.out⟩
         ·left
          have hb:Below wr.drew.heap.size wr.drew (wr.drew.alloc (.cells (anA a) 31)):=(Below.refl _ _).alloc (Nat.le_refl _) _
          refine⟨_,_,_,_,_,_,.slice (some ⟨wr.drew.heap.size,0,none⟩) 1 1,(wr.drew.alloc (.cells (anA a) 31)),rfl,by rfl,exec_slice rfl (SL1.out _),HA.out.below hb,?_⟩
          simp only[Act.put,Reg.s0,Reg.s1,Reg.s2]
          have HNB:=Lib.hid (Blk.new wr.drew 31 (anA a))
          replace HS:=Lib.hid (HS.out.below hb)
          replace HP:=Lib.hid HS.out.rp
          replace HA:=Lib.hid (HA.out.below hb)
          clear hb
          obtain⟨WTv29,eWTv29⟩:∃z,z=(wr.drew.alloc (.cells (anA a) 31)):=⟨_,rfl⟩
          rw[←eWTv29] at HNB HS HP HA⊢
          clear eWTv29
          refine Reg.both_all [4] (by kernel_rfl) (by simp) ?_
          intro j0 hj0
          obtain rfl:j0=4:=by simpa using hj0
          clear hj0
          left
          have kr:WTv29.cell? ⟨q,0,none⟩=some (.slice A2 m c2):=HP.out.blk.cell 0
          refine⟨_,_,_,_,_,_,_,_,rfl,by rfl,by(go_simp;rfl),HA.out,?_⟩
          simp only[Act.put,Reg.s0,Reg.s1,Reg.s2]
          clear kr
          refine Reg.both_all [7] (by kernel_rfl) (by simp) ?_
          intro j0 hj0
          obtain rfl:j0=7:=by simpa using hj0
          clear hj0
          left
          obtain⟨v6,w6,hrun,ho6,hg6,hv6⟩:=Wh.app_run (P:=Try.prog) anC 4 48 anC_length anC_one WTv29 39 39 31 iE _ Try.underlying39 KI1.out KI2.out KI3.out KI4.out rfl (by omega) B (.slice A2 m c2) acc HP.out.row a wr.drew.heap.size HNB.out (by have:=EMM.out;have:=HML.out;omega) (by omega) HP.out.big
          have hfin:=HS.out.trans (drp_put HP.out HTA.out ho6 hg6 hv6)
          have hr6:=HP.out.blk.grown hg6 HP.out.vr
          replace HA:=Lib.hid (HA.out.grown hg6 (fun x=>HNW.out _ (.inr x) rfl))
          refine⟨_,_,_,_,_,_,v6,w6,rfl,by rfl,exec_app rfl rfl hrun,HA.out,?_⟩
          simp only[Act.put,Reg.s0,Reg.s1,Reg.s2]
          refine Reg.tk 8 (v:=?vv210) rfl HA.out (fun w' hS=>?hv210) ?rv210
          case hv210=>go_simp<;>rfl
          simp only[Act.put,Reg.s0,Reg.s1,Reg.s2]
          refine Reg.tk 9 (v:=?vv211) rfl HA.out (fun w' hS=>?hv211) ?rv211
          case hv211=>go_simp<;>rfl
          simp only[Act.put,Reg.s0,Reg.s1,Reg.s2]
          obtain⟨A7,c7,e7,_⟩:=own_rdr anC_length ho6
          obtain⟨m7,em7⟩:∃m7,m7=(acc++[a]).length:=⟨_,rfl⟩
          rw[←em7] at e7
          subst e7
          have f0:=hr6.frozen 0
          have k6:w6.cell? ⟨q,0,none⟩=some _:=hr6.cell 0
          refine Reg.any_store 10 (w6.setCell ⟨q,0,none⟩ (.slice A7 m7 c7)) rfl (by kernel_rfl) (by rfl) (by go_simp) (Si.Blk.far HA.out _ _ (fun x=>HNR.out x.symm)) ?_
          simp only[Act.put,Reg.s0,Reg.s1,Reg.s2]
          clear f0 k6 hr6 ho6 hg6 hv6 hrun em7 HA HNB HP
          refine wpAnyH_done (by kernel_rfl) ?_ _
          have HFIN:=Lib.hid hfin
          clear hfin HS
          go_wp2
          go_ret
          exact⟨by rw[seeE,if_neg (by rw[←E0.out];simp),if_neg HNI.out,if_neg HF.out];rfl,_,by rw[seeL,if_neg (by rw[←E0.out];simp),if_neg (fun x=>x.elim HNI.out HF.out),←HD.out];exact HFIN.out⟩
end Go.Proofs.Ytnmeicnppablkaa.Rp
end

section
set_option linter.unusedVariables false
namespace Go.Proofs.Ytnmeicnppablkaa.OpenP
open Go.Joins Go.ChangeShapes Go.WideShapes Go.ChangeAt Go.RowKit Go.Deep Go.Proofs.Ytnmeicnppablkaa Go.Proofs.Ytnmeicnppablkaa.Mem Go.Proofs.Ytnmeicnppablkaa.Rg
theorem cut {α:Type} (cs:List α) (o c:Nat):cs.drop o=(cs.drop o).take c++cs.drop (o+c):=by
 rw[←List.drop_drop];exact(List.take_append_drop c _).symm
section
variable {H:Type} {enc:TypeId×Value→H} {W:World}
theorem c_str:Try.prog.cellsOf 9=1:=by kernel_rfl
theorem c_int:Try.prog.cellsOf 3=1:=by kernel_rfl
theorem c_pr:Try.prog.cellsOf 29=2:=by kernel_rfl
theorem in_str {n:Nat} {cs:List Value} {x:DataW H×List MemPlace} (h:DataW.trod enc Try.prog W 0 (fun _=>true) true n 9 cs=some x) (hw:∀n∈DataW.weights Try.prog 9 x.1,n≤reachBytes):∃l:List UInt8,cs = [.string ⟨l.toArray⟩]∧l.length≤reachBytes:=by
 obtain⟨s,hs,hx,hz⟩:=DataW.trod_string Try.underlying9 h
 exact⟨s.data.toList,by rw[hs,←Mem.bytes_eta s],hw _ (by rw[hx];simp [DataW.weights])⟩
theorem in_int {n:Nat} {cs:List Value} {x:DataW H×List MemPlace} (h:DataW.trod enc Try.prog W 0 (fun _=>true) true n 3 cs=some x):∃i:Int,cs = [.int .i64 i]∧(Lit.int .i64 i).wf=true:=by
 obtain⟨i,h1,_,h2⟩:=DataW.trod_int Try.underlying3 h
 exact⟨i,h1,h2⟩
theorem in_pr {n:Nat} {cs:List Value} {x:DataW H×List MemPlace} (h:DataW.trod enc Try.prog W 0 (fun _=>true) true n 29 cs=some x) (hw:∀n∈DataW.weights Try.prog 29 x.1,n≤reachBytes):∃p:Pr,cs = [.string ⟨p.1.toArray⟩,.string ⟨p.2.toArray⟩]∧p.1.length≤reachBytes∧p.2.length≤reachBytes:=by
 obtain⟨y0,y1,m,hx,hl,h0,h1⟩:=trod_struct2 Try.underlying29 h
 simp only[c_str] at h0 h1
 have fw:=fun(j:Nat) (t:TypeId) (d:DataW H) (ht:[9,9][j]? = some t) (hd:[y0.1,y1.1][j]? = some d) (n:Nat) (hn:n∈d.weights Try.prog t)=>hw n (by rw[hx];simp only[DataW.weights,Try.underlying29];exact DataW.weights_mem_each ht hd n hn)
 obtain⟨l0,e0,b0⟩:=in_str h0 (fw 0 _ _ rfl rfl)
 obtain⟨l1,e1,b1⟩:=in_str h1 (fw 1 _ _ rfl rfl)
 rw[c_pr] at hl
 refine⟨(l0,l1),?_,b0,b1⟩
 have k0:=cut cs 0 1
 have k1:=cut cs 1 1
 rw[e0] at k0
 rw[show 0+1=1 from rfl,k1,e1,List.drop_of_length_le (show cs.length≤1+1 by omega)] at k0
 exact k0
theorem fn_list {α:Type} {n:Nat} {p:Nat→α→Prop} (h:∀i,i<n→∃a,p i a):∃l:List α,l.length=n∧∀i (hi:i<l.length),p i l[i]:=by
 induction n with
 |zero=>exact⟨[],rfl,fun i hi=>by simp at hi⟩
 |succ n ih=>
  obtain⟨l,hl,hp⟩:=ih fun i hi=>h i (by omega)
  obtain⟨a,ha⟩:=h n (by omega)
  refine⟨l++[a],by simp [hl],fun i hi=>?_⟩
  rw[List.length_append,List.length_singleton] at hi
  by_cases g:i<l.length
  ·rw[List.getElem_append_left g];exact hp i g
  ·obtain rfl:i=l.length:=by omega
   rw[List.getElem_append_right (Nat.le_refl _)]
   simp only[Nat.sub_self,List.getElem_cons_zero]
   rw[hl];exact ha
end
end Go.Proofs.Ytnmeicnppablkaa.OpenP
end
