import Derived.Deep.LoopGhost
import Derived.DeepKeys
import Derived.Laws.StructEq
import Derived.StillTailTactics
import Derived.Laws.OwnMore
import Derived.BigQuiet
import Derived.Deep.QuietTactic
import Derived.Deep.RegionHeld3
import Derived.Test.YtfcjeebnkigeaaaGreatZKdcNonces1
import Derived.Test.YtfcjeebnkigeaaaGreatZKdcNonces2
import Derived.Test.YtfcjeebnkigeaaaGreatZKdcNonces3
import Derived.Test.YtfcjeebnkigeaaaGreatZKdcNonces4
import Derived.Test.YtfcjeebnkigeaaaGreatZKdcNonces5
import Derived.Test.YtfcjeebnkigeaaaGreatZKdcNonces6
import Derived.Test.YtfcjeebnkigeaaaGreatZKdcNonces7
import Derived.Test.YtfcjeebnkigeaaaGreatZKdcNonces8
import Derived.Test.YtfcjeebnkigeaaaGreatZKdcNonces9
import Derived.Test.YtfcjeebnkigeaaaGreatZKdcNonces10
import Derived.Test.YtfcjeebnkigeaaaGreatZKdcNonces11
import Derived.Test.YtfcjeebnkigeaaaGreatZKdcNonces12
import Derived.Test.YtfcjeebnkigeaaaGreatZKdcNonces13
import Derived.Test.YtfcjeebnkigeaaaGreatZKdcNonces14
import Derived.Test.YtfcjeebnkigeaaaGreatZKdcNonces15
import Derived.Test.YtfcjeebnkigeaaaGreatZKdcNonces16
import Derived.Test.YtfcjeebnkigeaaaGreatZKdcNonces17
section
set_option linter.unusedVariables false
set_option linter.unusedSimpArgs false
namespace Go.Proofs.YtfcjeebnkigeaaaGreat.Kd
open Go.RowKit Go.Proofs.YtfcjeebnkigeaaaGreat.Mem Go.Proofs.YtfcjeebnkigeaaaGreat.Nm Go.Proofs.YtfcjeebnkigeaaaGreat.Rt
theorem ap_pr2 (w : World) (base : Nat) (v : Value) (K : List (L × L)) (hown : OwnP w base v K) (p : L × L) (g : Nat) (hc0 : w.cell? ⟨g, 0, none⟩ = some (.string ⟨p.1.toArray⟩)) (hc1 : w.cell? ⟨g, 1, none⟩ = some (.string ⟨p.2.toArray⟩)) (hl : K.length + 1 ≤ 1000000) (hb : base ≤ w.heap.size) :
    ∃ v' w', (Builtin.append_ #[57, 57] 57 #[v, .slice (some ⟨g, 0, none⟩) 1 1]).run Tryz.prog w = .ok v' w' ∧ OwnP w' base v' (K ++ [p]) ∧ Below base w w' ∧ w.grownBy w' v.ownBlock := by
  obtain ⟨i0, hi0, hz0, hs0, hb0⟩ := info_parts pair_info
  obtain ⟨v', w', hrun, h2, h3, _, _⟩ := run_append_own_at (P := Tryz.prog) w base 57 57 196 i0 _ 2 32 Tryz.underlying57 hi0 hz0 hs0 hb0 rfl (by omega) v K.length (prs K) hown ⟨g, 0, none⟩ 1 1 (prs [p]) rfl (fun j u hu => by
      rw [addr_add, Nat.zero_add]
      have e : prs [p] = [.string ⟨p.1.toArray⟩, .string ⟨p.2.toArray⟩] := rfl
      rw [e] at hu
      rcases j with _ | _ | j
      · simp only [List.getElem?_cons_zero, Option.some.injEq] at hu; rw [← hu]; exact hc0
      · simp only [List.getElem?_cons_succ, List.getElem?_cons_zero, Option.some.injEq] at hu; rw [← hu]; exact hc1
      · simp at hu) (prs_one _) (by unfold maxLen; omega) (by omega) hb
  exact ⟨v', w', hrun, by rw [OwnP, List.length_append, prs_append]; exact h2, (Below.refl _ _).grown h3 hb (fun k hk => (hown.lt k hk).1), h3⟩
theorem g_more {a w c:World} {row:Option Nat} (h:a.grownBy w row) (k:Below a.heap.size w c):a.grownBy c row:=
 ⟨k.os.trans h.os,k.tape.trans h.tape,k.output.trans h.output,Nat.le_trans h.size k.size,fun i hi hn=>(k.block i hi).trans (h.block i hi hn)⟩
theorem owns_heap2 {w w':World} {base n size:Nat} {t:TypeId} {v:Value} {xs:List Value} (h:w.ownsRow base t size v n xs) (hk:∀g,v.ownBlock=some g→w'.heap[g]? = w.heap[g]?):w'.ownsRow base t size v n xs:=by
 refine⟨h.1,?_⟩
 rcases h.2 with h2 | ⟨g,cap,cur,h1,h2,h3,h4⟩
 ·exact .inl h2
 ·refine .inr ⟨g,cap,cur,h1,h2,?_,h4⟩
  subst h1
  rw[hk g rfl];exact h3
theorem own_slk {w w':World} {base n c hi:Nat} {A:Option Addr} {ls:List L} {K:Nat→Prop} (h:Own w base (.slice A n c) ls) (hl:∀k,(Value.slice A n c).ownBlock=some k→base≤k∧k<hi) (hK:∀k,base≤k→k<hi→K k) (hw:∀k o,base≤k→k<hi→w'.cell? ⟨k,o,none⟩=w.cell? ⟨k,o,none⟩):SlK K w' (.slice A n c) ls:=by
 have hc:ls.length≤c:=by
  rcases h.2 with⟨h1,h2⟩ | ⟨g,cap,cur,h1,hg,hh,hc,_⟩
  ·omega
  ·injection h1 with _ _ h1
   omega
 obtain⟨A',c',e,hr⟩:=h.slice
 injection e with e1 e2 e3
 subst e1 e2 e3
 refine⟨A,c,rfl,hc,?_⟩
 rcases hr with hr | ⟨b,o,rfl,_,hcell⟩
 ·left
  have h9:=congrArg List.length hr
  rw[strs_length] at h9
  exact List.eq_nil_of_length_eq_zero h9
 ·obtain⟨h1,h2⟩:=hl b rfl
  exact .inr ⟨b,o,rfl,hK b h1 h2,fun i u hu=>(hw b _ h1 h2).trans (hcell i u hu)⟩
theorem ownp_spk {w w':World} {base n c:Nat} {A:Option Addr} {ls:List (L×L)} {K:Nat→Prop} (h:OwnP w base (.slice A n c) ls) (hK:∀k,base≤k→k<w.heap.size→K k) (hw:∀k o,base≤k→k<w.heap.size→w'.cell? ⟨k,o,none⟩=w.cell? ⟨k,o,none⟩):SpK K w' (.slice A n c) ls:=by
 have hl:=h.lt
 obtain⟨A',c',e,hc,hr⟩:=h.slice
 injection e with e1 e2 e3
 subst e1 e2 e3
 refine⟨A,c,rfl,hc,?_⟩
 rcases hr with hr | ⟨b,o,rfl,_,hcell⟩
 ·exact .inl hr
 ·obtain⟨h1,h2⟩:=hl b rfl
  exact .inr ⟨b,o,rfl,hK b h1 h2,fun i hi=>⟨(hw b _ h1 h2).trans (hcell i hi).1,(hw b _ h1 h2).trans (hcell i hi).2⟩⟩
theorem ownp_put2 {w:World} {base g j:Nat} {v u:Value} {K:List (L×L)} (h:OwnP w base v K) (hg:g<base):OwnP (w.setCell ⟨g,j,none⟩ u) base v K:=
 owns_heap2 h fun b hb=>Below.heap_setCell w _ u b (fun e=>by have h1:=(h.lt b hb).1;simp only at e;omega)
theorem kl_snoc {P:List (L×L)} {j:Nat} (h:j<P.length):P.take (j+1)=P.take j++[kl P j]:=by
 rw[List.take_add_one,List.getElem?_eq_getElem h,kl_lt h];rfl
abbrev tpA (a b:Value):Array Value:=#[a,b,.slice none 0 0]
set_option maxRecDepth 100000 in
set_option maxHeartbeats 3200000 in
theorem ctopo_any (T:Tp) (hs:Sm T) (hp:T.P = []) (hkt:∀x∈T.K,x.1.length≤3000∧x.2.length≤3000) (v1 v2:Value) (w:World) (h1:SlV w w.heap.size v1 T.R) (h2:SlP w w.heap.size v2 T.K) :
  Calls Tryz.prog 95 #[.agg (tpA v1 v2)] w fun e w'=>∃u1 u2,e = .returned (.agg (tpA u1 u2))∧TpK (fun b=>w.heap.size≤b∧b<w'.heap.size) w' u1 u2 (.slice none 0 0) T∧Below w.heap.size w w':=by
 obtain⟨A1,c1,rfl,hc1,r1⟩:=h1
 obtain⟨A2,c2,rfl,hc2,r2⟩:=h2
 obtain⟨n,en⟩:∃n,n=T.R.length:=⟨_,rfl⟩
 obtain⟨m,em⟩:∃m,m=T.K.length:=⟨_,rfl⟩
 have hk:=hs.k
 obtain⟨W,eW⟩:∃W,W=(w.alloc (.cells (tpA (.slice A1 n c1) (.slice A2 m c2)) 60)).alloc (.cells (tpA (.slice none 0 0) (.slice none 0 0)) 60):=⟨_,rfl⟩
 have hb:Below w.heap.size w W:=eW▸((Below.refl _ _).alloc (Nat.le_refl _) _).alloc (by simp) _
 have HT:=Lib.hid (show Blk W w.heap.size 60 (tpA (.slice A1 n c1) (.slice A2 m c2)) from eW▸(Blk.new w _ _).alloc _)
 have HZ:=Lib.hid (show Blk W (w.heap.size+1) 60 (tpA (.slice none 0 0) (.slice none 0 0)) by have:=Blk.new (w.alloc (.cells (tpA (.slice A1 n c1) (.slice A2 m c2)) 60)) 60 (tpA (.slice none 0 0) (.slice none 0 0));simp only[World.size_alloc] at this;exact eW▸this)
 have HB:=Lib.hid hb
 have CC:=Lib.hid (ctexts_any T.R A1 c1 W (by have:=hs.r;omega) (fun x hx=>hs.rt x hx) ((r1.below hb).more hb.size))
 have HR2:=Lib.hid (r2.below hb)
 rw[←en] at CC
 rw[←em] at hk
 have EM:=Lib.hid em
 have EN:=Lib.hid en
 have HPN:=Lib.hid hp
 have HKT:=Lib.hid hkt
 rw[←en,←em]
 have HZL:=Lib.hid HZ.out.lt
 clear hb r1 r2 hc1 hc2 hs hp hkt en em
 go_enter Tryz.func95,Tryz.ntmps95
 go_upto_region 1 with fail
 rw[←eW]
 clear eW
 have kq0:=HT.out.cell 0
 go_upto_region 2 with(first
  |(go_at_call 148;refine Calls.mono CC.out ?_;rintro e w6 ⟨u1,rfl,ho,hb⟩;clear CC kq0;obtain⟨A6,c6,eu,_⟩:=ho.slice;rw[←EN.out] at eu;subst eu;have HO:=Lib.hid ho;have HOK:=ho.lt;replace HT:=Lib.hid (HT.out.below hb);replace HZ:=Lib.hid (HZ.out.below hb);replace HR2:=Lib.hid (HR2.out.below (hb.mono HB.out.size));have HW:=Lib.hid hb.size;have HWN:=Lib.hid HB.out.size;replace HB:=Lib.hid (HB.out.trans (hb.mono HB.out.size));clear ho hb)
  |fail)
 obtain⟨w8,ew8⟩:∃z,z=w6.alloc (.cells (tpA (.slice A6 n c6) (.slice none 0 0)) 60):=⟨_,rfl⟩
 have hb:Below w6.heap.size w6 w8:=ew8▸(Below.refl _ _).alloc (Nat.le_refl _) _
 have HX:=Lib.hid (show Blk w8 w6.heap.size 60 (tpA (.slice A6 n c6) (.slice none 0 0)) from ew8▸Blk.new w6 _ _)
 have HP8:=Lib.hid (show w6.heap.size<w8.heap.size by rw[ew8];simp)
 replace HT:=Lib.hid (HT.out.below hb);replace HZ:=Lib.hid (HZ.out.below hb);replace HO:=Lib.hid (HO.out.below hb);replace HR2:=Lib.hid (HR2.out.below (hb.mono HB.out.size));replace HB:=Lib.hid (HB.out.trans (hb.mono HB.out.size))
 have HOL:=Lib.hid (show ∀k,(Value.slice A6 n c6).ownBlock=some k→W.heap.size≤k∧k<w6.heap.size from HOK)
 rw[←ew8]
 clear ew8 hb
 obtain⟨P3,eP3⟩:∃z,z=w6.heap.size:=⟨_,rfl⟩
 rw[←eP3] at HX HP8 HOL⊢
 have HW6:=Lib.hid (show w.heap.size+1<P3 by rw[eP3];have:=HZL.out;have:=HW.out;omega)
 clear eP3
 have kt1:=HT.out.cell 1
 go_upto_region 3 with fail
 clear kt1
 go_loopw [15] (fun iv wr=>∃(j:Nat) (vK:Value),j≤m∧iv = .int .i64 (j:Int)∧Blk wr P3 60 (tpA (.slice A6 n c6) vK)∧OwnP wr w8.heap.size vK (T.K.take j)∧w8.grownBy wr (some P3)) (fun iv _=>m - (intOf iv).toNat)
 case atStart=>exact⟨0,_,Nat.zero_le _,rfl,HX.out,OwnP.nil _ _,World.grownBy.refl _ _⟩
 case round=>
  obtain⟨j,vK,hj,rfl,hx,hop,hg⟩:=hrel
  replace HX:=Lib.hid hx;have HOP:=Lib.hid hop;have HG:=Lib.hid hg
  have HGS:=Lib.hid hg.size
  have hlt8:=hop.lt
  clear hx hop hg
  obtain⟨K,eK⟩:∃z,z=T.K.take j:=⟨_,rfl⟩
  rw[←eK] at HOP
  have HEK:=Lib.hid eK
  clear eK
  obtain⟨A8,c8,e8,_⟩:=HOP.out.slice
  subst e8
  by_cases hlt:j<m
  ·have e1:(j:Int)<(m:Int):=by omega
   have e2:(0:Int)≤(j:Int):=by omega
   have hjm:j<T.K.length:=by rw[←EM.out];exact hlt
   have HSN:=Lib.hid (show T.K.take (j+1)=K++[kl T.K j] from HEK.out▸kl_snoc hjm)
   have HL:=Lib.hid (show K.length≤3000 by rw[HEK.out,List.length_take];omega)
   have hkk:=HKT.out _ (kl_mem hjm)
   have CL1:=Lib.hid (fun w1=>clone_any (kl T.K j).1 w1 (by omega))
   have CL2:=Lib.hid (fun w1=>clone_any (kl T.K j).2 w1 (by omega))
   have HOWN:=Lib.hid (show ∀k,(Value.slice A8 K.length c8).ownBlock=some k→k<wr.heap.size from fun k hk=>(hlt8 k hk).2)
   rcases HR2.out with hz | ⟨bz,oz,ez,hbz,hcz⟩
   ·exact absurd hjm (by rw[hz];simp)
   ·subst ez
    have hbn:bz≠P3:=by have:=HW6.out;omega
    have q0:wr.cell? ⟨bz,oz+j*2,none⟩=some (.string ⟨(kl T.K j).1.toArray⟩):=(World.cell?_of_block (a:=⟨bz,oz+j*2,none⟩) (HG.out.block bz (by have:=HW6.out;have:=HP8.out;omega) (fun e=>hbn (by injection e)))).trans (hcz j hjm).1
    have q1:wr.cell? ⟨bz,oz+j*2+1,none⟩=some (.string ⟨(kl T.K j).2.toArray⟩):=(World.cell?_of_block (a:=⟨bz,oz+j*2+1,none⟩) (HG.out.block bz (by have:=HW6.out;have:=HP8.out;omega) (fun e=>hbn (by injection e)))).trans (hcz j hjm).2
    go_upto_region 5 with fail
    obtain⟨wt,ewt⟩:∃z,z=wr.alloc (.cells #[.string ⟨(kl T.K j).1.toArray⟩,.string ⟨(kl T.K j).2.toArray⟩] 196):=⟨_,rfl⟩
    have hb:Below wr.heap.size wr wt:=ewt▸(Below.refl _ _).alloc (Nat.le_refl _) _
    have H5:=Lib.hid (show Blk wt wr.heap.size 196 #[.string ⟨(kl T.K j).1.toArray⟩,.string ⟨(kl T.K j).2.toArray⟩] from ewt▸Blk.new wr _ _)
    have HPT:=Lib.hid (show w8.heap.size≤wr.heap.size from HGS.out)
    rw[←ewt]
    clear ewt q0 q1
    replace HX:=Lib.hid (HX.out.below hb);replace HOP:=Lib.hid (HOP.out.below hb);replace HG:=Lib.hid (g_more HG.out (hb.mono HGS.out));replace HGS:=Lib.hid (Nat.le_trans HGS.out hb.size)
    have HG8:=Lib.hid (show P3<wr.heap.size by have:=HP8.out;have:=HPT.out;omega)
    clear hb
    obtain⟨PT,ePT⟩:∃z,z=wr.heap.size:=⟨_,rfl⟩
    rw[←ePT] at H5 HPT HOWN HG8⊢
    clear ePT hlt8 hkk hjm hcz hbz hbn
    refine Reg.any_begin (fun w'=>Blk w' PT 196 #[.string ⟨(kl T.K j).1.toArray⟩,.string ⟨(kl T.K j).2.toArray⟩]) 13 rfl (by kernel_rfl) (H5.out.drewN 1) ?_
    replace HX:=Lib.hid (show Blk wt.drew _ _ _ from HX.out.drewN 1)
    replace H5:=Lib.hid (show Blk wt.drew _ _ _ from H5.out.drewN 1)
    replace HOP:=Lib.hid (show OwnP wt.drew _ _ _ from HOP.out.below (below_drewN (Below.refl _ _) 1))
    replace HG:=Lib.hid (g_drew HG.out)
    replace HGS:=Lib.hid (show w8.heap.size≤wt.drew.heap.size from HGS.out)
    obtain⟨W9,eW9⟩:∃z,z=wt.drew:=⟨_,rfl⟩
    rw[←eW9] at HX H5 HOP HG HGS⊢
    clear eW9
    refine Reg.any_take 0 (v:=?vt1) rfl (by kernel_rfl) (by kernel_rfl) (by kernel_rfl) (fun _ _ _ h=>h) H5.out (by rfl) (fun w' hS=>?ht1) ?rt1
    case ht1=>go_simp<;>rfl
    simp only[Act.put,List.setIfInBounds_toArray,List.set_cons_zero,List.set_cons_succ]
    refine Reg.any_take 2 (v:=?vt2) rfl (by kernel_rfl) (by kernel_rfl) (by kernel_rfl) (fun _ _ _ h=>h) H5.out (by rfl) (fun w' hS=>?ht2) ?rt2
    case ht2=>go_simp<;>rfl
    simp only[Act.put,List.setIfInBounds_toArray,List.set_cons_zero,List.set_cons_succ]
    refine Reg.any_take 3 (v:=?vt3) rfl (by kernel_rfl) (by kernel_rfl) (by kernel_rfl) (fun _ _ _ h=>h) H5.out (by rfl) (fun w' hS=>?ht3) ?rt3
    case ht3=>have k1:=Blk.cell hS 0;go_simp<;>rfl
    simp only[Act.put,List.setIfInBounds_toArray,List.set_cons_zero,List.set_cons_succ]
    refine Reg.any_take 5 (v:=?vt4) rfl (by kernel_rfl) (by kernel_rfl) (by kernel_rfl) (fun _ _ _ h=>h) H5.out (by rfl) (fun w' hS=>?ht4) ?rt4
    case ht4=>go_simp<;>rfl
    simp only[Act.put,List.setIfInBounds_toArray,List.set_cons_zero,List.set_cons_succ]
    refine Reg.any_take 6 (v:=?vt5) rfl (by kernel_rfl) (by kernel_rfl) (by kernel_rfl) (fun _ _ _ h=>h) H5.out (by rfl) (fun w' hS=>?ht5) ?rt5
    case ht5=>have k1:=Blk.cell hS 1;go_simp<;>rfl
    simp only[Act.put,List.setIfInBounds_toArray,List.set_cons_zero,List.set_cons_succ]
    refine Reg.both_all [1,4] (by kernel_rfl) (by simp) ?_
    intro j0 hj0
    have hj0:j0=1∨j0=4:=by simpa using hj0
    rcases hj0 with rfl | rfl
    ·left
     have k1:W9.cell? ⟨P3,1,none⟩=some (.slice A8 K.length c8):=HX.out.cell 1
     refine⟨_,_,_,_,_,_,_,W9,rfl,by rfl,by(go_simp;rfl),H5.out,?_⟩
     simp only[Act.put,List.setIfInBounds_toArray,List.set_cons_zero,List.set_cons_succ]
     clear k1
     refine Reg.both_all [4] (by kernel_rfl) (by simp) ?_
     intro j0 hj0
     obtain rfl:j0=4:=by simpa using hj0
     clear hj0
     right
     refine⟨_,_,_,_,_,_,94,#[.string ⟨(kl T.K j).1.toArray⟩],rfl,by rfl,by go_simp,?_⟩
     refine Calls.mono (CL1.out W9) ?_
     rintro e wc1 ⟨rfl,hb⟩
     have hb:=hb
     replace HX:=Lib.hid (HX.out.below hb)
     replace H5:=Lib.hid (H5.out.below hb)
     replace HOP:=Lib.hid (HOP.out.below hb)
     replace HG:=Lib.hid (g_more HG.out (hb.mono HGS.out))
     replace HGS:=Lib.hid (Nat.le_trans HGS.out hb.size)
     clear hb
     refine⟨_,rfl,H5.out,?_⟩
     simp only[Act.put,List.setIfInBounds_toArray,List.set_cons_zero,List.set_cons_succ]
     refine Reg.both_all [7] (by kernel_rfl) (by simp) ?_
     intro j0 hj0
     obtain rfl:j0=7:=by simpa using hj0
     clear hj0
     right
     refine⟨_,_,_,_,_,_,94,#[.string ⟨(kl T.K j).2.toArray⟩],rfl,by rfl,by go_simp,?_⟩
     refine Calls.mono (CL2.out wc1) ?_
     rintro e wc2 ⟨rfl,hb⟩
     have hb:=hb
     replace HX:=Lib.hid (HX.out.below hb)
     replace H5:=Lib.hid (H5.out.below hb)
     replace HOP:=Lib.hid (HOP.out.below hb)
     replace HG:=Lib.hid (g_more HG.out (hb.mono HGS.out))
     replace HGS:=Lib.hid (Nat.le_trans HGS.out hb.size)
     clear hb
     refine⟨_,rfl,H5.out,?_⟩
     simp only[Act.put,List.setIfInBounds_toArray,List.set_cons_zero,List.set_cons_succ]
     refine Reg.any_take 8 (v:=?vt6) rfl (by kernel_rfl) (by kernel_rfl) (by kernel_rfl) (fun _ _ _ h=>h) H5.out (by rfl) (fun w' hS=>?ht6) ?rt6
     case ht6=>go_simp<;>rfl
     simp only[Act.put,List.setIfInBounds_toArray,List.set_cons_zero,List.set_cons_succ]
     refine Reg.both_all [9] (by kernel_rfl) (by simp) ?_
     intro j0 hj0
     obtain rfl:j0=9:=by simpa using hj0
     clear hj0
     left
     have hb:Below wc2.heap.size wc2 (wc2.alloc (.cells #[.string ⟨(kl T.K j).1.toArray⟩,.string ⟨(kl T.K j).2.toArray⟩] 196)):=(Below.refl _ _).alloc (Nat.le_refl _) _
     have hnb:=Blk.new wc2 196 #[.string ⟨(kl T.K j).1.toArray⟩,.string ⟨(kl T.K j).2.toArray⟩]
     refine⟨_,_,_,_,_,_,.slice (some ⟨wc2.heap.size,0,none⟩) 1 1,wc2.alloc (.cells #[.string ⟨(kl T.K j).1.toArray⟩,.string ⟨(kl T.K j).2.toArray⟩] 196),rfl,by rfl,(by go_simp<;>rfl),H5.out.below hb,?_⟩
     simp only[Act.put,List.setIfInBounds_toArray,List.set_cons_zero,List.set_cons_succ]
     obtain⟨wb,ewb⟩:∃z,z=wc2.alloc (.cells #[.string ⟨(kl T.K j).1.toArray⟩,.string ⟨(kl T.K j).2.toArray⟩] 196):=⟨_,rfl⟩
     rw[←ewb] at hb hnb⊢
     clear ewb
     obtain⟨PB,ePB⟩:∃z,z=wc2.heap.size:=⟨_,rfl⟩
     rw[←ePB] at hnb⊢
     clear ePB
     have HN:=Lib.hid hnb
     clear hnb
     have hb:=hb
     replace HX:=Lib.hid (HX.out.below hb)
     replace H5:=Lib.hid (H5.out.below hb)
     replace HOP:=Lib.hid (HOP.out.below hb)
     replace HG:=Lib.hid (g_more HG.out (hb.mono HGS.out))
     replace HGS:=Lib.hid (Nat.le_trans HGS.out hb.size)
     clear hb
     refine Reg.both_all [10] (by kernel_rfl) (by simp) ?_
     intro j0 hj0
     obtain rfl:j0=10:=by simpa using hj0
     clear hj0
     left
     obtain⟨v9,w9,hrun,ho9,hb9,hg9⟩:=ap_pr2 wb w8.heap.size (.slice A8 K.length c8) K HOP.out (kl T.K j) PB (HN.out.cell 0) (HN.out.cell 1) (by have:=HL.out;omega) HGS.out
     have h5:Blk w9 PT 196 _:=H5.out.grown hg9 (fun e=>by have:=(HOWN.out PT e);have:=HPT.out;omega)
     refine⟨_,_,_,_,_,_,v9,w9,rfl,by rfl,by(simp only[execOp,resolve,invoke,builtin,Sem.run_bind,Sem.run_pure,Result.andThen_ok,List.map_toArray,List.map_cons,List.map_nil,Act.eval];refine(congrArg (fun r=>Result.andThen r _) hrun).trans ?_;rfl),h5,?_⟩
     simp only[Act.put,List.setIfInBounds_toArray,List.set_cons_zero,List.set_cons_succ]
     replace H5:=Lib.hid h5
     replace HX:=Lib.hid (show Blk w9 P3 60 _ from(hb9.block _ HP8.out).trans HX.out)
     replace HG:=Lib.hid (g_more HG.out hb9)
     replace HGS:=Lib.hid (Nat.le_trans HGS.out hb9.size)
     obtain⟨A7,c7,e7,_⟩:=ho9.slice
     rw[show(K++[kl T.K j]).length=K.length+1 by simp] at e7
     subst e7
     replace HOP:=Lib.hid ho9
     clear hrun ho9 hb9 hg9 h5 HN HOWN
     refine Reg.any_take 11 (v:=?vt7) rfl (by kernel_rfl) (by kernel_rfl) (by kernel_rfl) (fun _ _ _ h=>h) H5.out (by rfl) (fun w' hS=>?ht7) ?rt7
     case ht7=>go_simp<;>rfl
     simp only[Act.put,List.setIfInBounds_toArray,List.set_cons_zero,List.set_cons_succ]
     have f0:=HX.out.frozen 1
     have k9:w9.cell? ⟨P3,1,none⟩=some (.slice A8 K.length c8):=HX.out.cell 1
     refine Reg.any_store 12 (w9.setCell ⟨P3,1,none⟩ (.slice A7 (K.length+1) c7)) rfl (by kernel_rfl) (by rfl) (by go_simp) (Si.Blk.far H5.out _ _ (show P3≠PT by have:=HPT.out;have:=HP8.out;have:=HG8.out;omega)) ?_
     simp only[Act.put,List.setIfInBounds_toArray,List.set_cons_zero,List.set_cons_succ]
     refine wpAnyH_done (by kernel_rfl) ?_ _
     have HX3:=Lib.hid (HX.out.set 1 (.slice A7 (K.length+1) c7))
     have HO3:=Lib.hid (ownp_put2 (j:=1) (u:=.slice A7 (K.length+1) c7) HOP.out (show P3<w8.heap.size from HP8.out))
     have HG3:=Lib.hid (g_set HG.out (p:=⟨P3,1,none⟩) (.inl rfl) (.slice A7 (K.length+1) c7))
     clear f0 k9
     rw[←HSN.out] at HO3
     go_wp2
     go_roundw
     case rel=>exact⟨j+1,_,by omega,by go_num,HX3.out,HO3.out,HG3.out⟩
     case measure=>simp [intOf];omega
    ·right
     refine⟨_,_,_,_,_,_,94,#[.string ⟨(kl T.K j).1.toArray⟩],rfl,by rfl,by go_simp,?_⟩
     refine Calls.mono (CL1.out W9) ?_
     rintro e wc1 ⟨rfl,hb⟩
     have hb:=hb
     replace HX:=Lib.hid (HX.out.below hb)
     replace H5:=Lib.hid (H5.out.below hb)
     replace HOP:=Lib.hid (HOP.out.below hb)
     replace HG:=Lib.hid (g_more HG.out (hb.mono HGS.out))
     replace HGS:=Lib.hid (Nat.le_trans HGS.out hb.size)
     clear hb
     refine⟨_,rfl,H5.out,?_⟩
     simp only[Act.put,List.setIfInBounds_toArray,List.set_cons_zero,List.set_cons_succ]
     refine Reg.both_all [1,7] (by kernel_rfl) (by simp) ?_
     intro j0 hj0
     have hj0:j0=1∨j0=7:=by simpa using hj0
     rcases hj0 with rfl | rfl
     ·left
      have k1:wc1.cell? ⟨P3,1,none⟩=some (.slice A8 K.length c8):=HX.out.cell 1
      refine⟨_,_,_,_,_,_,_,wc1,rfl,by rfl,by(go_simp;rfl),H5.out,?_⟩
      simp only[Act.put,List.setIfInBounds_toArray,List.set_cons_zero,List.set_cons_succ]
      clear k1
      refine Reg.both_all [7] (by kernel_rfl) (by simp) ?_
      intro j0 hj0
      obtain rfl:j0=7:=by simpa using hj0
      clear hj0
      right
      refine⟨_,_,_,_,_,_,94,#[.string ⟨(kl T.K j).2.toArray⟩],rfl,by rfl,by go_simp,?_⟩
      refine Calls.mono (CL2.out wc1) ?_
      rintro e wc2 ⟨rfl,hb⟩
      have hb:=hb
      replace HX:=Lib.hid (HX.out.below hb)
      replace H5:=Lib.hid (H5.out.below hb)
      replace HOP:=Lib.hid (HOP.out.below hb)
      replace HG:=Lib.hid (g_more HG.out (hb.mono HGS.out))
      replace HGS:=Lib.hid (Nat.le_trans HGS.out hb.size)
      clear hb
      refine⟨_,rfl,H5.out,?_⟩
      simp only[Act.put,List.setIfInBounds_toArray,List.set_cons_zero,List.set_cons_succ]
      refine Reg.any_take 8 (v:=?vt8) rfl (by kernel_rfl) (by kernel_rfl) (by kernel_rfl) (fun _ _ _ h=>h) H5.out (by rfl) (fun w' hS=>?ht8) ?rt8
      case ht8=>go_simp<;>rfl
      simp only[Act.put,List.setIfInBounds_toArray,List.set_cons_zero,List.set_cons_succ]
      refine Reg.both_all [9] (by kernel_rfl) (by simp) ?_
      intro j0 hj0
      obtain rfl:j0=9:=by simpa using hj0
      clear hj0
      left
      have hb:Below wc2.heap.size wc2 (wc2.alloc (.cells #[.string ⟨(kl T.K j).1.toArray⟩,.string ⟨(kl T.K j).2.toArray⟩] 196)):=(Below.refl _ _).alloc (Nat.le_refl _) _
      have hnb:=Blk.new wc2 196 #[.string ⟨(kl T.K j).1.toArray⟩,.string ⟨(kl T.K j).2.toArray⟩]
      refine⟨_,_,_,_,_,_,.slice (some ⟨wc2.heap.size,0,none⟩) 1 1,wc2.alloc (.cells #[.string ⟨(kl T.K j).1.toArray⟩,.string ⟨(kl T.K j).2.toArray⟩] 196),rfl,by rfl,(by go_simp<;>rfl),H5.out.below hb,?_⟩
      simp only[Act.put,List.setIfInBounds_toArray,List.set_cons_zero,List.set_cons_succ]
      obtain⟨wb,ewb⟩:∃z,z=wc2.alloc (.cells #[.string ⟨(kl T.K j).1.toArray⟩,.string ⟨(kl T.K j).2.toArray⟩] 196):=⟨_,rfl⟩
      rw[←ewb] at hb hnb⊢
      clear ewb
      obtain⟨PB,ePB⟩:∃z,z=wc2.heap.size:=⟨_,rfl⟩
      rw[←ePB] at hnb⊢
      clear ePB
      have HN:=Lib.hid hnb
      clear hnb
      have hb:=hb
      replace HX:=Lib.hid (HX.out.below hb)
      replace H5:=Lib.hid (H5.out.below hb)
      replace HOP:=Lib.hid (HOP.out.below hb)
      replace HG:=Lib.hid (g_more HG.out (hb.mono HGS.out))
      replace HGS:=Lib.hid (Nat.le_trans HGS.out hb.size)
      clear hb
      refine Reg.both_all [10] (by kernel_rfl) (by simp) ?_
      intro j0 hj0
      obtain rfl:j0=10:=by simpa using hj0
      clear hj0
      left
      obtain⟨v9,w9,hrun,ho9,hb9,hg9⟩:=ap_pr2 wb w8.heap.size (.slice A8 K.length c8) K HOP.out (kl T.K j) PB (HN.out.cell 0) (HN.out.cell 1) (by have:=HL.out;omega) HGS.out
      have h5:Blk w9 PT 196 _:=H5.out.grown hg9 (fun e=>by have:=(HOWN.out PT e);have:=HPT.out;omega)
      refine⟨_,_,_,_,_,_,v9,w9,rfl,by rfl,by(simp only[execOp,resolve,invoke,builtin,Sem.run_bind,Sem.run_pure,Result.andThen_ok,List.map_toArray,List.map_cons,List.map_nil,Act.eval];refine(congrArg (fun r=>Result.andThen r _) hrun).trans ?_;rfl),h5,?_⟩
      simp only[Act.put,List.setIfInBounds_toArray,List.set_cons_zero,List.set_cons_succ]
      replace H5:=Lib.hid h5
      replace HX:=Lib.hid (show Blk w9 P3 60 _ from(hb9.block _ HP8.out).trans HX.out)
      replace HG:=Lib.hid (g_more HG.out hb9)
      replace HGS:=Lib.hid (Nat.le_trans HGS.out hb9.size)
      obtain⟨A7,c7,e7,_⟩:=ho9.slice
      rw[show(K++[kl T.K j]).length=K.length+1 by simp] at e7
      subst e7
      replace HOP:=Lib.hid ho9
      clear hrun ho9 hb9 hg9 h5 HN HOWN
      refine Reg.any_take 11 (v:=?vt9) rfl (by kernel_rfl) (by kernel_rfl) (by kernel_rfl) (fun _ _ _ h=>h) H5.out (by rfl) (fun w' hS=>?ht9) ?rt9
      case ht9=>go_simp<;>rfl
      simp only[Act.put,List.setIfInBounds_toArray,List.set_cons_zero,List.set_cons_succ]
      have f0:=HX.out.frozen 1
      have k9:w9.cell? ⟨P3,1,none⟩=some (.slice A8 K.length c8):=HX.out.cell 1
      refine Reg.any_store 12 (w9.setCell ⟨P3,1,none⟩ (.slice A7 (K.length+1) c7)) rfl (by kernel_rfl) (by rfl) (by go_simp) (Si.Blk.far H5.out _ _ (show P3≠PT by have:=HPT.out;have:=HP8.out;have:=HG8.out;omega)) ?_
      simp only[Act.put,List.setIfInBounds_toArray,List.set_cons_zero,List.set_cons_succ]
      refine wpAnyH_done (by kernel_rfl) ?_ _
      have HX3:=Lib.hid (HX.out.set 1 (.slice A7 (K.length+1) c7))
      have HO3:=Lib.hid (ownp_put2 (j:=1) (u:=.slice A7 (K.length+1) c7) HOP.out (show P3<w8.heap.size from HP8.out))
      have HG3:=Lib.hid (g_set HG.out (p:=⟨P3,1,none⟩) (.inl rfl) (.slice A7 (K.length+1) c7))
      clear f0 k9
      rw[←HSN.out] at HO3
      go_wp2
      go_roundw
      case rel=>exact⟨j+1,_,by omega,by go_num,HX3.out,HO3.out,HG3.out⟩
      case measure=>simp [intOf];omega
     ·right
      refine⟨_,_,_,_,_,_,94,#[.string ⟨(kl T.K j).2.toArray⟩],rfl,by rfl,by go_simp,?_⟩
      refine Calls.mono (CL2.out wc1) ?_
      rintro e wc2 ⟨rfl,hb⟩
      have hb:=hb
      replace HX:=Lib.hid (HX.out.below hb)
      replace H5:=Lib.hid (H5.out.below hb)
      replace HOP:=Lib.hid (HOP.out.below hb)
      replace HG:=Lib.hid (g_more HG.out (hb.mono HGS.out))
      replace HGS:=Lib.hid (Nat.le_trans HGS.out hb.size)
      clear hb
      refine⟨_,rfl,H5.out,?_⟩
      simp only[Act.put,List.setIfInBounds_toArray,List.set_cons_zero,List.set_cons_succ]
      refine Reg.any_take 8 (v:=?vt10) rfl (by kernel_rfl) (by kernel_rfl) (by kernel_rfl) (fun _ _ _ h=>h) H5.out (by rfl) (fun w' hS=>?ht10) ?rt10
      case ht10=>go_simp<;>rfl
      simp only[Act.put,List.setIfInBounds_toArray,List.set_cons_zero,List.set_cons_succ]
      refine Reg.both_all [1,9] (by kernel_rfl) (by simp) ?_
      intro j0 hj0
      have hj0:j0=1∨j0=9:=by simpa using hj0
      rcases hj0 with rfl | rfl
      ·left
       have k1:wc2.cell? ⟨P3,1,none⟩=some (.slice A8 K.length c8):=HX.out.cell 1
       refine⟨_,_,_,_,_,_,_,wc2,rfl,by rfl,by(go_simp;rfl),H5.out,?_⟩
       simp only[Act.put,List.setIfInBounds_toArray,List.set_cons_zero,List.set_cons_succ]
       clear k1
       refine Reg.both_all [9] (by kernel_rfl) (by simp) ?_
       intro j0 hj0
       obtain rfl:j0=9:=by simpa using hj0
       clear hj0
       left
       have hb:Below wc2.heap.size wc2 (wc2.alloc (.cells #[.string ⟨(kl T.K j).1.toArray⟩,.string ⟨(kl T.K j).2.toArray⟩] 196)):=(Below.refl _ _).alloc (Nat.le_refl _) _
       have hnb:=Blk.new wc2 196 #[.string ⟨(kl T.K j).1.toArray⟩,.string ⟨(kl T.K j).2.toArray⟩]
       refine⟨_,_,_,_,_,_,.slice (some ⟨wc2.heap.size,0,none⟩) 1 1,wc2.alloc (.cells #[.string ⟨(kl T.K j).1.toArray⟩,.string ⟨(kl T.K j).2.toArray⟩] 196),rfl,by rfl,(by go_simp<;>rfl),H5.out.below hb,?_⟩
       simp only[Act.put,List.setIfInBounds_toArray,List.set_cons_zero,List.set_cons_succ]
       obtain⟨wb,ewb⟩:∃z,z=wc2.alloc (.cells #[.string ⟨(kl T.K j).1.toArray⟩,.string ⟨(kl T.K j).2.toArray⟩] 196):=⟨_,rfl⟩
       rw[←ewb] at hb hnb⊢
       clear ewb
       obtain⟨PB,ePB⟩:∃z,z=wc2.heap.size:=⟨_,rfl⟩
       rw[←ePB] at hnb⊢
       clear ePB
       have HN:=Lib.hid hnb
       clear hnb
       have hb:=hb
       replace HX:=Lib.hid (HX.out.below hb)
       replace H5:=Lib.hid (H5.out.below hb)
       replace HOP:=Lib.hid (HOP.out.below hb)
       replace HG:=Lib.hid (g_more HG.out (hb.mono HGS.out))
       replace HGS:=Lib.hid (Nat.le_trans HGS.out hb.size)
       clear hb
       refine Reg.both_all [10] (by kernel_rfl) (by simp) ?_
       intro j0 hj0
       obtain rfl:j0=10:=by simpa using hj0
       clear hj0
       left
       obtain⟨v9,w9,hrun,ho9,hb9,hg9⟩:=ap_pr2 wb w8.heap.size (.slice A8 K.length c8) K HOP.out (kl T.K j) PB (HN.out.cell 0) (HN.out.cell 1) (by have:=HL.out;omega) HGS.out
       have h5:Blk w9 PT 196 _:=H5.out.grown hg9 (fun e=>by have:=(HOWN.out PT e);have:=HPT.out;omega)
       refine⟨_,_,_,_,_,_,v9,w9,rfl,by rfl,by(simp only[execOp,resolve,invoke,builtin,Sem.run_bind,Sem.run_pure,Result.andThen_ok,List.map_toArray,List.map_cons,List.map_nil,Act.eval];refine(congrArg (fun r=>Result.andThen r _) hrun).trans ?_;rfl),h5,?_⟩
       simp only[Act.put,List.setIfInBounds_toArray,List.set_cons_zero,List.set_cons_succ]
       replace H5:=Lib.hid h5
       replace HX:=Lib.hid (show Blk w9 P3 60 _ from(hb9.block _ HP8.out).trans HX.out)
       replace HG:=Lib.hid (g_more HG.out hb9)
       replace HGS:=Lib.hid (Nat.le_trans HGS.out hb9.size)
       obtain⟨A7,c7,e7,_⟩:=ho9.slice
       rw[show(K++[kl T.K j]).length=K.length+1 by simp] at e7
       subst e7
       replace HOP:=Lib.hid ho9
       clear hrun ho9 hb9 hg9 h5 HN HOWN
       refine Reg.any_take 11 (v:=?vt11) rfl (by kernel_rfl) (by kernel_rfl) (by kernel_rfl) (fun _ _ _ h=>h) H5.out (by rfl) (fun w' hS=>?ht11) ?rt11
       case ht11=>go_simp<;>rfl
       simp only[Act.put,List.setIfInBounds_toArray,List.set_cons_zero,List.set_cons_succ]
       have f0:=HX.out.frozen 1
       have k9:w9.cell? ⟨P3,1,none⟩=some (.slice A8 K.length c8):=HX.out.cell 1
       refine Reg.any_store 12 (w9.setCell ⟨P3,1,none⟩ (.slice A7 (K.length+1) c7)) rfl (by kernel_rfl) (by rfl) (by go_simp) (Si.Blk.far H5.out _ _ (show P3≠PT by have:=HPT.out;have:=HP8.out;have:=HG8.out;omega)) ?_
       simp only[Act.put,List.setIfInBounds_toArray,List.set_cons_zero,List.set_cons_succ]
       refine wpAnyH_done (by kernel_rfl) ?_ _
       have HX3:=Lib.hid (HX.out.set 1 (.slice A7 (K.length+1) c7))
       have HO3:=Lib.hid (ownp_put2 (j:=1) (u:=.slice A7 (K.length+1) c7) HOP.out (show P3<w8.heap.size from HP8.out))
       have HG3:=Lib.hid (g_set HG.out (p:=⟨P3,1,none⟩) (.inl rfl) (.slice A7 (K.length+1) c7))
       clear f0 k9
       rw[←HSN.out] at HO3
       go_wp2
       go_roundw
       case rel=>exact⟨j+1,_,by omega,by go_num,HX3.out,HO3.out,HG3.out⟩
       case measure=>simp [intOf];omega
      ·left
       have hb:Below wc2.heap.size wc2 (wc2.alloc (.cells #[.string ⟨(kl T.K j).1.toArray⟩,.string ⟨(kl T.K j).2.toArray⟩] 196)):=(Below.refl _ _).alloc (Nat.le_refl _) _
       have hnb:=Blk.new wc2 196 #[.string ⟨(kl T.K j).1.toArray⟩,.string ⟨(kl T.K j).2.toArray⟩]
       refine⟨_,_,_,_,_,_,.slice (some ⟨wc2.heap.size,0,none⟩) 1 1,wc2.alloc (.cells #[.string ⟨(kl T.K j).1.toArray⟩,.string ⟨(kl T.K j).2.toArray⟩] 196),rfl,by rfl,(by go_simp<;>rfl),H5.out.below hb,?_⟩
       simp only[Act.put,List.setIfInBounds_toArray,List.set_cons_zero,List.set_cons_succ]
       obtain⟨wb,ewb⟩:∃z,z=wc2.alloc (.cells #[.string ⟨(kl T.K j).1.toArray⟩,.string ⟨(kl T.K j).2.toArray⟩] 196):=⟨_,rfl⟩
       rw[←ewb] at hb hnb⊢
       clear ewb
       obtain⟨PB,ePB⟩:∃z,z=wc2.heap.size:=⟨_,rfl⟩
       rw[←ePB] at hnb⊢
       clear ePB
       have HN:=Lib.hid hnb
       clear hnb
       have hb:=hb
       replace HX:=Lib.hid (HX.out.below hb)
       replace H5:=Lib.hid (H5.out.below hb)
       replace HOP:=Lib.hid (HOP.out.below hb)
       replace HG:=Lib.hid (g_more HG.out (hb.mono HGS.out))
       replace HGS:=Lib.hid (Nat.le_trans HGS.out hb.size)
       clear hb
       refine Reg.both_all [1] (by kernel_rfl) (by simp) ?_
       intro j0 hj0
       obtain rfl:j0=1:=by simpa using hj0
       clear hj0
       left
       have k1:wb.cell? ⟨P3,1,none⟩=some (.slice A8 K.length c8):=HX.out.cell 1
       refine⟨_,_,_,_,_,_,_,wb,rfl,by rfl,by(go_simp;rfl),H5.out,?_⟩
       simp only[Act.put,List.setIfInBounds_toArray,List.set_cons_zero,List.set_cons_succ]
       clear k1
       refine Reg.both_all [10] (by kernel_rfl) (by simp) ?_
       intro j0 hj0
       obtain rfl:j0=10:=by simpa using hj0
       clear hj0
       left
       obtain⟨v9,w9,hrun,ho9,hb9,hg9⟩:=ap_pr2 wb w8.heap.size (.slice A8 K.length c8) K HOP.out (kl T.K j) PB (HN.out.cell 0) (HN.out.cell 1) (by have:=HL.out;omega) HGS.out
       have h5:Blk w9 PT 196 _:=H5.out.grown hg9 (fun e=>by have:=(HOWN.out PT e);have:=HPT.out;omega)
       refine⟨_,_,_,_,_,_,v9,w9,rfl,by rfl,by(simp only[execOp,resolve,invoke,builtin,Sem.run_bind,Sem.run_pure,Result.andThen_ok,List.map_toArray,List.map_cons,List.map_nil,Act.eval];refine(congrArg (fun r=>Result.andThen r _) hrun).trans ?_;rfl),h5,?_⟩
       simp only[Act.put,List.setIfInBounds_toArray,List.set_cons_zero,List.set_cons_succ]
       replace H5:=Lib.hid h5
       replace HX:=Lib.hid (show Blk w9 P3 60 _ from(hb9.block _ HP8.out).trans HX.out)
       replace HG:=Lib.hid (g_more HG.out hb9)
       replace HGS:=Lib.hid (Nat.le_trans HGS.out hb9.size)
       obtain⟨A7,c7,e7,_⟩:=ho9.slice
       rw[show(K++[kl T.K j]).length=K.length+1 by simp] at e7
       subst e7
       replace HOP:=Lib.hid ho9
       clear hrun ho9 hb9 hg9 h5 HN HOWN
       refine Reg.any_take 11 (v:=?vt12) rfl (by kernel_rfl) (by kernel_rfl) (by kernel_rfl) (fun _ _ _ h=>h) H5.out (by rfl) (fun w' hS=>?ht12) ?rt12
       case ht12=>go_simp<;>rfl
       simp only[Act.put,List.setIfInBounds_toArray,List.set_cons_zero,List.set_cons_succ]
       have f0:=HX.out.frozen 1
       have k9:w9.cell? ⟨P3,1,none⟩=some (.slice A8 K.length c8):=HX.out.cell 1
       refine Reg.any_store 12 (w9.setCell ⟨P3,1,none⟩ (.slice A7 (K.length+1) c7)) rfl (by kernel_rfl) (by rfl) (by go_simp) (Si.Blk.far H5.out _ _ (show P3≠PT by have:=HPT.out;have:=HP8.out;have:=HG8.out;omega)) ?_
       simp only[Act.put,List.setIfInBounds_toArray,List.set_cons_zero,List.set_cons_succ]
       refine wpAnyH_done (by kernel_rfl) ?_ _
       have HX3:=Lib.hid (HX.out.set 1 (.slice A7 (K.length+1) c7))
       have HO3:=Lib.hid (ownp_put2 (j:=1) (u:=.slice A7 (K.length+1) c7) HOP.out (show P3<w8.heap.size from HP8.out))
       have HG3:=Lib.hid (g_set HG.out (p:=⟨P3,1,none⟩) (.inl rfl) (.slice A7 (K.length+1) c7))
       clear f0 k9
       rw[←HSN.out] at HO3
       go_wp2
       go_roundw
       case rel=>exact⟨j+1,_,by omega,by go_num,HX3.out,HO3.out,HG3.out⟩
       case measure=>simp [intOf];omega
  ·have e1:¬(j:Int)<(m:Int):=by omega
   have hjm:T.K.length≤j:=by rw[←EM.out];omega
   have ek:K=T.K:=by rw[HEK.out,List.take_of_length_le hjm]
   rw[ek] at HOP
   have hPW:=HW6.out;have hP8:=HP8.out
   have HZ9:=Lib.hid (HZ.out.grown HG.out (fun e=>by injection e with e;omega))
   have HT9:=Lib.hid (HT.out.grown HG.out (fun e=>by injection e with e;omega))
   have kt2:=HT9.out.cell 2
   have kx0:=HX.out.cell 0
   have kx1:=HX.out.cell 1
   have kx2:=HX.out.cell 2
   have kz0:=HZ9.out.cell 0
   have kz1:=HZ9.out.cell 1
   have kz2:=HZ9.out.cell 2
   have fz:=HZ9.out.frozen
   clear hPW hP8 ek hjm
   go_wp2
   go_loopw [35] (fun iv wq=>iv = .int .i64 0∧wq=wr) (fun _ _=>0)
   case atStart=>exact⟨rfl,rfl⟩
   case round=>
    obtain⟨rfl,rfl⟩:=hrel
    go_wp2
    refine bodyPost_ret (v:=.agg (tpA (.slice A6 n c6) (.slice A8 K.length c8))) ?_ ?_ ?_
    ·exact Wh.results_cell (v:=.agg (tpA (.slice A6 n c6) (.slice A8 K.length c8))) 2 60 ⟨w.heap.size+1,0,none⟩ Tryz.results95 rfl (Wh.load_blk (((HZ9.out.set 0 _).set 1 _).set 2 _) Tryz.underlying60 (by rfl) (by kernel_rfl))
    ·rfl
    ·have hPW:=HW6.out;have hP8:=HP8.out;have hHW:=HW.out;have hZL:=HZL.out
     have hfar:∀k,k≠w.heap.size+1→(((wr.setCell ⟨w.heap.size+1,0,none⟩ (.slice A6 n c6)).setCell ⟨w.heap.size+1,1,none⟩ (.slice A8 K.length c8)).setCell ⟨w.heap.size+1,2,none⟩ (.slice none 0 0)).heap[k]? = wr.heap[k]?:=fun k hk=>
      (Below.heap_setCell _ _ _ k (fun e=>by simp only at e;omega)).trans ((Below.heap_setCell _ _ _ k (fun e=>by simp only at e;omega)).trans (Below.heap_setCell _ _ _ k (fun e=>by simp only at e;omega)))
     have hKT:K=T.K:=by rw[HEK.out,List.take_of_length_le (by rw[←EM.out];omega)]
     rw[←hKT] at HOP
     have hsz:(((wr.setCell ⟨w.heap.size+1,0,none⟩ (.slice A6 n c6)).setCell ⟨w.heap.size+1,1,none⟩ (.slice A8 K.length c8)).setCell ⟨w.heap.size+1,2,none⟩ (.slice none 0 0)).heap.size=wr.heap.size:=by simp
     refine⟨_,_,rfl,⟨?_,?_,rfl,HPN.out⟩,?_⟩
     ·refine own_slk HO.out HOL.out (fun k h1 h2=>⟨by omega,by rw[hsz];have:=HGS.out;omega⟩) (fun k o h1 h2=>World.cell?_of_block (a:=⟨k,o,none⟩) ((hfar k (by omega)).trans (HG.out.block k (by omega) (fun e=>by injection e with e;omega))))
     ·rw[←hKT]
      refine ownp_spk HOP.out (fun k h1 h2=>⟨by omega,by rw[hsz];omega⟩) (fun k o h1 h2=>World.cell?_of_block (a:=⟨k,o,none⟩) (hfar k (by omega)))
     ·exact Si.below_set (Si.below_set (Si.below_set (HB.out.grown HG.out (by omega) (fun k hk=>by injection hk with hk;omega)) (by simp) _) (by simp) _) (by simp) _
end Go.Proofs.YtfcjeebnkigeaaaGreat.Kd
end

section
set_option linter.unusedVariables false
set_option linter.unusedSimpArgs false
namespace Go.Proofs.YtfcjeebnkigeaaaGreat.Kd
open Go.RowKit Go.Proofs.YtfcjeebnkigeaaaGreat.Mem Go.Proofs.YtfcjeebnkigeaaaGreat.Se
open Go.Proofs.YtfcjeebnkigeaaaGreat.Nm (krb strs)
open Go.Proofs.YtfcjeebnkigeaaaGreat.Rt (SlV SlP RdP kl)
abbrev z2:Array Value:=#[.string ⟨#[]⟩,.string ⟨#[]⟩]
set_option maxHeartbeats 1600000 in
theorem l_client (w:World):Calls Tryz.prog 27 #[] w fun e w'=>e = .returned (prV pAnn)∧Below w.heap.size w w':=by
 obtain⟨W,eW⟩:∃W,W=w.alloc (.cells z2 27):=⟨_,rfl⟩
 have HZ:=Lib.hid (show Blk W w.heap.size 27 z2 from eW▸Blk.new w _ _)
 have HB:=Lib.hid (show Below w.heap.size w W from eW▸(Below.refl _ _).alloc (Nat.le_refl _) _)
 go_enter Tryz.func27,Tryz.ntmps27
 go_upto_region 1 with fail
 rw[←eW]
 clear eW
 have kz0:=HZ.out.cell 0
 have kz1:=HZ.out.cell 1
 have fz:=HZ.out.frozen
 go_wp2
 have hz:Blk _ w.heap.size 27 #[.string ⟨pAnn.1.toArray⟩,.string ⟨pAnn.2.toArray⟩]:=(HZ.out.set 0 (.string ⟨pAnn.1.toArray⟩)).set 1 (.string ⟨pAnn.2.toArray⟩)
 refine bodyPost_ret (v:=prV pAnn) ?_ ?_ ?_
 ·exact Wh.results_cell (v:=prV pAnn) 0 27 ⟨w.heap.size,0,none⟩ Tryz.results27 (by rfl) (Wh.load_blk hz Tryz.underlying27 (by rfl) pr_info)
 ·rfl
 ·exact⟨rfl,Si.below_set (Si.below_set HB.out (by simp) _) (by simp) _⟩
set_option maxHeartbeats 1600000 in
theorem l_service (w:World):Calls Tryz.prog 34 #[] w fun e w'=>e = .returned (prV pMail)∧Below w.heap.size w w':=by
 obtain⟨W,eW⟩:∃W,W=w.alloc (.cells z2 27):=⟨_,rfl⟩
 have HZ:=Lib.hid (show Blk W w.heap.size 27 z2 from eW▸Blk.new w _ _)
 have HB:=Lib.hid (show Below w.heap.size w W from eW▸(Below.refl _ _).alloc (Nat.le_refl _) _)
 go_enter Tryz.func34,Tryz.ntmps34
 go_upto_region 1 with fail
 rw[←eW]
 clear eW
 have kz0:=HZ.out.cell 0
 have kz1:=HZ.out.cell 1
 have fz:=HZ.out.frozen
 go_wp2
 have hz:Blk _ w.heap.size 27 #[.string ⟨pMail.1.toArray⟩,.string ⟨pMail.2.toArray⟩]:=(HZ.out.set 0 (.string ⟨pMail.1.toArray⟩)).set 1 (.string ⟨pMail.2.toArray⟩)
 refine bodyPost_ret (v:=prV pMail) ?_ ?_ ?_
 ·exact Wh.results_cell (v:=prV pMail) 0 27 ⟨w.heap.size,0,none⟩ Tryz.results34 (by rfl) (Wh.load_blk hz Tryz.underlying27 (by rfl) pr_info)
 ·rfl
 ·exact⟨rfl,Si.below_set (Si.below_set HB.out (by simp) _) (by simp) _⟩
set_option maxHeartbeats 1600000 in
theorem l_tgt (a b:Nm.L) (hb:b.length≤1000000) (w:World):Calls Tryz.prog 28 #[.string ⟨a.toArray⟩,.string ⟨b.toArray⟩] w fun e w'=>e = .returned (prV (kr a b))∧Below w.heap.size w w':=by
 have c1:=fun w1=>Nm.rkrbtgt_any b w1 (by omega)
 have C1:=Lib.hid c1
 obtain⟨W,eW⟩:∃W,W=w.alloc (.cells z2 27):=⟨_,rfl⟩
 have HZ:=Lib.hid (show Blk W w.heap.size 27 z2 from eW▸Blk.new w _ _)
 have HB:=Lib.hid (show Below w.heap.size w W from eW▸(Below.refl _ _).alloc (Nat.le_refl _) _)
 clear hb c1
 go_enter Tryz.func28,Tryz.ntmps28
 go_upto_region 1 with fail
 rw[←eW]
 clear eW
 have kz0:=HZ.out.cell 0
 have kz1:=HZ.out.cell 1
 have fz:=HZ.out.frozen
 go_wp2_with (first
  |(go_at_call 54;refine Calls.mono (C1.out _) ?_;rintro e w1 ⟨rfl,hw⟩;clear C1;subst hw)
  |fail)
 have hz:Blk _ w.heap.size 27 #[.string ⟨(kr a b).1.toArray⟩,.string ⟨(kr a b).2.toArray⟩]:=(HZ.out.set 0 (.string ⟨(kr a b).1.toArray⟩)).set 1 (.string ⟨(kr a b).2.toArray⟩)
 refine bodyPost_ret (v:=prV (kr a b)) ?_ ?_ ?_
 ·exact Wh.results_cell (v:=prV (kr a b)) 4 27 ⟨w.heap.size,0,none⟩ Tryz.results28 (by rfl) (Wh.load_blk hz Tryz.underlying27 (by rfl) pr_info)
 ·rfl
 ·exact⟨rfl,Si.below_set (Si.below_set HB.out (by simp) _) (by simp) _⟩
theorem built_key (n:UInt8):Tryz.prog.built 47 [(0,.int .u8 (n.toNat:Int)),(1,.int .u8 7)]=some (key32 (kq n)):=by kernel_rfl
set_option maxRecDepth 100000 in
set_option maxHeartbeats 1600000 in
theorem l_key (n:UInt8) (w:World):Calls Tryz.prog 18 #[.int .u8 (n.toNat:Int)] w fun e w'=>e = .returned (.agg (key32 (kq n)))∧Below w.heap.size w w':=by
 have HBK:=Lib.hid (built_key n)
 have hi:=info32 (kq n)
 obtain⟨cs,ecs⟩:∃cs,cs=key32 (kq n):=⟨_,rfl⟩
 have HS:=Lib.hid (show cs.size=32 by rw[ecs];exact key32_size _)
 have HO:=Lib.hid (show cs.all (·.oneCell')=true by rw[ecs,←bvs_kb];exact one_list (bvs_one _))
 rw[←ecs] at hi HBK⊢
 have HI:=Lib.hid hi
 clear ecs hi
 obtain⟨W,eW⟩:∃W,W=w.alloc (.cells #[.int .u8 0,.int .u8 0,.int .u8 0,.int .u8 0,.int .u8 0,.int .u8 0,.int .u8 0,.int .u8 0,.int .u8 0,.int .u8 0,.int .u8 0,.int .u8 0,.int .u8 0,.int .u8 0,.int .u8 0,.int .u8 0,.int .u8 0,.int .u8 0,.int .u8 0,.int .u8 0,.int .u8 0,.int .u8 0,.int .u8 0,.int .u8 0,.int .u8 0,.int .u8 0,.int .u8 0,.int .u8 0,.int .u8 0,.int .u8 0,.int .u8 0,.int .u8 0] 47):=⟨_,rfl⟩
 have HZ:=Lib.hid (show ∃z:Array Value,z.size=32∧Blk W w.heap.size 47 z from⟨_,by rfl,eW▸Blk.new w _ _⟩)
 have HB:=Lib.hid (show Below w.heap.size w W from eW▸(Below.refl _ _).alloc (Nat.le_refl _) _)
 go_enter Tryz.func18,Tryz.ntmps18
 go_upto_region 1 with fail
 rw[←eW]
 clear eW
 obtain⟨zz,hzs,hzb⟩:=HZ.out
 have HZB:=Lib.hid hzb
 clear HZ hzb
 go_wp2_with (first
  |(refine Mc.wpList_built (by rfl) 47 #[(0,.tmp 3),(1,.const (.int .u8 7))] (by rfl) cs (by simp only[List.map_toArray,List.map_cons,List.map_nil];exact HBK.out) ?_;clear HBK)
  |(refine Wh.store_over (by rfl) 47 (.tmp 2) (.tmp 4) (by rfl) w.heap.size 47 _ HZB.out cs (by rfl) (by rfl) (by rw[HS.out,hzs]) HI.out HO.out ?_;rintro V hV hg;have HV:=Lib.hid hV;have HG:=Lib.hid (HB.out.grown hg HB.out.size (fun k hk=>by injection hk with hk;omega));clear hV hg)
  |fail)
 refine bodyPost_ret (v:=.agg cs) ?_ ?_ ?_
 ·exact Wh.results_cell (v:=.agg cs) 2 47 ⟨w.heap.size,0,none⟩ Tryz.results18 (by rfl) (Wh.load_blk HV.out Tryz.underlying47 (by rfl) HI.out)
 ·rfl
 ·exact⟨rfl,HG.out⟩
end Go.Proofs.YtfcjeebnkigeaaaGreat.Kd
end

section
set_option linter.unusedVariables false
set_option linter.unusedSimpArgs false
namespace Go.Proofs.YtfcjeebnkigeaaaGreat.Kd
open Go.RowKit Go.Proofs.YtfcjeebnkigeaaaGreat.Mem Go.Proofs.YtfcjeebnkigeaaaGreat.Se
open Go.Proofs.YtfcjeebnkigeaaaGreat.Nm (krb strs)
open Go.Proofs.YtfcjeebnkigeaaaGreat.Rt (SlV SlP RdP kl)
set_option maxRecDepth 100000 in
set_option maxHeartbeats 1600000 in
theorem l_tree (w:World):Calls Tryz.prog 38 #[] w fun e w'=>∃v1 v2,e = .returned (.agg (tpA v1 v2))∧TpK (fun b=>w.heap.size≤b∧b<w'.heap.size) w' v1 v2 (.slice none 0 0) tT∧Below w.heap.size w w':=by
 obtain⟨W,eW⟩:∃W,W=w.alloc (.cells (tpA (.slice none 0 0) (.slice none 0 0)) 60):=⟨_,rfl⟩
 have HZ:=Lib.hid (show Blk W w.heap.size 60 (tpA (.slice none 0 0) (.slice none 0 0)) from eW▸Blk.new w _ _)
 have HB:=Lib.hid (show Below w.heap.size w W from eW▸(Below.refl _ _).alloc (Nat.le_refl _) _)
 have HWS:=Lib.hid (show W.heap.size=w.heap.size+1 by rw[eW];simp)
 go_enter Tryz.func38,Tryz.ntmps38
 go_upto_region 1 with fail
 rw[←eW]
 clear eW
 have kz0:=HZ.out.cell 0
 have kz1:=HZ.out.cell 1
 have kz2:=HZ.out.cell 2
 have fz:=HZ.out.frozen
 have lz:=HZ.out.lt
 have lz2:w.heap.size<W.heap.size+1:=by omega
 go_wp2
 obtain⟨X,eX⟩:∃z,z=((W.setCell ⟨w.heap.size,0,none⟩ (.slice (some ⟨W.heap.size,0,none⟩) 3 3)).setCell ⟨w.heap.size,1,none⟩ (.slice (some ⟨W.heap.size+1,0,none⟩) 4 4)).setCell ⟨w.heap.size,2,none⟩ (.slice none 0 0):=⟨_,rfl⟩
 have hx:Blk X w.heap.size 60 (tpA (.slice (some ⟨W.heap.size,0,none⟩) 3 3) (.slice (some ⟨W.heap.size+1,0,none⟩) 4 4)):=eX▸((HZ.out.set 0 (.slice (some ⟨W.heap.size,0,none⟩) 3 3)).set 1 (.slice (some ⟨W.heap.size+1,0,none⟩) 4 4)).set 2 (.slice none 0 0)
 have hxs:X.heap.size=W.heap.size:=by rw[eX];simp
 have hbx:Below w.heap.size w X:=eX▸Si.below_set (Si.below_set (Si.below_set HB.out (by simp) _) (by simp) _) (by simp) _
 rw[←eX]
 clear eX kz0 kz1 kz2 fz
 obtain⟨V,eV⟩:∃V,V=(X.alloc (.cells #[.string ⟨#[65,46,69,68,85]⟩,.string ⟨#[69,68,85]⟩,.string ⟨#[66,46,69,68,85]⟩] 9)).alloc (.cells #[.string ⟨#[65,46,69,68,85]⟩,.string ⟨#[69,68,85]⟩,.string ⟨#[69,68,85]⟩,.string ⟨#[65,46,69,68,85]⟩,.string ⟨#[69,68,85]⟩,.string ⟨#[66,46,69,68,85]⟩,.string ⟨#[66,46,69,68,85]⟩,.string ⟨#[69,68,85]⟩] 196):=⟨_,rfl⟩
 have hb:Below X.heap.size X V:=eV▸((Below.refl _ _).alloc (Nat.le_refl _) _).alloc (by simp) _
 have hr3:Blk V W.heap.size 9 #[.string ⟨#[65,46,69,68,85]⟩,.string ⟨#[69,68,85]⟩,.string ⟨#[66,46,69,68,85]⟩]:=by rw[←hxs];exact eV▸(Blk.new X _ _).alloc _
 have hk3:Blk V (W.heap.size+1) 196 #[.string ⟨#[65,46,69,68,85]⟩,.string ⟨#[69,68,85]⟩,.string ⟨#[69,68,85]⟩,.string ⟨#[65,46,69,68,85]⟩,.string ⟨#[69,68,85]⟩,.string ⟨#[66,46,69,68,85]⟩,.string ⟨#[66,46,69,68,85]⟩,.string ⟨#[69,68,85]⟩]:=by have:=Blk.new (X.alloc (.cells #[.string ⟨#[65,46,69,68,85]⟩,.string ⟨#[69,68,85]⟩,.string ⟨#[66,46,69,68,85]⟩] 9)) 196 #[.string ⟨#[65,46,69,68,85]⟩,.string ⟨#[69,68,85]⟩,.string ⟨#[69,68,85]⟩,.string ⟨#[65,46,69,68,85]⟩,.string ⟨#[69,68,85]⟩,.string ⟨#[66,46,69,68,85]⟩,.string ⟨#[66,46,69,68,85]⟩,.string ⟨#[69,68,85]⟩];simp only[World.size_alloc] at this;rw[←hxs];exact eV▸this
 have hz:=hx.below hb
 rw[←eV]
 clear eV
 refine bodyPost_ret (v:=.agg (tpA (.slice (some ⟨W.heap.size,0,none⟩) 3 3) (.slice (some ⟨W.heap.size+1,0,none⟩) 4 4))) ?_ ?_ ?_
 ·exact Wh.results_cell (v:=.agg (tpA (.slice (some ⟨W.heap.size,0,none⟩) 3 3) (.slice (some ⟨W.heap.size+1,0,none⟩) 4 4))) 0 60 ⟨w.heap.size,0,none⟩ Tryz.results38 (by rfl) (Wh.load_blk hz Tryz.underlying60 (by rfl) (by kernel_rfl))
 ·rfl
 ·have h1:=hr3.lt
  have h2:=hk3.lt
  refine⟨_,_,rfl,⟨⟨_,3,rfl,Nat.le_refl _,.inr ⟨_,0,rfl,⟨by omega,h1⟩,fun i u hu=>?_⟩⟩,⟨_,4,rfl,Nat.le_refl _,.inr ⟨_,0,rfl,⟨by omega,h2⟩,fun i hi=>?_⟩⟩,rfl,rfl⟩,hbx.trans (hb.mono hbx.size)⟩
  ·rw[Nat.zero_add,hr3.cell]
   have e:(strs tT.R)[i]? = (strs tT.R).toArray[i]?:=by simp
   rw[e] at hu
   exact hu
  ·have hi:i<4:=hi
   rw[Nat.zero_add]
   match i,hi with
   |0,_=>exact⟨hk3.cell 0,hk3.cell 1⟩
   |1,_=>exact⟨hk3.cell 2,hk3.cell 3⟩
   |2,_=>exact⟨hk3.cell 4,hk3.cell 5⟩
   |3,_=>exact⟨hk3.cell 6,hk3.cell 7⟩
theorem tT_kt:∀x∈tT.K,x.1.length≤3000∧x.2.length≤3000:=by decide
end Go.Proofs.YtfcjeebnkigeaaaGreat.Kd
end

section
set_option linter.unusedVariables false
namespace Go.Proofs.YtfcjeebnkigeaaaGreat.Reg
open Go.RowKit Go.Proofs.YtfcjeebnkigeaaaGreat.Mem
section
variable {P:Program} {ops:Array Oper} {Q:Exit→Act→World→Prop} {md:Region.Mode} {S:World→Prop}
theorem any_store_whole (i:Nat) {dst:Option Tmp} {sty:TypeId} {x y:Operand} {ty:TypeId} {pos:String} {after:Array _} {guard:Option (Nat×Bool)} {fuel:Nat} {listed:Array Bool} {a:Act} {w:World} (hi:ops[i]? = some ⟨dst,.store sty x y,ty,pos,after,guard⟩)
  (hr:Region.ready md ops listed = [i]) (hw:Region.wanted ⟨dst,.store sty x y,ty,pos,after,guard⟩ (yielded ops a.tmps)=true) (g:Nat) (t:TypeId) (old cells:Array Value) (hb:Blk w g t old) (hx:a.eval x = .pointer (some ⟨g,0,none⟩)) (hy:a.eval y = .agg cells) (hs:old.size=cells.size)
  (hI:(P.info? sty).map (·.size)=some cells.size) (h1:cells.all (·.oneCell')=true)
  (h:∀V,Blk V g t cells→w.grownBy V (some g)→S V∧wpAnyH P md ops Q S fuel (listed.setIfInBounds i true) (a.put dst undef) V):wpAnyH P md ops Q S (fuel+1) listed a w:=by
 have ht:w.there g 0 cells.size:=Wh.there_mid hb 0 _ (by omega)
 have hrun:(execOp a.eval ⟨dst,.store sty x y,ty,pos,after,guard⟩).run P w = .ok .skip (w.setCells g 0 cells.toList):=by
  unfold execOp
  simp only[hx,hy,Instr.storeAt,Instr.sureAddr,Sem.run_bind,Sem.run_pure,Result.andThen_ok,run_storeVar_mid w g 0 sty cells ht hI h1]
 obtain⟨h2,h3⟩:=h _ (Wh.blk_cells hb hs) (Wh.put_mid _ _ _ _)
 exact any_store i _ hi hr hw hrun h2 h3
theorem tk (i:Nat) {dst:Option Tmp} {op:Op} {ty:TypeId} {pos:String} {after:Array _} {guard:Option (Nat×Bool)} {v:Value} {fuel:Nat} {listed:Array Bool} {a:Act} {w:World} (hi:ops[i]? = some ⟨dst,op,ty,pos,after,guard⟩) (hS:S w)
  (hy:∀w',S w'→(execOp a.eval ⟨dst,op,ty,pos,after,guard⟩).run P w' = .ok (.value v) w')
  (h:wpAnyH P md ops Q S fuel (listed.setIfInBounds i true) (a.put dst v) w)
  (hs:Region.noSelect ops=true:=by kernel_rfl) (hf:Region.free md ops listed i=true:=by kernel_rfl) (hr:(Region.ready md ops listed).contains i=true:=by kernel_rfl)
  (hQ:∀c a w,Q (.panic c) (a.put dst v) w→Q (.panic c) a w:=by exact fun _ _ _ h=>h) (hw:Region.wanted ⟨dst,op,ty,pos,after,guard⟩ (yielded ops a.tmps)=true:=by rfl):wpAnyH P md ops Q S (fuel+1) listed a w:=
 any_take i hi hs hf hr hQ hS hw hy h
theorem s0 {α:Type} (l:List α) (i:Nat) (a:α):l.toArray.setIfInBounds i a=(l.set i a).toArray:=List.setIfInBounds_toArray ..
theorem s1 {α:Type} {x:α} {xs:List α} {a:α}:(x :: xs).set 0 a=a :: xs:=rfl
theorem s2 {α:Type} {x:α} {xs:List α} {n:Nat} {a:α}:(x :: xs).set (n+1) a=x :: xs.set n a:=rfl
end
end Go.Proofs.YtfcjeebnkigeaaaGreat.Reg
end
