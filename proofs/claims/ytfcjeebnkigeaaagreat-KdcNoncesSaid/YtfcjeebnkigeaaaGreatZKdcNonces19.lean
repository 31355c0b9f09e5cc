import Derived.Deep.LoopGhost
import Derived.DeepKeys
import Derived.Laws.StructEq
import Derived.StillTailTactics
import Derived.Laws.OwnMore
import Derived.Test.YtfcjeebnkigeaaaGreatZKdcNonces1
import Derived.Test.YtfcjeebnkigeaaaGreatZKdcNonces2
import Derived.Test.YtfcjeebnkigeaaaGreatZKdcNonces3
import Derived.Test.YtfcjeebnkigeaaaGreatZKdcNonces4
import Derived.Test.YtfcjeebnkigeaaaGreatZKdcNonces5
import Derived.Test.YtfcjeebnkigeaaaGreatZKdcNonces6
import Derived.Test.YtfcjeebnkigeaaaGreatZKdcNonces7
import Derived.Test.YtfcjeebnkigeaaaGreatZKdcNonces8
import Derived.Test.YtfcjeebnkigeaaaGreatZKdcNonces9
import Derived.Test.YtfcjeebnkigeaaaGreatZKdcNonces10
import Derived.Test.YtfcjeebnkigeaaaGreatZKdcNonces11
import Derived.Test.YtfcjeebnkigeaaaGreatZKdcNonces12
import Derived.Test.YtfcjeebnkigeaaaGreatZKdcNonces13
import Derived.Test.YtfcjeebnkigeaaaGreatZKdcNonces14
import Derived.Test.YtfcjeebnkigeaaaGreatZKdcNonces17
import Derived.Test.YtfcjeebnkigeaaaGreatZKdcNonces18
section
set_option linter.unusedVariables false
set_option linter.unusedSimpArgs false
namespace Go.Proofs.YtfcjeebnkigeaaaGreat.Kd
open Go.RowKit Go.Proofs.YtfcjeebnkigeaaaGreat.Mem Go.Proofs.YtfcjeebnkigeaaaGreat.Se
open Go.Proofs.YtfcjeebnkigeaaaGreat.Nm (strs clone_any)
open Go.Proofs.YtfcjeebnkigeaaaGreat.Rg (It Ent Ring RO its)
open Go.Proofs.YtfcjeebnkigeaaaGreat.Rt (Tp Sm SlV SlP TpV isT ist_any)
section
variable {w:World} {B:Nat} {es:List Ent} {T:Tp} {R:Nm.L} {v1 v2 v:Value} {r:Nat}
theorem tp_v {w1:World} (h1:SlV w1 w1.heap.size v1 T.R) (h2:SlP w1 w1.heap.size v2 T.K) (hp:T.P = []):TpV w1 w1.heap.size (.agg (tpA v1 v2)) T:=
 ⟨v1,v2,.slice none 0 0,rfl,h1,h2,none,0,by rw[hp];rfl,by rw[hp];exact Nat.le_refl _,.inl hp⟩
set_option maxRecDepth 100000 in
set_option maxHeartbeats 3200000 in
theorem new_a (hs:Sm T) (hp:T.P = []) (hkt:∀x∈T.K,x.1.length≤3000∧x.2.length≤3000) (hT:isT T=true) (hRl:R.length≤1000000) (h1:SlV w w.heap.size v1 T.R) (h2:SlP w w.heap.size v2 T.K) (hR:R∈T.R) (hr:Ring w B r v es) (hB:B≤w.heap.size) :
  Calls Tryz.prog 37 #[.string ⟨R.toArray⟩,.agg (tpA v1 v2),.pointer (some ⟨r,0,none⟩)] w fun e w'=>∃k lo hi u1 u2,e = .returned (.tuple #[.pointer (some ⟨k,0,none⟩),.int .i64 0])∧w.heap.size≤k∧w.heap.size≤lo∧KD w' B ⟨k,r,lo,hi,R,T,v,u1,u2,.slice none 0 0⟩ es 0 0∧Below w.heap.size w w':=by
 have hv1:=h1;have hv2:=h2
 obtain⟨A1,c1,rfl,hc1,r1⟩:=h1
 obtain⟨A2,c2,rfl,hc2,r2⟩:=h2
 obtain⟨W,eW⟩:∃W,W=w.alloc (.cells (tpA (.slice A1 T.R.length c1) (.slice A2 T.K.length c2)) 60):=⟨_,rfl⟩
 have hb:Below w.heap.size w W:=eW▸(Below.refl _ _).alloc (Nat.le_refl _) _
 have HT:=Lib.hid (show Blk W w.heap.size 60 (tpA (.slice A1 T.R.length c1) (.slice A2 T.K.length c2)) from eW▸Blk.new w _ _)
 have HB:=Lib.hid hb
 have CI:=Lib.hid (ist_any T _ W.heap.size W hs (tp_v (hv1.on hb) (hv2.on hb) hp) (Nat.le_refl _))
 rw[hT] at CI
 have CC:=Lib.hid (fun(w1:World) (b1:Below w.heap.size w w1)=>Tr.contains_any T.R A1 c1 w.heap.size R w1 (by have:=hs.r;omega) (r1.below b1))
 have CL:=Lib.hid (fun w1=>clone_any R w1 (by omega))
 have CT:=Lib.hid (fun(w1:World) (b1:Below w.heap.size w w1)=>ctopo_any T hs hp hkt _ _ w1 (hv1.on b1) (hv2.on b1))
 obtain⟨n,en⟩:∃n,n=T.R.length:=⟨_,rfl⟩
 obtain⟨m,em⟩:∃m,m=T.K.length:=⟨_,rfl⟩
 rw[←en] at CI CC CT HT eW⊢
 rw[←em] at CI CT HT eW⊢
 have hd:decide (R∈T.R)=true:=decide_eq_true hR
 rw[hd] at CC
 have HRG:=Lib.hid hr
 have HWL:=Lib.hid hB
 clear hd hR hr hv1 hv2 r1 r2 hc1 hc2 hs hp hkt hT hRl hb en em hB
 go_enter Tryz.func37,Tryz.ntmps37
 go_upto_region 1 with fail
 rw[←eW]
 clear eW
 have kq0:=HT.out.cell 0
 have kq1:=HT.out.cell 1
 have kq2:=HT.out.cell 2
 go_upto_region 3 with(first
  |(go_at_call 92;refine Calls.mono CI.out ?_;rintro e w2 ⟨rfl,hb⟩;clear CI kq0 kq1 kq2;replace HT:=Lib.hid (HT.out.below hb);replace HB:=Lib.hid (HB.out.trans (hb.mono HB.out.size));have kq0:=HT.out.cell 0;clear hb)
  |(go_at_call 93;refine Calls.mono (CC.out _ HB.out) ?_;rintro e w3 ⟨rfl,hw⟩;clear CC;subst hw)
  |fail)
 clear kq0
 refine Reg.any_begin (fun w'=>Blk w' w.heap.size 60 (tpA (.slice A1 n c1) (.slice A2 m c2))) 9 rfl (by kernel_rfl) (HT.out.drewN 1) ?_
 replace HT:=Lib.hid (show Blk w2.drew _ _ _ from HT.out.drewN 1)
 replace HB:=Lib.hid (below_drewN HB.out 1)
 refine Reg.tk 0 (v:=?vn1) rfl HT.out (fun w' hS=>?hn1) ?rn1
 case hn1=>go_simp<;>rfl
 simp only[Act.put,Reg.s0,Reg.s1,Reg.s2]
 refine Reg.tk 2 (v:=?vn2) rfl HT.out (fun w' hS=>?hn2) ?rn2
 case hn2=>have k0:=Blk.cell hS 0;have k1:=Blk.cell hS 1;have k2:=Blk.cell hS 2;go_simp<;>rfl
 simp only[Act.put,Reg.s0,Reg.s1,Reg.s2]
 refine Reg.tk 4 (v:=?vn3) rfl HT.out (fun w' hS=>?hn3) ?rn3
 case hn3=>go_simp<;>rfl
 simp only[Act.put,Reg.s0,Reg.s1,Reg.s2]
 refine Reg.both_all [1] (by kernel_rfl) (by simp) ?_
 intro j0 hj0
 obtain rfl:j0=1:=by simpa using hj0
 clear hj0
 right
 refine⟨_,_,_,_,_,_,94,#[.string ⟨R.toArray⟩],rfl,by rfl,by go_simp,?_⟩
 refine Calls.mono (CL.out _) ?_
 rintro e wa ⟨rfl,hb⟩
 replace HT:=Lib.hid (HT.out.below hb)
 replace HB:=Lib.hid (HB.out.trans (hb.mono HB.out.size))
 clear hb
 refine⟨_,rfl,HT.out,?_⟩
 simp only[Act.put,Reg.s0,Reg.s1,Reg.s2]
 refine Reg.both_all [3] (by kernel_rfl) (by simp) ?_
 intro j0 hj0
 obtain rfl:j0=3:=by simpa using hj0
 clear hj0
 right
 refine⟨_,_,_,_,_,_,95,#[.agg (tpA (.slice A1 n c1) (.slice A2 m c2))],rfl,by rfl,by go_simp,?_⟩
 refine Calls.mono (CT.out _ HB.out) ?_
 rintro e wb ⟨u1,u2,rfl,htp,hb⟩
 have HAS:=Lib.hid HB.out.size
 replace HT:=Lib.hid (HT.out.below hb)
 replace HB:=Lib.hid (HB.out.trans (hb.mono HB.out.size))
 have HWB:=Lib.hid hb.size
 have HTP:=Lib.hid htp
 clear hb htp
 refine⟨_,rfl,HT.out,?_⟩
 simp only[Act.put,Reg.s0,Reg.s1,Reg.s2]
 refine Reg.tk 5 (v:=?vn4) rfl HT.out (fun w' hS=>?hn4) ?rn4
 case hn4=>go_simp<;>rfl
 simp only[Act.put,Reg.s0,Reg.s1,Reg.s2]
 refine Reg.both_all [6] (by kernel_rfl) (by simp) ?_
 intro j0 hj0
 obtain rfl:j0=6:=by simpa using hj0
 clear hj0
 left
 obtain⟨A8,c8,A9,c9,e8,e9,_⟩:=HTP.out.sizes
 subst e8 e9
 have hb:Below wb.heap.size wb (wb.alloc (.cells #[.string ⟨R.toArray⟩,(.slice A8 T.R.length c8),(.slice A9 T.K.length c9),.slice none 0 0,.pointer (some ⟨r,0,none⟩),.int .i64 0,.int .i64 0] 136)):=(Below.refl _ _).alloc (Nat.le_refl _) _
 have hnb:=Blk.new wb 136 #[.string ⟨R.toArray⟩,(.slice A8 T.R.length c8),(.slice A9 T.K.length c9),.slice none 0 0,.pointer (some ⟨r,0,none⟩),.int .i64 0,.int .i64 0]
 refine⟨_,_,_,_,_,_,.pointer (some ⟨wb.heap.size,0,none⟩),wb.alloc (.cells #[.string ⟨R.toArray⟩,(.slice A8 T.R.length c8),(.slice A9 T.K.length c9),.slice none 0 0,.pointer (some ⟨r,0,none⟩),.int .i64 0,.int .i64 0] 136),rfl,by rfl,(by go_simp<;>rfl),HT.out.below hb,?_⟩
 simp only[Act.put,Reg.s0,Reg.s1,Reg.s2]
 obtain⟨wc,ewc⟩:∃z,z=wb.alloc (.cells #[.string ⟨R.toArray⟩,(.slice A8 T.R.length c8),(.slice A9 T.K.length c9),.slice none 0 0,.pointer (some ⟨r,0,none⟩),.int .i64 0,.int .i64 0] 136):=⟨_,rfl⟩
 rw[←ewc] at hb hnb⊢
 clear ewc
 replace HT:=Lib.hid (HT.out.below hb)
 have HBN:=Lib.hid hb
 have HNB:=Lib.hid hnb
 have HBC:=Lib.hid (HB.out.trans (hb.mono HB.out.size))
 clear hb hnb
 refine Reg.tk 7 (v:=?vn5) rfl HT.out (fun w' hS=>?hn5) ?rn5
 case hn5=>go_simp<;>rfl
 simp only[Act.put,Reg.s0,Reg.s1,Reg.s2]
 refine Reg.tk 8 (v:=?vn6) rfl HT.out (fun w' hS=>?hn6) ?rn6
 case hn6=>go_simp<;>rfl
 simp only[Act.put,Reg.s0,Reg.s1,Reg.s2]
 refine wpAnyH_done (by kernel_rfl) ?_ _
 go_wp2_with fail
 go_ret2
 have hsz:=HAS.out;have hwb:=HWB.out;have hbs:=HBN.out.size;have hwl:=HWL.out
 refine⟨wb.heap.size,wa.heap.size,wb.heap.size,_,_,rfl,by omega,hsz,⟨HNB.out,(HRG.out.below HBC.out),?_,?_,?_,?_,?_,?_,?_⟩,HBC.out⟩
 ·exact HTP.out.keep (fun b o hb=>World.cell?_of_block (a:=⟨b,o,none⟩) (HBN.out.block b hb.2)) (fun b hb=>hb)
 ·show B≤wb.heap.size;omega
 ·show B≤wa.heap.size;omega
 ·show wb.heap.size≤_;omega
 ·intro hx;have:=HRG.out.own_lt hx;simp only at this;omega
 ·intro hx;exact absurd hx.2 (Nat.lt_irrefl _)
 ·intro j hx hy;have:=HRG.out.own_lt hx;have:=hy.1;simp only at *;omega
end
end Go.Proofs.YtfcjeebnkigeaaaGreat.Kd
end

section
set_option linter.unusedVariables false
namespace Go.Proofs.YtfcjeebnkigeaaaGreat.Rt
open Go.RowKit Go.Proofs.YtfcjeebnkigeaaaGreat.Mem Go.Proofs.YtfcjeebnkigeaaaGreat.Nm
set_option maxHeartbeats 400000 in
theorem place_any (ls:List L) (A:Option Addr) (c B:Nat) (r:L) (w:World) (hl:ls.length≤9000000000000000) (hr:Rd w B A (strs ls)) :
  Calls Tryz.prog 104 #[.slice A ls.length c,.string ⟨r.toArray⟩] w fun e w'=>e = .returned (.int .i64 (Tr.ixL r ls))∧w=w':=by
 have HR:=Lib.hid hr;clear hr
 obtain⟨n,en⟩:∃n,n=ls.length:=⟨_,rfl⟩
 rw[←en] at hl⊢
 have EN:=Lib.hid en;clear en
 go_enter Tryz.func104,Tryz.ntmps104
 go_wp2
 go_loop [5] (fun iv=>∃i:Nat,i≤n∧iv = .int .i64 (i:Int)∧∀k,k<i→pl ls k≠r) (fun iv=>n - (intOf iv).toNat)
 case atStart=>exact⟨0,Nat.zero_le _,rfl,fun k h=>absurd h (Nat.not_lt_zero k)⟩
 case round=>
  obtain⟨i,hi,rfl,hn⟩:=hrel
  have HN:=Lib.hid hn;clear hn
  by_cases hlt:i<n
  ·have e1:(i:Int)<(n:Int):=by omega
   have e2:(0:Int)≤(i:Int):=by omega
   obtain⟨b,o,rfl,_,h1⟩:=rd_txt HR.out (i:=i) (by rw[←EN.out];exact hlt)
   by_cases hx:pl ls i=r
   ·have t1:(pl ls i==r)=true:=by simpa using hx
    have E:=Lib.hid (Tr.ix_found (by rw[←EN.out];exact hlt) hx HN.out)
    clear hx
    go_wp2
    go_ret
    exact⟨by rw[E.out];rfl,rfl⟩
   ·have t1:(pl ls i==r)=false:=by simpa using hx
    have HX:=Lib.hid hx;clear hx
    go_wp2
    go_round
    case rel=>exact⟨i+1,by omega,by go_num,fun k hk=>by
     by_cases q:k=i
     ·rw[q];exact HX.out
     ·exact HN.out k (by omega)⟩
    case measure=>simp [intOf];omega
  ·have e1:¬(i:Int)<(n:Int):=by omega
   have E:=Lib.hid (Tr.ix_none (ls:=ls) (r:=r) fun k hk=>HN.out k (by have:=EN.out;omega))
   go_wp2
   go_ret
   exact⟨by rw[E.out];rfl,rfl⟩
theorem place_in {ls:List L} {r:L} (h:r∈ls):∃z:Int,z=Tr.ixL r ls∧0≤z:=⟨_,rfl,by have:=Tr.ix_ge r ls;simpa [h] using this⟩
theorem place_out {ls:List L} {r:L} (h:r∉ls):∃z:Int,z=Tr.ixL r ls∧z<0:=⟨_,rfl,by have:=Tr.ix_ge r ls;simpa [h] using this⟩
theorem rd_cell {w:World} {B b o i:Nat} {ls:List L} (h:Rd w B (some ⟨b,o,none⟩) (strs ls)) (hi:i<ls.length):w.cell? ⟨b,o+i,none⟩=some (.string ⟨(pl ls i).toArray⟩):=by
 obtain⟨b',o',e,_,h1⟩:=rd_txt h hi
 injection e with e
 injection e with e1 e2
 subst e1;subst e2
 exact h1
set_option maxHeartbeats 800000 in
theorem rrealms_any (ls:List L) (A:Option Addr) (c B:Nat) (w:World) (hl:ls.length≤1000000) (hc:ls.length≤c) (hr:Rd w B A (strs ls)) (hB:B≤w.heap.size) (hs:∀i,i<ls.length→(pl ls i).length≤1000000000) :
  Calls Tryz.prog 153 #[.slice A ls.length c] w fun e w'=>e = .returned (.bool (realmsB ls&&(decide (1≤ls.length)&&decide (ls.length≤6))))∧Below w.heap.size w w':=by
 obtain⟨N,eN⟩:∃N,N=w.heap.size:=⟨_,rfl⟩
 rw[←eN] at hB⊢
 have HB0:=Lib.hid (show Below N w w from Below.refl _ _)
 have EN0:=Lib.hid eN;clear eN
 have HSZ:=Lib.hid (show ∀w1:World,Below N w w1→N≤w1.heap.size from fun w1 h=>by have:=h.size;have:=EN0.out;omega)
 have HR:=Lib.hid hr;clear hr
 have IS:=Lib.hid (fun(i:Nat) (h:i<ls.length) w1=>ris_any (pl ls i) w1 (hs i h))
 have PL:=Lib.hid (fun(i:Nat) (hi:i<ls.length) w1 (h:Rd w1 B A (strs ls))=>place_any (ls.take i) A c B (pl ls i) w1 (by simp;omega) (rd_take h (by omega)))
 have EQ:=Lib.hid (show realmsB ls=(ls.all isL&&decide ls.Nodup) from rfl)
 obtain⟨n,en⟩:∃n,n=ls.length:=⟨_,rfl⟩
 rw[←en] at hl hc⊢
 have EN:=Lib.hid en;clear en hs
 go_enter Tryz.func153,Tryz.ntmps153
 go_wp2
 go_loopw [3] (fun iv wr=>∃i:Nat,i≤n∧iv = .int .i64 (i:Int)∧(ls.take i).all isL=true∧(ls.take i).Nodup∧Below N w wr) (fun iv _=>n - (intOf iv).toNat)
 case atStart=>exact⟨0,Nat.zero_le _,rfl,by simp,by simp,HB0.out⟩
 case round=>
  obtain⟨i,hi,rfl,hn,hd,hb⟩:=hrel
  have HN:=Lib.hid hn;clear hn
  have HD:=Lib.hid hd;clear hd
  have HB:=Lib.hid hb;clear hb
  by_cases hlt:i<n
  ·have e1:(i:Int)<(n:Int):=by omega
   have e2:(0:Int)≤(i:Int):=by omega
   have e3:(i:Int)≤(c:Int):=by omega
   have him:i<ls.length:=by rw[←EN.out];exact hlt
   have hlen:(ls.take i).length=i:=by simp;omega
   have c1:=IS.out i him
   have c2:=PL.out i him
   rw[hlen] at c2
   have hal:=all_succ (p:=isL) him
   rw[HN.out,Bool.true_and,←pl_lt him] at hal
   have hnd:=nodup_succ him
   rw[←pl_lt him] at hnd
   have HR2:=Lib.hid (HR.out.below (HB.out.mono hB))
   obtain⟨b,o,eA,_,h1⟩:=rd_txt HR2.out him
   subst eA
   cases hx:isL (pl ls i) with
   |false=>
    rw[hx] at c1
    have E:=Lib.hid (show realmsB ls=false by
     rw[EQ.out,all_false him (by rw[←pl_lt him];exact hx)];rfl)
    clear c2 hal hnd hx
    go_wp2
    replace HB:=Lib.hid (below_drewN HB.out 1)
    have HC:=Lib.hid (show ∀w',Reg.Since wr.drew w'→w'.cell? ⟨b,o+i,none⟩=some (.string ⟨(pl ls i).toArray⟩) from fun w' hS=>rd_cell ((HR2.out.drewN 1).below (w':=w') (hS.mono (Nat.le_trans hB (HSZ.out _ HB.out)))) him)
    clear h1 him hlen
    refine Reg.region_begin 17 rfl (by kernel_rfl) ?_
    refine Reg.take_op 0 (v:=?va0) rfl (by kernel_rfl) (by kernel_rfl) (by kernel_rfl) (fun _ _ _ h=>h) (by rfl) (fun w' hS=>?ha0) ?ra0
    case ha0=>go_simp;rfl
    simp only[Act.put,List.setIfInBounds_toArray,List.set_cons_zero,List.set_cons_succ]
    refine Reg.take_op 1 (v:=?va1) rfl (by kernel_rfl) (by kernel_rfl) (by kernel_rfl) (fun _ _ _ h=>h) (by rfl) (fun w' hS=>?ha1) ?ra1
    case ha1=>go_simp;rfl
    simp only[Act.put,List.setIfInBounds_toArray,List.set_cons_zero,List.set_cons_succ]
    refine Reg.take_op 2 (v:=?va2) rfl (by kernel_rfl) (by kernel_rfl) (by kernel_rfl) (fun _ _ _ h=>h) (by rfl) (fun w' hS=>?ha2) ?ra2
    case ha2=>go_simp;rfl
    simp only[Act.put,List.setIfInBounds_toArray,List.set_cons_zero,List.set_cons_succ]
    refine Reg.take_op 3 (v:=?va3) rfl (by kernel_rfl) (by kernel_rfl) (by kernel_rfl) (fun _ _ _ h=>h) (by rfl) (fun w' hS=>?ha3) ?ra3
    case ha3=>have hh:=HC.out w' hS;go_simp;rfl
    simp only[Act.put,List.setIfInBounds_toArray,List.set_cons_zero,List.set_cons_succ]
    refine Reg.call_op 4 rfl (by kernel_rfl) (by rfl) 81 #[.string ⟨(pl ls i).toArray⟩] (by go_simp) ?_
    refine Calls.mono (c1 _) ?_
    rintro e w1 ⟨rfl,hb⟩
    refine⟨_,rfl,hb,?_⟩
    have H1:=Lib.hid (HB.out.trans (hb.mono (HSZ.out _ HB.out)));clear hb
    simp only[Act.put,List.setIfInBounds_toArray,List.set_cons_zero,List.set_cons_succ]
    refine Reg.take_op 5 (v:=?va5) rfl (by kernel_rfl) (by kernel_rfl) (by kernel_rfl) (fun _ _ _ h=>h) (by rfl) (fun w' hS=>?ha5) ?ra5
    case ha5=>go_simp;rfl
    simp only[Act.put,List.setIfInBounds_toArray,List.set_cons_zero,List.set_cons_succ]
    refine Reg.take_op 6 (v:=?va6) rfl (by kernel_rfl) (by kernel_rfl) (by kernel_rfl) (fun _ _ _ h=>h) (by rfl) (fun w' hS=>?ha6) ?ra6
    case ha6=>go_simp;rfl
    simp only[Act.put,List.setIfInBounds_toArray,List.set_cons_zero,List.set_cons_succ]
    refine Reg.skip_op 7 rfl (by kernel_rfl) (by kernel_rfl) (by kernel_rfl) (fun _ _ _ h=>h) (by rfl) ?_
    simp only[Act.put,List.setIfInBounds_toArray,List.set_cons_zero,List.set_cons_succ]
    refine Reg.skip_op 8 rfl (by kernel_rfl) (by kernel_rfl) (by kernel_rfl) (fun _ _ _ h=>h) (by rfl) ?_
    simp only[Act.put,List.setIfInBounds_toArray,List.set_cons_zero,List.set_cons_succ]
    refine Reg.skip_op 9 rfl (by kernel_rfl) (by kernel_rfl) (by kernel_rfl) (fun _ _ _ h=>h) (by rfl) ?_
    simp only[Act.put,List.setIfInBounds_toArray,List.set_cons_zero,List.set_cons_succ]
    refine Reg.skip_op 10 rfl (by kernel_rfl) (by kernel_rfl) (by kernel_rfl) (fun _ _ _ h=>h) (by rfl) ?_
    simp only[Act.put,List.setIfInBounds_toArray,List.set_cons_zero,List.set_cons_succ]
    refine Reg.skip_op 11 rfl (by kernel_rfl) (by kernel_rfl) (by kernel_rfl) (fun _ _ _ h=>h) (by rfl) ?_
    simp only[Act.put,List.setIfInBounds_toArray,List.set_cons_zero,List.set_cons_succ]
    refine Reg.skip_op 12 rfl (by kernel_rfl) (by kernel_rfl) (by kernel_rfl) (fun _ _ _ h=>h) (by rfl) ?_
    simp only[Act.put,List.setIfInBounds_toArray,List.set_cons_zero,List.set_cons_succ]
    refine Reg.skip_op 13 rfl (by kernel_rfl) (by kernel_rfl) (by kernel_rfl) (fun _ _ _ h=>h) (by rfl) ?_
    simp only[Act.put,List.setIfInBounds_toArray,List.set_cons_zero,List.set_cons_succ]
    refine Reg.skip_op 14 rfl (by kernel_rfl) (by kernel_rfl) (by kernel_rfl) (fun _ _ _ h=>h) (by rfl) ?_
    simp only[Act.put,List.setIfInBounds_toArray,List.set_cons_zero,List.set_cons_succ]
    refine Reg.skip_op 15 rfl (by kernel_rfl) (by kernel_rfl) (by kernel_rfl) (fun _ _ _ h=>h) (by rfl) ?_
    simp only[Act.put,List.setIfInBounds_toArray,List.set_cons_zero,List.set_cons_succ]
    refine Reg.take_op 16 (v:=?va16) rfl (by kernel_rfl) (by kernel_rfl) (by kernel_rfl) (fun _ _ _ h=>h) (by rfl) (fun w' hS=>?ha16) ?ra16
    case ha16=>go_simp;rfl
    simp only[Act.put,List.setIfInBounds_toArray,List.set_cons_zero,List.set_cons_succ]
    refine wpAnyH_done (by kernel_rfl) ?_ _
    go_wp2
    go_ret
    exact⟨by rw[E.out];rfl,H1.out⟩
   |true=>
    rw[hx] at c1
    have C1:=Lib.hid c1;have C2:=Lib.hid c2;clear c1 c2
    have HC:=Lib.hid (fun w' (h:Rd w' B (some ⟨b,o,none⟩) (strs ls))=>rd_cell h him)
    by_cases hy:pl ls i∈ls.take i
    ·obtain⟨z,ez,hz⟩:=place_in hy
     rw[←ez] at C2
     have z1:decide (0≤z)=true:=decide_eq_true hz
     have E:=Lib.hid (show realmsB ls=false by
      rw[EQ.out,decide_eq_false (fun h=>(hnd.1 (nodup_take h)).2 hy)];simp)
     clear ez hy hz hx hal hnd him hlen
     go_wp2
     replace HB:=Lib.hid (below_drewN HB.out 1)
     replace HR2:=Lib.hid (HR2.out.drewN 1)
     go_region_held3 (fun w'=>w'.cell? ⟨b,o+i,none⟩=some (.string ⟨(pl ls i).toArray⟩)) (exact HC.out _ HR2.out) ((first
      |(go_at_call 81;refine Calls.mono (C1.out _) ?_;rintro e w1 ⟨rfl,hb⟩;replace HR2:=Lib.hid (HR2.out.below (hb.mono (Nat.le_trans hB (HSZ.out _ HB.out))));replace HB:=Lib.hid (HB.out.trans (hb.mono (HSZ.out _ HB.out)));clear hb)
      |(go_at_call 104;refine Calls.mono (C2.out _ HR2.out) ?_;rintro e w2 ⟨rfl,rfl⟩)))
     go_wp2
     go_ret
     exact⟨by rw[E.out];rfl,HB.out⟩
    ·obtain⟨z,ez,hz⟩:=place_out hy
     rw[←ez] at C2
     have z1:decide (0≤z)=false:=decide_eq_false (by omega)
     have E:=Lib.hid (hal.trans hx)
     have E2:=Lib.hid (hnd.2 ⟨HD.out,hy⟩)
     clear ez hy hz hx hal hnd him hlen
     go_wp2
     replace HB:=Lib.hid (below_drewN HB.out 1)
     replace HR2:=Lib.hid (HR2.out.drewN 1)
     go_region_held3 (fun w'=>w'.cell? ⟨b,o+i,none⟩=some (.string ⟨(pl ls i).toArray⟩)) (exact HC.out _ HR2.out) ((first
      |(go_at_call 81;refine Calls.mono (C1.out _) ?_;rintro e w1 ⟨rfl,hb⟩;replace HR2:=Lib.hid (HR2.out.below (hb.mono (Nat.le_trans hB (HSZ.out _ HB.out))));replace HB:=Lib.hid (HB.out.trans (hb.mono (HSZ.out _ HB.out)));clear hb)
      |(go_at_call 104;refine Calls.mono (C2.out _ HR2.out) ?_;rintro e w2 ⟨rfl,rfl⟩)))
     go_wp2
     go_roundw
     case rel=>exact⟨i+1,by omega,by go_num,E.out,E2.out,HB.out⟩
     case measure=>simp [intOf];omega
  ·have e1:¬(i:Int)<(n:Int):=by omega
   have hiP:ls.length≤i:=by have:=EN.out;omega
   have E:=Lib.hid (show realmsB ls=true by
    have h:=HD.out
    rw[List.take_of_length_le hiP] at h
    rw[EQ.out,all_take hiP HN.out,decide_eq_true h];rfl)
   by_cases q1:1≤n
   ·have t1:decide ((1:Int)≤(n:Int))=true:=by simp;omega
    by_cases q2:n≤6
    ·have t2:decide ((n:Int)≤6)=true:=by simp;omega
     have E2:=Lib.hid (show(realmsB ls&&(decide (1≤n)&&decide (n≤6)))=true by rw[E.out,decide_eq_true q1,decide_eq_true q2];rfl)
     clear q1 q2
     go_wp2
     go_ret
     exact⟨by rw[E2.out];rfl,HB.out⟩
    ·have t2:decide ((n:Int)≤6)=false:=by simp;omega
     have E2:=Lib.hid (show(realmsB ls&&(decide (1≤n)&&decide (n≤6)))=false by rw[decide_eq_false q2];simp)
     clear q1 q2
     go_wp2
     go_ret
     exact⟨by rw[E2.out];rfl,HB.out⟩
   ·have t1:decide ((1:Int)≤(n:Int))=false:=by simp;omega
    have E2:=Lib.hid (show(realmsB ls&&(decide (1≤n)&&decide (n≤6)))=false by rw[decide_eq_false q1];simp)
    clear q1
    go_wp2
    go_ret
    exact⟨by rw[E2.out];rfl,HB.out⟩
end Go.Proofs.YtfcjeebnkigeaaaGreat.Rt
end

section
set_option linter.unusedVariables false
namespace Go.Proofs.YtfcjeebnkigeaaaGreat.Rt
open Go.RowKit Go.Proofs.YtfcjeebnkigeaaaGreat.Mem Go.Proofs.YtfcjeebnkigeaaaGreat.Nm
set_option maxHeartbeats 1600000 in
theorem rpath_yes (p:Pa) (T:Tp) (v u:Value) (B:Nat) (w:World) (hs:Sm T) (hp:p.v.length≤3000) (hv:TpV w B v T) (hu:PaV w B u p) (hB:B≤w.heap.size) (hq:pairB T.R (p.f,p.t)=true) (h4:p.v.length≤4) :
  Calls Tryz.prog 154 #[v,u] w fun e w'=>e = .returned (.bool (viaB T.R p))∧Below w.heap.size w w':=by
 obtain⟨v1,v2,v3,rfl,⟨A1,d1,rfl,hc1,r1⟩,⟨A2,d2,rfl,hc2,r2⟩,⟨A3,d3,rfl,hc3,r3⟩⟩:=hv
 obtain⟨u1,rfl,⟨A5,d5,rfl,hc5,r5⟩⟩:=hu
 have hb1:=(Below.refl w.heap.size w).alloc (Nat.le_refl _) (.cells #[.slice A1 T.R.length d1,.slice A2 T.K.length d2,.slice A3 T.P.length d3] 60)
 have hb2:=hb1.alloc hb1.size (.cells #[.string ⟨p.f.toArray⟩,.string ⟨p.t.toArray⟩,.slice A5 p.v.length d5] 273)
 have HB:=Lib.hid hb2
 have HK2:=Lib.hid (Blk.new (w.alloc (.cells #[.slice A1 T.R.length d1,.slice A2 T.K.length d2,.slice A3 T.P.length d3] 60)) 273 #[.string ⟨p.f.toArray⟩,.string ⟨p.t.toArray⟩,.slice A5 p.v.length d5])
 have HK1:=Lib.hid ((Blk.new w 60 #[.slice A1 T.R.length d1,.slice A2 T.K.length d2,.slice A3 T.P.length d3]).alloc (.cells #[.string ⟨p.f.toArray⟩,.string ⟨p.t.toArray⟩,.slice A5 p.v.length d5] 273))
 have HR:=Lib.hid (r1.below (hb2.mono hB))
 have HV:=Lib.hid (r5.below (hb2.mono hB))
 have PR:=Lib.hid (fun x w1 (h:Rd w1 B A1 (strs T.R))=>place_any T.R A1 d1 B x w1 (by have:=hs.r;omega) h)
 have PV:=Lib.hid (fun(i:Nat) (hi:i<p.v.length) w1 (h:Rd w1 B A5 (strs p.v))=>place_any (p.v.take i) A5 d5 B (pl p.v i) w1 (by simp;omega) (rd_take h (by omega)))
 rw[pairB,Bool.and_eq_true,Bool.and_eq_true,decide_eq_true_eq,decide_eq_true_eq,decide_eq_true_eq] at hq
 obtain⟨hft,hf,ht⟩:=hq
 simp only at hft hf ht
 have t1:(p.f==p.t)=false:=by simpa using hft
 obtain⟨z1,ez1,hz1⟩:=place_in hf
 obtain⟨z2,ez2,hz2⟩:=place_in ht
 have c1:=PR.out p.f
 have c2:=PR.out p.t
 rw[←ez1] at c1
 rw[←ez2] at c2
 have s1:decide (z1<0)=false:=decide_eq_false (by omega)
 have s2:decide (z2<0)=false:=decide_eq_false (by omega)
 have EQ:=Lib.hid (show viaB T.R p=(p.v.all (onB T.R p)&&decide p.v.Nodup) by rw[viaB,decide_eq_true h4];rfl)
 obtain⟨n,en⟩:∃n,n=p.v.length:=⟨_,rfl⟩
 obtain⟨m,em⟩:∃m,m=T.R.length:=⟨_,rfl⟩
 clear hb1 hb2
 rw[←en] at HB HK1 HK2 HR HV hc5 h4 hp
 rw[←em] at HB HK1 HK2 HR HV PR c1 c2
 rw[←en,←em]
 have s3:decide (4<(n:Int))=false:=by simp;omega
 have EN:=Lib.hid en
 clear en em ez1 ez2 hz1 hz2 hft hf ht r1 r2 r3 r5 hB hs hc1 hc2 hc3 h4
 have C1:=Lib.hid c1;have C2:=Lib.hid c2;clear c1 c2
 go_enter Tryz.func154,Tryz.ntmps154
 go_wp2_with (first
  |(go_at_call 104;with_reducible refine Calls.mono (C1.out _ HR.out) ?_;rintro e w1 ⟨rfl,rfl⟩;clear C1)
  |(go_at_call 104;with_reducible refine Calls.mono (C2.out _ HR.out) ?_;rintro e w1 ⟨rfl,rfl⟩;clear C2))
 obtain⟨W,eW⟩:∃W,W=(w.alloc (.cells #[.slice A1 m d1,.slice A2 T.K.length d2,.slice A3 T.P.length d3] 60)).alloc (.cells #[.string ⟨p.f.toArray⟩,.string ⟨p.t.toArray⟩,.slice A5 n d5] 273):=⟨_,rfl⟩
 rw[←eW] at HB HK1 HK2 HR HV⊢
 clear eW
 have hsz:(w.alloc (.cells #[.slice A1 m d1,.slice A2 T.K.length d2,.slice A3 T.P.length d3] 60)).heap.size=w.heap.size+1:=by simp
 rw[hsz] at HK2
 clear hsz
 go_loopw [5] (fun iv wr=>∃i:Nat,i≤n∧iv = .int .i64 (i:Int)∧(p.v.take i).all (onB T.R p)=true∧(p.v.take i).Nodup∧Drawn W wr) (fun iv _=>n - (intOf iv).toNat)
 case atStart=>exact⟨0,Nat.zero_le _,rfl,by simp,by simp,Drawn.refl _⟩
 case round=>
  obtain⟨i,hi,rfl,hn,hnd,hd⟩:=hrel
  have HN:=Lib.hid hn;clear hn
  have HND:=Lib.hid hnd;clear hnd
  have HRW:=Lib.hid (show Rd wr B A1 (strs T.R) by obtain⟨q,rfl⟩:=hd;exact HR.out.drewN q)
  have HVW:=Lib.hid (show Rd wr B A5 (strs p.v) by obtain⟨q,rfl⟩:=hd;exact HV.out.drewN q)
  have k0:wr.cell? ⟨w.heap.size,0,none⟩=some (.slice A1 m d1):=by obtain⟨q,rfl⟩:=hd;exact HK1.out.cell 0
  have k1:wr.cell? ⟨w.heap.size+1,0,none⟩=some (.string ⟨p.f.toArray⟩):=by obtain⟨q,rfl⟩:=hd;exact HK2.out.cell 0
  have k2:wr.cell? ⟨w.heap.size+1,1,none⟩=some (.string ⟨p.t.toArray⟩):=by obtain⟨q,rfl⟩:=hd;exact HK2.out.cell 1
  have k3:wr.cell? ⟨w.heap.size+1,2,none⟩=some (.slice A5 n d5):=by obtain⟨q,rfl⟩:=hd;exact HK2.out.cell 2
  have HDR:=Lib.hid hd;clear hd
  by_cases hlt:i<n
  ·have e1:(i:Int)<(n:Int):=by omega
   have e2:(0:Int)≤(i:Int):=by omega
   have e3:(i:Int)≤(d5:Int):=by omega
   have him:i<p.v.length:=by rw[←EN.out];exact hlt
   have hlen:(p.v.take i).length=i:=by simp;omega
   have C4:=Lib.hid (PV.out i him)
   rw[hlen] at C4
   have hal:=all_succ (p:=onB T.R p) him
   rw[HN.out,Bool.true_and,←pl_lt him] at hal
   have haf:=all_false (p:=onB T.R p) him
   rw[←pl_lt him] at haf
   have hnd:=nodup_succ him
   rw[←pl_lt him] at hnd
   obtain⟨b,o,eA,_,h1⟩:=rd_txt HVW.out him
   subst eA
   obtain⟨x,ex⟩:∃x,x=pl p.v i:=⟨_,rfl⟩
   rw[←ex] at hal haf hnd h1 C4
   have C3:=Lib.hid (PR.out x)
   have HAL:=Lib.hid hal;have HAF:=Lib.hid haf;have HNDS:=Lib.hid hnd
   clear ex him hlen hal haf hnd
   by_cases q1:x∈T.R
   ·obtain⟨y1,ey1,hy1⟩:=place_in q1
    rw[←ey1] at C3
    have s4:decide (y1<0)=false:=decide_eq_false (by omega)
    have Q1:=Lib.hid q1
    clear ey1 hy1 q1
    by_cases q2:x∈p.v.take i
    ·obtain⟨y2,ey2,hy2⟩:=place_in q2
     rw[←ey2] at C4
     have s5:decide (0≤y2)=true:=decide_eq_true hy2
     have E:=Lib.hid (show viaB T.R p=false by rw[EQ.out,decide_eq_false (fun h=>(HNDS.out.1 (nodup_take h)).2 q2)];simp)
     clear ey2 hy2 q2
     go_wp2
     go_quiet (first
      |(go_at_call 104;with_reducible refine Calls.mono (C3.out _ (HRW.out.drewN _)) ?_;rintro e w9 ⟨rfl,rfl⟩;exact⟨rfl,_,rfl⟩)
      |(go_at_call 104;with_reducible refine Calls.mono (C4.out _ (HVW.out.drewN _)) ?_;rintro e w9 ⟨rfl,rfl⟩;exact⟨rfl,_,rfl⟩))
     go_wp2
     go_ret
     exact⟨by rw[E.out];rfl,HB.out.trans ((HDR.out.trans ⟨_,rfl⟩).below.mono HB.out.size)⟩
    ·obtain⟨y2,ey2,hy2⟩:=place_out q2
     rw[←ey2] at C4
     have s5:decide (0≤y2)=false:=decide_eq_false (by omega)
     have E2:=Lib.hid (HNDS.out.2 ⟨HND.out,q2⟩)
     clear ey2 hy2 q2
     by_cases q3:x=p.f
     ·have t3:(x==p.f)=true:=by simpa using q3
      have E:=Lib.hid (show viaB T.R p=false by rw[EQ.out,HAF.out (by rw[onB,decide_eq_false (fun h=>h q3)];rfl)];rfl)
      clear q3
      go_wp2
      go_quiet (first
       |(go_at_call 104;with_reducible refine Calls.mono (C3.out _ (HRW.out.drewN _)) ?_;rintro e w9 ⟨rfl,rfl⟩;exact⟨rfl,_,rfl⟩)
       |(go_at_call 104;with_reducible refine Calls.mono (C4.out _ (HVW.out.drewN _)) ?_;rintro e w9 ⟨rfl,rfl⟩;exact⟨rfl,_,rfl⟩))
      go_wp2
      go_ret
      exact⟨by rw[E.out];rfl,HB.out.trans ((HDR.out.trans ⟨_,rfl⟩).below.mono HB.out.size)⟩
     ·have t3:(x==p.f)=false:=by simpa using q3
      by_cases q4:x=p.t
      ·have t4:(x==p.t)=true:=by simpa using q4
       have E:=Lib.hid (show viaB T.R p=false by rw[EQ.out,HAF.out (by rw[onB,decide_eq_false (p:=x≠p.t) (fun h=>h q4)];simp)];rfl)
       clear q3 q4
       go_wp2
       go_quiet (first
        |(go_at_call 104;with_reducible refine Calls.mono (C3.out _ (HRW.out.drewN _)) ?_;rintro e w9 ⟨rfl,rfl⟩;exact⟨rfl,_,rfl⟩)
        |(go_at_call 104;with_reducible refine Calls.mono (C4.out _ (HVW.out.drewN _)) ?_;rintro e w9 ⟨rfl,rfl⟩;exact⟨rfl,_,rfl⟩))
       go_wp2
       go_ret
       exact⟨by rw[E.out];rfl,HB.out.trans ((HDR.out.trans ⟨_,rfl⟩).below.mono HB.out.size)⟩
      ·have t4:(x==p.t)=false:=by simpa using q4
       have E:=Lib.hid (HAL.out.trans (show onB T.R p x=true by rw[onB,decide_eq_true q3,decide_eq_true q4,decide_eq_true Q1.out];rfl))
       clear q3 q4
       go_wp2
       go_quiet (first
        |(go_at_call 104;with_reducible refine Calls.mono (C3.out _ (HRW.out.drewN _)) ?_;rintro e w9 ⟨rfl,rfl⟩;exact⟨rfl,_,rfl⟩)
        |(go_at_call 104;with_reducible refine Calls.mono (C4.out _ (HVW.out.drewN _)) ?_;rintro e w9 ⟨rfl,rfl⟩;exact⟨rfl,_,rfl⟩))
       go_wp2
       go_roundw
       case rel=>exact⟨i+1,by omega,by go_num,E.out,E2.out,HDR.out.trans ⟨_,rfl⟩⟩
       case measure=>simp [intOf];omega
   ·obtain⟨y1,ey1,hy1⟩:=place_out q1
    rw[←ey1] at C3
    have s4:decide (y1<0)=true:=decide_eq_true hy1
    have E:=Lib.hid (show viaB T.R p=false by rw[EQ.out,HAF.out (by rw[onB,decide_eq_false q1];simp)];rfl)
    clear ey1 hy1 q1
    go_wp2
    go_quiet (first
     |(go_at_call 104;with_reducible refine Calls.mono (C3.out _ (HRW.out.drewN _)) ?_;rintro e w9 ⟨rfl,rfl⟩;exact⟨rfl,_,rfl⟩))
    go_wp2
    go_ret
    exact⟨by rw[E.out];rfl,HB.out.trans ((HDR.out.trans ⟨_,rfl⟩).below.mono HB.out.size)⟩
  ·have e1:¬(i:Int)<(n:Int):=by omega
   have hiP:p.v.length≤i:=by have:=EN.out;omega
   have E:=Lib.hid (show viaB T.R p=true by
    have h:=HND.out
    rw[List.take_of_length_le hiP] at h
    rw[EQ.out,all_take hiP HN.out,decide_eq_true h];rfl)
   go_wp2
   go_ret
   exact⟨by rw[E.out];rfl,HB.out.trans (HDR.out.below.mono HB.out.size)⟩
end Go.Proofs.YtfcjeebnkigeaaaGreat.Rt
end

section
set_option linter.unusedVariables false
namespace Go.Proofs.YtfcjeebnkigeaaaGreat.Rt
open Go.RowKit Go.Proofs.YtfcjeebnkigeaaaGreat.Mem Go.Proofs.YtfcjeebnkigeaaaGreat.Nm
theorem path_of {R:List L} {p:Pa} (h:pairB R (p.f,p.t)=true):pathB R p=viaB R p:=by rw[pathB,h];rfl
theorem path_a {R:List L} {p:Pa} (h:p.f∉R):pathB R p=false:=by rw[pathB,pairB];simp [h]
theorem path_b {R:List L} {p:Pa} (h:p.t∉R):pathB R p=false:=by rw[pathB,pairB];simp [h]
theorem path_c {R:List L} {p:Pa} (h:p.f=p.t):pathB R p=false:=by rw[pathB,pairB];simp [h]
theorem path_d {R:List L} {p:Pa} (h:¬p.v.length≤4):pathB R p=false:=by rw[pathB,viaB,decide_eq_false h];simp
set_option maxHeartbeats 1600000 in
theorem rpath_any (p:Pa) (T:Tp) (v u:Value) (B:Nat) (w:World) (hs:Sm T) (hp:p.v.length≤3000) (hv:TpV w B v T) (hu:PaV w B u p) (hB:B≤w.heap.size) :
  Calls Tryz.prog 154 #[v,u] w fun e w'=>e = .returned (.bool (pathB T.R p))∧Below w.heap.size w w':=by
 by_cases hgood:pairB T.R (p.f,p.t)=true∧p.v.length≤4
 ·rw[path_of hgood.1]
  exact rpath_yes p T v u B w hs hp hv hu hB hgood.1 hgood.2
 obtain⟨v1,v2,v3,rfl,⟨A1,d1,rfl,hc1,r1⟩,⟨A2,d2,rfl,hc2,r2⟩,⟨A3,d3,rfl,hc3,r3⟩⟩:=hv
 obtain⟨u1,rfl,⟨A5,d5,rfl,hc5,r5⟩⟩:=hu
 have hb1:=(Below.refl w.heap.size w).alloc (Nat.le_refl _) (.cells #[.slice A1 T.R.length d1,.slice A2 T.K.length d2,.slice A3 T.P.length d3] 60)
 have hb2:=hb1.alloc hb1.size (.cells #[.string ⟨p.f.toArray⟩,.string ⟨p.t.toArray⟩,.slice A5 p.v.length d5] 273)
 have HB:=Lib.hid hb2
 have HR:=Lib.hid (r1.below (hb2.mono hB))
 have PR:=Lib.hid (fun x w1 (h:Rd w1 B A1 (strs T.R))=>place_any T.R A1 d1 B x w1 (by have:=hs.r;omega) h)
 have c1:=PR.out p.f
 have c2:=PR.out p.t
 have EA:=Lib.hid (@path_a T.R p);have EB:=Lib.hid (@path_b T.R p);have EC:=Lib.hid (@path_c T.R p);have ED:=Lib.hid (@path_d T.R p)
 have HG:=Lib.hid (show ¬(p.f∈T.R∧p.t∈T.R∧p.f≠p.t∧p.v.length≤4) from fun h=>hgood ⟨by rw[pairB];simp [h.1,h.2.1,h.2.2.1],h.2.2.2⟩)
 obtain⟨n,en⟩:∃n,n=p.v.length:=⟨_,rfl⟩
 obtain⟨m,em⟩:∃m,m=T.R.length:=⟨_,rfl⟩
 clear hb1 hb2 hgood
 rw[←en] at HB HR ED HG hp
 rw[←em] at HB HR PR c1 c2
 rw[←en,←em]
 clear en em r1 r2 r3 r5 hB hs hc1 hc2 hc3 hc5
 by_cases q1:p.f∈T.R
 ·obtain⟨z1,ez1,hz1⟩:=place_in q1
  rw[←ez1] at c1
  have s1:decide (z1<0)=false:=decide_eq_false (by omega)
  have C1:=Lib.hid c1;clear c1 ez1 hz1
  by_cases q2:p.t∈T.R
  ·obtain⟨z2,ez2,hz2⟩:=place_in q2
   rw[←ez2] at c2
   have s2:decide (z2<0)=false:=decide_eq_false (by omega)
   have C2:=Lib.hid c2;clear c2 ez2 hz2
   by_cases q3:p.f=p.t
   ·have t3:(p.f==p.t)=true:=by simpa using q3
    have E:=Lib.hid (EC.out q3)
    clear q1 q2 q3
    go_enter Tryz.func154,Tryz.ntmps154
    go_wp2_with (first
     |(go_at_call 104;with_reducible refine Calls.mono (C1.out _ HR.out) ?_;rintro e w1 ⟨rfl,rfl⟩;clear C1)
     |(go_at_call 104;with_reducible refine Calls.mono (C2.out _ HR.out) ?_;rintro e w1 ⟨rfl,rfl⟩;clear C2))
    go_ret
    exact⟨by rw[E.out];rfl,HB.out⟩
   ·have t3:(p.f==p.t)=false:=by simpa using q3
    have h4:¬n≤4:=fun h=>HG.out ⟨q1,q2,q3,h⟩
    have s3:decide (4<(n:Int))=true:=by simp;omega
    have E:=Lib.hid (ED.out h4)
    clear q1 q2 q3 h4
    go_enter Tryz.func154,Tryz.ntmps154
    go_wp2_with (first
     |(go_at_call 104;with_reducible refine Calls.mono (C1.out _ HR.out) ?_;rintro e w1 ⟨rfl,rfl⟩;clear C1)
     |(go_at_call 104;with_reducible refine Calls.mono (C2.out _ HR.out) ?_;rintro e w1 ⟨rfl,rfl⟩;clear C2))
    go_ret
    exact⟨by rw[E.out];rfl,HB.out⟩
  ·obtain⟨z2,ez2,hz2⟩:=place_out q2
   rw[←ez2] at c2
   have s2:decide (z2<0)=true:=decide_eq_true hz2
   have C2:=Lib.hid c2;clear c2 ez2 hz2
   have E:=Lib.hid (EB.out q2)
   clear q1 q2
   go_enter Tryz.func154,Tryz.ntmps154
   go_wp2_with (first
    |(go_at_call 104;with_reducible refine Calls.mono (C1.out _ HR.out) ?_;rintro e w1 ⟨rfl,rfl⟩;clear C1)
    |(go_at_call 104;with_reducible refine Calls.mono (C2.out _ HR.out) ?_;rintro e w1 ⟨rfl,rfl⟩;clear C2))
   go_ret
   exact⟨by rw[E.out];rfl,HB.out⟩
 ·obtain⟨z1,ez1,hz1⟩:=place_out q1
  rw[←ez1] at c1
  have s1:decide (z1<0)=true:=decide_eq_true hz1
  have C1:=Lib.hid c1;clear c1 c2 ez1 hz1
  have E:=Lib.hid (EA.out q1)
  clear q1
  go_enter Tryz.func154,Tryz.ntmps154
  go_wp2_with (go_at_call 104;with_reducible refine Calls.mono (C1.out _ HR.out) ?_;rintro e w1 ⟨rfl,rfl⟩;clear C1)
  go_ret
  exact⟨by rw[E.out];rfl,HB.out⟩
end Go.Proofs.YtfcjeebnkigeaaaGreat.Rt
end
