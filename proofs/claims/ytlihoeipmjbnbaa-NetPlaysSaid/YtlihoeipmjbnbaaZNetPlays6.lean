import Derived.Test.YtlihoeipmjbnbaaProg
import Derived.StillTailTactics
import Derived.Deep.CutBlock
import Derived.Laws.StructEq
import Derived.Deep.RegionHeld3
import Derived.Deep.LoopGhost
import Derived.Test.YtlihoeipmjbnbaaZNetPlays1
import Derived.Test.YtlihoeipmjbnbaaZNetPlays2
import Derived.Test.YtlihoeipmjbnbaaZNetPlays3
import Derived.Test.YtlihoeipmjbnbaaZNetPlays4
import Derived.Test.YtlihoeipmjbnbaaZNetPlays5
section
set_option linter.unusedVariables false
set_option linter.unusedSimpArgs false
namespace Go.Proofs.Ytlihoeipmjbnbaa.Nt
open Go.RowKit Go.Proofs.Ytlihoeipmjbnbaa.Mem Go.Proofs.Ytlihoeipmjbnbaa.Se
open Go.Proofs.Ytlihoeipmjbnbaa.Nm (L)
open Go.Proofs.Ytlihoeipmjbnbaa.Ca (Own1 rd_chg row_blk row_mk flat_take)
open Go.Proofs.Ytlihoeipmjbnbaa.Rg (flat_len flat_at flat_one RdR own_rdr own_chg)
theorem dn_row {w0 w6:World} {B r:Nat} {vs vw v6:Value} {es ws ws6:List En} (h:DN w0 B r vs vw es ws) (hb:Below w0.heap.size w0 w6) (ho:w6.ownsRow B 32 3 v6 ws6.length (ws6.flatMap enC)) (hv:∀k,v6.ownBlock=some k→w0.heap.size≤k) :
  DN (w6.setCell ⟨r,0,none⟩ v6) B r vs v6 es ws6∧Chg (DT r vs vw) w0 (w6.setCell ⟨r,0,none⟩ v6)∧(∀q,DO r vs v6 es q→DO r vs vw es q∨w0.heap.size≤q):=by
 have hset:Chg (fun q=>q=r) w6 (w6.setCell ⟨r,0,none⟩ v6):=Chg.set (p:=⟨r,0,none⟩) (Chg.refl (fun q=>q=r) w6) (.inl rfl) v6
 have h6:=h.below hb
 have hrl:=h.lt
 refine⟨⟨h6.blk.set 0 v6,own_chg hset h6.row (fun k hk x=>h.vr (x▸hk)),own_chg hset ho (fun k hk x=>by have:=hv k hk;omega),h.lo,h.vr,fun x=>by have:=hv _ x;omega,fun k hk x=>by have:=hv _ x;have:=(World.ownsRow.lt h.row k hk).2;omega,fun y hy=>rd_chg (h6.rd y hy) hset (fun a ha x=>(h6.off y hy a ha).2.1 x),fun y hy a ha=>?_⟩,(Chg.of_below hb:Chg (DT r vs vw) w0 w6).trans hset (fun q _ x=>.inl x),fun q hq=>?_⟩
 ·have q:=h6.off y hy a ha
  exact⟨q.1,q.2.1,q.2.2.1,fun x=>by have:=hv _ x;have:=(h.off y hy a ha).2.2.2.2;omega,Nat.lt_of_lt_of_le q.2.2.2.2 hset.size⟩
 ·rcases hq with hq | hq | hq | hq
  ·exact .inl (.inl hq)
  ·exact .inl (.inr (.inl hq))
  ·exact .inr (hv q hq)
  ·exact .inl (.inr (.inr (.inr hq)))
theorem flat3_drop (ls:List En) (k q:Nat) (hk:k≤ls.length):((ls.drop k).flatMap enC)[q]? = (ls.flatMap enC)[k*3+q]?:=by
 conv=>rhs;rw[←List.take_append_drop k ls,List.flatMap_append]
 have hl:((ls.take k).flatMap enC).length=k*3:=by rw[flat_len enC 3 enC_length,List.length_take,Nat.min_eq_left hk]
 rw[List.getElem?_append_right (by rw[hl];omega),hl,show k*3+q - k*3=q by omega]
section
variable {w:World} {B g c n:Nat} {ls:List En}
theorem row_head (h:w.ownsRow B 32 3 (.slice (some ⟨g,0,none⟩) n c) n (ls.flatMap enC)) (k:Nat):∀j u,((ls.take k).flatMap enC)[j]? = some u→w.cell? ((⟨g,0,none⟩:Addr).add j)=some u:=fun j u hu=>by
 rw[←flat_take enC_length,List.getElem?_take] at hu
 by_cases hj:j<k*3
 ·rw[if_pos hj] at hu;exact h.cells (g:=g) rfl j u hu
 ·rw[if_neg hj] at hu;cases hu
theorem row_tail (h:w.ownsRow B 32 3 (.slice (some ⟨g,0,none⟩) n c) n (ls.flatMap enC)) (k:Nat) (hk:k≤ls.length) {AD:Addr} (hc:ls.length≤c) (ha:(if c=k then some (⟨g,0,none⟩:Addr) else some ⟨g,k*3,none⟩)=some AD):∀j u,((ls.drop k).flatMap enC)[j]? = some u→w.cell? (AD.add j)=some u:=fun j u hu=>by
 by_cases hd:ls.length≤k
 ·rw[List.drop_of_length_le hd] at hu;simp at hu
 ·rw[if_neg (by omega)] at ha
  injection ha with ha
  subst ha
  rw[flat3_drop ls k j hk] at hu
  have:=h.cells (g:=g) rfl (k*3+j) u hu
  rw[addr_add,Nat.zero_add] at this
  rw[addr_add];exact this
end
theorem erase3 {ls:List En} {p:Nat}:ls.take p++ls.drop (p+1)=ls.eraseIdx p:=(List.eraseIdx_eq_take_drop_succ ls p).symm
set_option maxHeartbeats 1600000 in
set_option maxRecDepth 100000 in
theorem same_pk (p q:Pk) (A A':Option Addr) (c c':Nat) (w:World) (e:p=q) (h1:Rd w w.heap.size A (bvs p.b)) (h2:Rd w w.heap.size A' (bvs q.b)) :
  Calls Try.prog 14 #[.agg (pkA p A c),.agg (pkA q A' c')] w fun e w'=>e = .returned (.bool true)∧Below w.heap.size w w':=by
 subst e
 obtain⟨n,en⟩:∃n,n=p.b.length:=⟨_,rfl⟩
 obtain⟨W,eW⟩:∃W,W=(w.alloc (.cells #[.int .i64 p.f,.int .i64 p.t,.slice A n c] 32)).alloc (.cells #[.int .i64 p.f,.int .i64 p.t,.slice A' n c'] 32):=⟨_,rfl⟩
 have hb:Below w.heap.size w W:=eW▸((Below.refl _ _).alloc (Nat.le_refl _) _).alloc (by simp) _
 have hp:Blk W w.heap.size 32 #[.int .i64 p.f,.int .i64 p.t,.slice A n c]:=eW▸(Blk.new w _ _).alloc _
 have hq:Blk W (w.heap.size+1) 32 #[.int .i64 p.f,.int .i64 p.t,.slice A' n c']:=by
  have:=Blk.new (w.alloc (.cells #[.int .i64 p.f,.int .i64 p.t,.slice A n c] 32)) 32 #[.int .i64 p.f,.int .i64 p.t,.slice A' n c']
  simp only[World.size_alloc] at this
  exact eW▸this
 have a0:W.cell? ⟨w.heap.size,0,none⟩=some (.int .i64 p.f):=hp.cell 0
 have a1:W.cell? ⟨w.heap.size,1,none⟩=some (.int .i64 p.t):=hp.cell 1
 have a2:W.cell? ⟨w.heap.size,2,none⟩=some (.slice A n c):=hp.cell 2
 have b0:W.cell? ⟨w.heap.size+1,0,none⟩=some (.int .i64 p.f):=hq.cell 0
 have b1:W.cell? ⟨w.heap.size+1,1,none⟩=some (.int .i64 p.t):=hq.cell 1
 have b2:W.cell? ⟨w.heap.size+1,2,none⟩=some (.slice A' n c'):=hq.cell 2
 have v1:=run_bytes_str (P:=Try.prog) W 30 5 Try.underlying30 Try.underlying5 ((h1.below hb).more hb.size) n c en 9 Try.underlying9
 have v2:=run_bytes_str (P:=Try.prog) W 30 5 Try.underlying30 Try.underlying5 ((h2.below hb).more hb.size) n c' en 9 Try.underlying9
 have HB:=Lib.hid hb
 unfold pkA
 rw[←en]
 clear h1 h2 en hb hp hq
 go_enter Try.func14,Try.ntmps14
 go_upto_region 1 with fail
 rw[←eW]
 clear eW
 go_wp2
 go_ret
 exact⟨rfl,HB.out⟩
set_option maxHeartbeats 1600000 in
set_option maxRecDepth 100000 in
theorem dtwice_no (B r:Nat) (vs vw:Value) (es ws:List En) (i:Int) (w:World) (h:DN w B r vs vw es ws) (hno:¬(hasB ws.length i=true∧ws.length<32)) :
  Calls Try.prog 16 #[.pointer (some ⟨r,0,none⟩),.int .i64 i] w fun e w'=>e = .returned (.bool false)∧Below w.heap.size w w':=by
 obtain⟨m,em⟩:∃m,m=ws.length:=⟨_,rfl⟩
 by_cases hh:hasB ws.length i=true
 ·have hf:32≤ws.length:=by
   rcases Nat.lt_or_ge ws.length 32 with g | g
   ·exact absurd ⟨hh,g⟩ hno
   ·exact g
  have hi:0≤i∧i<(ws.length:Int):=by
   unfold hasB at hh
   simpa using hh
  obtain⟨k,rfl⟩:=Int.eq_ofNat_of_zero_le hi.1
  obtain⟨x,hx⟩:∃x,ws[k]? = some x:=⟨ws[k]'(by omega),List.getElem?_eq_getElem _⟩
  have ca:=dat_ok B r vs vw es ws k x w h hx
  obtain⟨xs,exs⟩:∃xs,xs=pkA x.p x.A x.c:=⟨_,rfl⟩
  rw[←exs] at ca
  have HXS:=Lib.hid (show xs.size=3 by rw[exs];rfl)
  have HXI:=Lib.hid (show(Try.prog.info? 32).map (·.size)=some xs.size by rw[exs];exact pk_info)
  have HX1:=Lib.hid (show xs.all (·.oneCell')=true by rw[exs];exact pkA_one _ _ _)
  obtain⟨A1,c1,evw,_⟩:=h.num2
  have HK:=Lib.hid (show ∀w1,Below w.heap.size w w1→w1.cell? ⟨r,0,none⟩=some (.slice A1 m c1) from fun w1 hb=>by rw[em,←evw];exact(h.below hb).c0)
  have s0:(32:Int)≤(m:Int):=by omega
  clear h hno hh hf hi hx exs evw em
  go_enter Try.func16,Try.ntmps16
  go_wp2_with (first
   |(go_at_call 18;refine Calls.mono ca ?_;rintro e w1 ⟨rfl,hb⟩;clear ca;have HB:=Lib.hid hb;clear hb)
   |(refine Wh.store_new (by rfl) 32 (.tmp 5) (.tmp 11) (by rfl) 32 rfl xs (by rfl) (by rfl) (by rw[HXS.out];rfl) HXI.out HX1.out ?_;rintro V hV hb;replace HB:=Lib.hid (HB.out.trans (hb.mono HB.out.size));have k0:=HK.out _ HB.out;clear hV hb)
   |fail)
  go_ret
  exact⟨rfl,HB.out⟩
 ·rw[Bool.not_eq_true] at hh
  have ca:=dat_no B r vs vw es ws i w h hh
  obtain⟨xs,exs⟩:∃xs,xs=pkA pk0 none 0:=⟨_,rfl⟩
  rw[←exs] at ca
  have HXS:=Lib.hid (show xs.size=3 by rw[exs];rfl)
  have HXI:=Lib.hid (show(Try.prog.info? 32).map (·.size)=some xs.size by rw[exs];exact pk_info)
  have HX1:=Lib.hid (show xs.all (·.oneCell')=true by rw[exs];exact pkA_one _ _ _)
  clear h hno hh exs em
  go_enter Try.func16,Try.ntmps16
  go_wp2_with (first
   |(go_at_call 18;refine Calls.mono ca ?_;rintro e w1 ⟨rfl,hb⟩;clear ca;have HB:=Lib.hid hb;clear hb)
   |(refine Wh.store_new (by rfl) 32 (.tmp 5) (.tmp 11) (by rfl) 32 rfl xs (by rfl) (by rfl) (by rw[HXS.out];rfl) HXI.out HX1.out ?_;rintro V hV hb;replace HB:=Lib.hid (HB.out.trans (hb.mono HB.out.size));clear hV hb)
   |fail)
  go_ret
  exact⟨rfl,HB.out⟩
set_option maxHeartbeats 3200000 in
set_option maxRecDepth 100000 in
theorem dtwice_ok (B r:Nat) (vs vw:Value) (es ws:List En) (i:Nat) (x:En) (w:World) (h:DN w B r vs vw es ws) (hi:ws[i]? = some x) (h1:ws.length<32) :
  Calls Try.prog 16 #[.pointer (some ⟨r,0,none⟩),.int .i64 (i:Int)] w fun e w'=>e = .returned (.bool true)∧∃vw',DSp w w' B r vs vw vs vw' es es (ws++[x]):=by
 obtain⟨m,em⟩:∃m,m=ws.length:=⟨_,rfl⟩
 have ca:=dat_ok B r vs vw es ws i x w h hi
 obtain⟨xs,exs⟩:∃xs,xs=pkA x.p x.A x.c:=⟨_,rfl⟩
 rw[←exs] at ca
 have EXS:=Lib.hid exs
 have HXS:=Lib.hid (show xs.size=3 by rw[exs];rfl)
 have HXI:=Lib.hid (show(Try.prog.info? 32).map (·.size)=some xs.size by rw[exs];exact pk_info)
 have HX1:=Lib.hid (show xs.all (·.oneCell')=true by rw[exs];exact pkA_one _ _ _)
 obtain⟨A1,c1,evw,_⟩:=h.num2
 rw[←em] at evw
 have EVW:=Lib.hid evw
 have HNW:=Lib.hid h
 have HL1:=Lib.hid h1
 have s0:¬(32:Int)≤(m:Int):=by omega
 obtain⟨iP,hiP,hzP,hsP,hbP⟩:=info_parts pk_all
 have KP1:=Lib.hid hiP;have KP2:=Lib.hid hzP;have KP3:=Lib.hid hsP;have KP4:=Lib.hid hbP
 have SP:=Lib.hid (fun(w1:World)=>Wh.run_build_one (P:=Try.prog) w1 27 32 xs iP _ Try.underlying27 hiP hzP (by rw[hsP,exs];rfl) (by rw[exs,pkA_size];omega) (by rw[exs,pkA_size];omega))
 clear h hi h1 exs evw em hiP hzP hsP hbP
 go_enter Try.func16,Try.ntmps16
 go_upto_region 4 with(first
  |(go_at_call 18;refine Calls.mono ca ?_;rintro e w1 ⟨rfl,hb⟩;clear ca;have HBW:=Lib.hid hb;clear hb)
  |(refine Wh.store_new (by rfl) 32 (.tmp 5) (.tmp 11) (by rfl) 32 rfl xs (by rfl) (by rfl) (by rw[HXS.out];rfl) HXI.out HX1.out ?_;rintro V hV hb;have HNP0:=Lib.hid HBW.out.size;replace HBW:=Lib.hid (HBW.out.trans (hb.mono HBW.out.size));have HN:=Lib.hid (HNW.out.below HBW.out);have HP:=Lib.hid hV;have k0:=(EVW.out▸HN.out.c0:V.cell? ⟨r,0,none⟩=some (.slice A1 m c1));clear hV hb)
  |fail)
 clear k0
 obtain⟨NP,eNP⟩:∃NP,NP=w1.heap.size:=⟨_,rfl⟩
 rw[←eNP] at HP HNP0⊢
 have HNP:=Lib.hid (show ¬DO r vs vw es NP from HNW.out.not HNP0.out)
 clear eNP
 have HN0:=Lib.hid HN.out
 have HB:=Lib.hid (Below.refl V.heap.size V)
 have hb:Below V.heap.size V V.drew:=below_drewN (Below.refl _ _) 1
 replace HN:=Lib.hid (HN.out.below hb)
 replace HP:=Lib.hid (HP.out.below hb)
 replace HB:=Lib.hid (HB.out.trans (hb.mono HB.out.size))
 clear hb
 obtain⟨wda,ewd⟩:∃z,z=V.drew:=⟨_,rfl⟩
 refine Reg.any_begin (fun w'=>Blk w' NP 32 xs) 11 rfl (by kernel_rfl) HP.out ?_
 rw[←ewd] at HN HP HB⊢
 clear ewd
 refine Reg.tk 0 (v:=?va1) rfl HP.out (fun w' hS=>?ha1) ?ra1
 case ha1=>go_simp<;>rfl
 simp only[Act.put,Reg.s0,Reg.s1,Reg.s2]
 refine Reg.tk 1 (v:=?va2) rfl HP.out (fun w' hS=>?ha2) ?ra2
 case ha2=>go_simp<;>rfl
 simp only[Act.put,Reg.s0,Reg.s1,Reg.s2]
 refine Reg.tk 2 (v:=?va3) rfl HP.out (fun w' hS=>?ha3) ?ra3
 case ha3=>go_simp<;>rfl
 simp only[Act.put,Reg.s0,Reg.s1,Reg.s2]
 refine Reg.tk 3 (v:=?va4) rfl HP.out (fun w' hS=>?ha4) ?ra4
 case ha4=>go_simp<;>rfl
 simp only[Act.put,Reg.s0,Reg.s1,Reg.s2]
 refine Reg.tk 5 (v:=.agg xs) rfl HP.out (fun w' hS=>?ha5) ?ra5
 case ha5=>exact Wh.exec_load (.tmp 5) rfl rfl hS Try.underlying32 rfl HXI.out
 simp only[Act.put,Reg.s0,Reg.s1,Reg.s2]
 refine Reg.both_all [4,6] (by kernel_rfl) (by simp) ?_
 intro j0 hj0
 have hj0:j0=4∨j0=6:=by simpa using hj0
 rcases hj0 with rfl | rfl
 ·left
  refine⟨_,_,_,_,_,_,(.slice A1 m c1),wda,rfl,by rfl,(by have kw:=(EVW.out▸HN.out.c0:World.cell? _ ⟨r,0,none⟩=some (.slice A1 m c1));(go_simp<;>rfl)),HP.out,?_⟩
  simp only[Act.put,Reg.s0,Reg.s1,Reg.s2]
  refine Reg.both_all [6] (by kernel_rfl) (by simp) ?_
  intro j0 hj0
  obtain rfl:j0=6:=by simpa using hj0
  clear hj0
  left
  have hb:Below wda.heap.size wda (wda.alloc (.cells xs 32)):=(Below.refl _ _).alloc (Nat.le_refl _) _
  refine⟨_,_,_,_,_,_,.slice (some ⟨wda.heap.size,0,none⟩) 1 1,(wda.alloc (.cells xs 32)),rfl,by rfl,exec_slice rfl (SP.out _),(HP.out.below hb),?_⟩
  simp only[Act.put,Reg.s0,Reg.s1,Reg.s2]
  have HNB:=Lib.hid (Blk.new wda 32 xs)
  replace HN:=Lib.hid (HN.out.below hb)
  replace HP:=Lib.hid (HP.out.below hb)
  replace HB:=Lib.hid (HB.out.trans (hb.mono HB.out.size))
  clear hb
  obtain⟨wa6,ewa6⟩:∃z,z=(wda.alloc (.cells xs 32)):=⟨_,rfl⟩
  rw[←ewa6] at HN HP HB HNB⊢
  clear ewa6
  obtain⟨Gwa6,eGwa6⟩:∃z,z=wda.heap.size:=⟨_,rfl⟩
  rw[←eGwa6] at HNB⊢
  clear eGwa6
  refine Reg.both_all [7] (by kernel_rfl) (by simp) ?_
  intro j0 hj0
  obtain rfl:j0=7:=by simpa using hj0
  clear hj0
  left
  obtain⟨v6,wa7,hrun,ho6,hg6,hv6⟩:=Wh.app_run (P:=Try.prog) enC 3 40 enC_length enC_one wa6 27 27 32 iP _ Try.underlying27 KP1.out KP2.out KP3.out KP4.out (by rfl) (by omega) B vw ws HN.out.way x Gwa6 (show Blk _ _ _ (pkA x.p x.A x.c) from EXS.out▸HNB.out) (by have:=HL1.out;omega) (by omega) HN.out.big
  obtain⟨hn6,hc6,hq6⟩:=dn_way HN0.out HB.out HN.out ho6 hg6 hv6
  have hr6:=HN.out.blk.grown hg6 HN.out.wr
  have hpx:=HP.out.grown hg6 (fun x=>HNP.out (.inr (.inr (.inl x))))
  refine⟨_,_,_,_,_,_,v6,wa7,rfl,by rfl,exec_app (by rw[EVW.out];rfl) rfl hrun,hpx,?_⟩
  simp only[Act.put,Reg.s0,Reg.s1,Reg.s2]
  refine Reg.tk 8 (v:=?va8) rfl hpx (fun w' hS=>?ha8) ?ra8
  case ha8=>go_simp<;>rfl
  simp only[Act.put,Reg.s0,Reg.s1,Reg.s2]
  refine Reg.tk 9 (v:=?va9) rfl hpx (fun w' hS=>?ha9) ?ra9
  case ha9=>go_simp<;>rfl
  simp only[Act.put,Reg.s0,Reg.s1,Reg.s2]
  obtain⟨A7,c7,e7,_⟩:=own_rdr enC_length ho6
  obtain⟨m7,em7⟩:∃m7,m7=(ws++[x]).length:=⟨_,rfl⟩
  rw[←em7] at e7
  subst e7
  have f0:=hr6.frozen 0
  have k6:wa7.cell? ⟨r,0,none⟩=some vw:=hr6.cell 0
  refine Reg.any_store 10 (wa7.setCell ⟨r,0,none⟩ (.slice A7 m7 c7)) rfl (by kernel_rfl) (by rfl) (by go_simp) (Si.Blk.far hpx _ _ (fun e=>HNP.out (.inl e.symm))) ?_
  simp only[Act.put,Reg.s0,Reg.s1,Reg.s2]
  refine wpAnyH_done (by kernel_rfl) ?_ _
  have HFN:=Lib.hid hn6;have HFC:=Lib.hid hc6;have HFQ:=Lib.hid hq6
  clear f0 k6 hr6 ho6 hg6 hv6 hrun em7 hpx hn6 hc6 hq6
  go_wp2
  go_ret
  exact⟨rfl,_,HFN.out,(Chg.of_below HBW.out).trans HFC.out (fun q _ x=>dt_do x),fun q hq=>(HFQ.out q hq).imp id (fun y=>Nat.le_trans HBW.out.size y)⟩
 ·left
  have hb:Below wda.heap.size wda (wda.alloc (.cells xs 32)):=(Below.refl _ _).alloc (Nat.le_refl _) _
  refine⟨_,_,_,_,_,_,.slice (some ⟨wda.heap.size,0,none⟩) 1 1,(wda.alloc (.cells xs 32)),rfl,by rfl,exec_slice rfl (SP.out _),(HP.out.below hb),?_⟩
  simp only[Act.put,Reg.s0,Reg.s1,Reg.s2]
  have HNB:=Lib.hid (Blk.new wda 32 xs)
  replace HN:=Lib.hid (HN.out.below hb)
  replace HP:=Lib.hid (HP.out.below hb)
  replace HB:=Lib.hid (HB.out.trans (hb.mono HB.out.size))
  clear hb
  obtain⟨wa10,ewa10⟩:∃z,z=(wda.alloc (.cells xs 32)):=⟨_,rfl⟩
  rw[←ewa10] at HN HP HB HNB⊢
  clear ewa10
  obtain⟨Gwa10,eGwa10⟩:∃z,z=wda.heap.size:=⟨_,rfl⟩
  rw[←eGwa10] at HNB⊢
  clear eGwa10
  refine Reg.both_all [4] (by kernel_rfl) (by simp) ?_
  intro j0 hj0
  obtain rfl:j0=4:=by simpa using hj0
  clear hj0
  left
  refine⟨_,_,_,_,_,_,(.slice A1 m c1),wa10,rfl,by rfl,(by have kw:=(EVW.out▸HN.out.c0:World.cell? _ ⟨r,0,none⟩=some (.slice A1 m c1));(go_simp<;>rfl)),HP.out,?_⟩
  simp only[Act.put,Reg.s0,Reg.s1,Reg.s2]
  refine Reg.both_all [7] (by kernel_rfl) (by simp) ?_
  intro j0 hj0
  obtain rfl:j0=7:=by simpa using hj0
  clear hj0
  left
  obtain⟨v6,wa11,hrun,ho6,hg6,hv6⟩:=Wh.app_run (P:=Try.prog) enC 3 40 enC_length enC_one wa10 27 27 32 iP _ Try.underlying27 KP1.out KP2.out KP3.out KP4.out (by rfl) (by omega) B vw ws HN.out.way x Gwa10 (show Blk _ _ _ (pkA x.p x.A x.c) from EXS.out▸HNB.out) (by have:=HL1.out;omega) (by omega) HN.out.big
  obtain⟨hn6,hc6,hq6⟩:=dn_way HN0.out HB.out HN.out ho6 hg6 hv6
  have hr6:=HN.out.blk.grown hg6 HN.out.wr
  have hpx:=HP.out.grown hg6 (fun x=>HNP.out (.inr (.inr (.inl x))))
  refine⟨_,_,_,_,_,_,v6,wa11,rfl,by rfl,exec_app (by rw[EVW.out];rfl) rfl hrun,hpx,?_⟩
  simp only[Act.put,Reg.s0,Reg.s1,Reg.s2]
  refine Reg.tk 8 (v:=?va12) rfl hpx (fun w' hS=>?ha12) ?ra12
  case ha12=>go_simp<;>rfl
  simp only[Act.put,Reg.s0,Reg.s1,Reg.s2]
  refine Reg.tk 9 (v:=?va13) rfl hpx (fun w' hS=>?ha13) ?ra13
  case ha13=>go_simp<;>rfl
  simp only[Act.put,Reg.s0,Reg.s1,Reg.s2]
  obtain⟨A7,c7,e7,_⟩:=own_rdr enC_length ho6
  obtain⟨m7,em7⟩:∃m7,m7=(ws++[x]).length:=⟨_,rfl⟩
  rw[←em7] at e7
  subst e7
  have f0:=hr6.frozen 0
  have k6:wa11.cell? ⟨r,0,none⟩=some vw:=hr6.cell 0
  refine Reg.any_store 10 (wa11.setCell ⟨r,0,none⟩ (.slice A7 m7 c7)) rfl (by kernel_rfl) (by rfl) (by go_simp) (Si.Blk.far hpx _ _ (fun e=>HNP.out (.inl e.symm))) ?_
  simp only[Act.put,Reg.s0,Reg.s1,Reg.s2]
  refine wpAnyH_done (by kernel_rfl) ?_ _
  have HFN:=Lib.hid hn6;have HFC:=Lib.hid hc6;have HFQ:=Lib.hid hq6
  clear f0 k6 hr6 ho6 hg6 hv6 hrun em7 hpx hn6 hc6 hq6
  go_wp2
  go_ret
  exact⟨rfl,_,HFN.out,(Chg.of_below HBW.out).trans HFC.out (fun q _ x=>dt_do x),fun q hq=>(HFQ.out q hq).imp id (fun y=>Nat.le_trans HBW.out.size y)⟩
end Go.Proofs.Ytlihoeipmjbnbaa.Nt
end
