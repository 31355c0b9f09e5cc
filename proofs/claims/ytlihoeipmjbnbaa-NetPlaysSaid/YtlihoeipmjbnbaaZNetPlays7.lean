import Derived.Test.YtlihoeipmjbnbaaProg
import Derived.StillTailTactics
import Derived.Deep.CutBlock
import Derived.Laws.StructEq
import Derived.Deep.RegionHeld3
import Derived.Deep.LoopGhost
import Derived.Test.YtlihoeipmjbnbaaZNetPlays1
import Derived.Test.YtlihoeipmjbnbaaZNetPlays2
import Derived.Test.YtlihoeipmjbnbaaZNetPlays3
import Derived.Test.YtlihoeipmjbnbaaZNetPlays4
import Derived.Test.YtlihoeipmjbnbaaZNetPlays5
import Derived.Test.YtlihoeipmjbnbaaZNetPlays6
section
set_option linter.unusedVariables false
set_option linter.unusedSimpArgs false
namespace Go.Proofs.Ytlihoeipmjbnbaa.Nt
open Go.RowKit Go.Proofs.Ytlihoeipmjbnbaa.Mem Go.Proofs.Ytlihoeipmjbnbaa.Se
open Go.Proofs.Ytlihoeipmjbnbaa.Nm (L)
open Go.Proofs.Ytlihoeipmjbnbaa.Ca (Own1 rd_chg row_blk row_mk flat_take)
open Go.Proofs.Ytlihoeipmjbnbaa.Rg (flat_len flat_at flat_one RdR own_rdr own_chg)
set_option maxHeartbeats 1600000 in
set_option maxRecDepth 100000 in
theorem dpull_no (B r:Nat) (vs vw:Value) (es ws:List En) (i:Int) (w:World) (h:DN w B r vs vw es ws) (hno:hasB ws.length i=false) :
  Calls Try.prog 13 #[.pointer (some ⟨r,0,none⟩),.int .i64 i] w fun e w'=>e = .returned (.tuple #[.agg (pkA pk0 none 0),.bool false])∧Below w.heap.size w w':=by
 obtain⟨zs,ezs⟩:∃zs,zs=pkA pk0 none 0:=⟨_,rfl⟩
 have HZS:=Lib.hid (show zs.size=3 by rw[ezs,pkA_size])
 have HZI:=Lib.hid (show(Try.prog.info? 32).map (·.size)=some zs.size by rw[ezs];exact pk_info)
 have HZ1:=Lib.hid (show zs.all (·.oneCell')=true by rw[ezs];exact pkA_one _ _ _)
 have EZS:=Lib.hid ezs
 obtain⟨W,eW⟩:∃W,W=w.alloc (.cells zs 32):=⟨_,rfl⟩
 have hb:Below w.heap.size w W:=eW▸(Below.refl _ _).alloc (Nat.le_refl _) _
 have HZ:=Lib.hid (show Blk W w.heap.size 32 zs from eW▸Blk.new w _ _)
 have ch:=dat_no B r vs vw es ws i W (h.below hb) hno
 rw[←ezs] at ch⊢
 have HB:=Lib.hid hb
 clear ezs hb h hno
 go_enter Try.func13,Try.ntmps13
 go_upto_region 1 with fail
 rw[←z_pk,←EZS.out,←eW]
 clear eW
 go_wp2_with (first
  |(go_at_call 18;refine Calls.mono ch ?_;rintro e w1 ⟨rfl,hb1⟩;clear ch;replace HZ:=Lib.hid (HZ.out.below hb1);replace HB:=Lib.hid (HB.out.trans (hb1.mono HB.out.size));clear hb1)
  |(refine Wh.store_new (by rfl) 32 (.tmp 6) (.tmp 12) (by rfl) 32 rfl zs (by rfl) (by rfl) (by rw[HZS.out];rfl) HZI.out HZ1.out ?_;rintro V hV hb;have HP:=Lib.hid hV;replace HZ:=Lib.hid (HZ.out.below hb);replace HB:=Lib.hid (HB.out.trans (hb.mono HB.out.size));clear hV hb)
  |(refine Wh.load_g (by rfl) 32 (.tmp 6) (by rfl) _ 0 (by rfl) zs _ (Wh.range_blk HP.out) Try.underlying32 (by rfl) HZI.out ?_)
  |(refine Wh.store_over (by rfl) 32 (.tmp 4) (.tmp 34) (by rfl) w.heap.size 32 zs HZ.out zs (by rfl) (by rfl) (by rfl) HZI.out HZ1.out ?_;rintro V2 hV2 hg;have HV:=Lib.hid hV2;replace HB:=Lib.hid (btg HB.out hg (Nat.le_refl _));clear hV2 hg)
  |fail)
 refine bodyPost_ret (v:=.tuple #[.agg zs,.bool false]) ?_ ?_ ?_
 ·exact results_pair 4 5 32 ⟨w.heap.size,0,none⟩ Try.results13 (by rfl) (Wh.load_blk HV.out Try.underlying32 (by rfl) HZI.out) (by rfl)
 ·rfl
 ·exact⟨rfl,HB.out⟩
theorem pull_end {w V W4 V2:World} {B r:Nat} {vs vw v2:Value} {es ws ws2:List En} (h:DN w B r vs vw es ws) (hb:Below w.heap.size w V) (hz:¬DO r vs vw es w.heap.size) (hn:DN W4 B r vs v2 es ws2) (hc:Chg (DT r vs vw) V W4) (hq:∀q,DO r vs v2 es q→DO r vs vw es q∨V.heap.size≤q) (hg:Chg (fun k=>k=w.heap.size) W4 V2) (hv:w.heap.size<V.heap.size) :
  DSp w V2 B r vs vw vs v2 es es ws2:=by
 have hnz:¬DO r vs v2 es w.heap.size:=fun x=>by
  rcases hq _ x with y | y
  ·exact hz y
  ·omega
 exact⟨hn.chg hg (fun k hk e=>hnz (e▸hk)),((Chg.of_below hb:Chg (DO r vs vw es) w V).trans hc (fun q _ x=>dt_do x)).trans hg (fun q hq e=>by omega),fun q hq2=>(hq q hq2).imp id (fun y=>by omega)⟩
set_option maxHeartbeats 6400000 in
set_option maxRecDepth 100000 in
theorem dpull_ok (B r:Nat) (vs vw:Value) (es ws:List En) (i:Nat) (x:En) (w:World) (h:DN w B r vs vw es ws) (hi:ws[i]? = some x) (hl:ws.length≤1000) :
  Calls Try.prog 13 #[.pointer (some ⟨r,0,none⟩),.int .i64 (i:Int)] w fun e w'=>∃vw',e = .returned (.tuple #[.agg (pkA x.p x.A x.c),.bool true])∧DSp w w' B r vs vw vs vw' es es (ws.eraseIdx i):=by
 have hin:i<ws.length:=(List.getElem?_eq_some_iff.1 hi).1
 obtain⟨zs,ezs⟩:∃zs,zs=pkA pk0 none 0:=⟨_,rfl⟩
 have HZS:=Lib.hid (show zs.size=3 by rw[ezs,pkA_size])
 have EZS:=Lib.hid ezs
 obtain⟨W,eW⟩:∃W,W=w.alloc (.cells zs 32):=⟨_,rfl⟩
 have hb:Below w.heap.size w W:=eW▸(Below.refl _ _).alloc (Nat.le_refl _) _
 have HZ:=Lib.hid (show Blk W w.heap.size 32 zs from eW▸Blk.new w _ _)
 have HNZ:=Lib.hid (show ¬DO r vs vw es w.heap.size from h.not (Nat.le_refl _))
 have HN:=Lib.hid (h.below hb)
 have ch:=dat_ok B r vs vw es ws i x W HN.out hi
 have HBW:=Lib.hid hb
 have HNW:=Lib.hid h
 obtain⟨A1,c1,evw,hc1,_,hr1⟩:=h.num2
 obtain⟨g,rfl,_,_⟩:=hr1.at_ hi
 obtain⟨m,em⟩:∃m,m=ws.length:=⟨_,rfl⟩
 have EM:=Lib.hid em
 have EVN:=Lib.hid evw
 rw[←em] at evw hc1 hin hl
 have EVW:=Lib.hid evw
 have HCV:=Lib.hid hc1
 obtain⟨xs,exs⟩:∃xs,xs=pkA x.p x.A x.c:=⟨_,rfl⟩
 rw[←exs] at ch⊢
 have HXS:=Lib.hid (show xs.size=3 by rw[exs];rfl)
 have HXI:=Lib.hid (show(Try.prog.info? 32).map (·.size)=some xs.size by rw[exs];exact pk_info)
 have HX1:=Lib.hid (show xs.all (·.oneCell')=true by rw[exs];exact pkA_one _ _ _)
 obtain⟨iP,hiP,hzP,hsP,hbP⟩:=info_parts pk_all
 have KP1:=Lib.hid hiP;have KP2:=Lib.hid hzP;have KP3:=Lib.hid hsP;have KP4:=Lib.hid hbP
 obtain⟨AD,hAD⟩:∃AD:Addr,(if c1=i+1 then some (⟨g,0,none⟩:Addr) else some ⟨g,(i+1)*3,none⟩)=some AD:=by
  by_cases hc:c1=i+1
  ·exact⟨_,if_pos hc⟩
  ·exact⟨_,if_neg hc⟩
 have HAD:=Lib.hid hAD
 have HIN:=Lib.hid hin
 have g0:(0:Int)≤(i:Int):=by omega
 have g1:(i:Int)+1≤(m:Int):=by omega
 have g2:(0:Int)≤(i:Int)+1:=by omega
 have g3:i≤c1:=by omega
 have g4:i+1≤c1:=by omega
 have g5:i+1≤m:=by omega
 have g6:(i:Int)≤(c1:Int):=by omega
 have g7:(i:Int)≤1000:=by omega
 have g8:IntKind.i64.wrap ((i:Int)+1)=(i:Int)+1:=by rw[IntKind.wrap_i64];omega
 have HML:=Lib.hid hl
 clear ezs hb h hi hin hl evw hc1 hr1 em exs hiP hzP hsP hbP
 go_enter Try.func13,Try.ntmps13
 go_upto_region 1 with fail
 rw[←z_pk,←EZS.out,←eW]
 clear eW
 go_upto_region 3 with(first
  |(go_at_call 18;refine Calls.mono ch ?_;rintro e w1 ⟨rfl,hb1⟩;clear ch;replace HZ:=Lib.hid (HZ.out.below hb1);replace HN:=Lib.hid (HN.out.below hb1);replace HBW:=Lib.hid (HBW.out.trans (hb1.mono HBW.out.size));clear hb1)
  |(refine Wh.store_new (by rfl) 32 (.tmp 6) (.tmp 12) (by rfl) 32 rfl xs (by rfl) (by rfl) (by rw[HXS.out];rfl) HXI.out HX1.out ?_;rintro V hV hb;have HP:=Lib.hid hV;have HNP:=Lib.hid (HN.out.not (Nat.le_refl w1.heap.size));replace HZ:=Lib.hid (HZ.out.below hb);replace HN:=Lib.hid (HN.out.below hb);replace HBW:=Lib.hid (HBW.out.trans (hb.mono HBW.out.size));clear hV hb)
  |fail)
 obtain⟨NP,eNP⟩:∃NP,NP=w1.heap.size:=⟨_,rfl⟩
 rw[←eNP] at HP HNP⊢
 clear eNP
 have HDL:=Lib.hid (fun(k:Nat) (hk:DO r vs vw es k)=>HN.out.own_lt hk)
 have HNV:=Lib.hid HN.out
 have HZV:=Lib.hid HZ.out.lt
 have HB:=Lib.hid (Below.refl V.heap.size V)
 have hb:Below V.heap.size V V.drew:=below_drewN (Below.refl _ _) 1
 replace HN:=Lib.hid (HN.out.below hb)
 replace HB:=Lib.hid (HB.out.trans (hb.mono HB.out.size))
 clear hb
 obtain⟨wdd,ewd⟩:∃z,z=V.drew:=⟨_,rfl⟩
 refine Reg.any_begin (fun w'=>True) 20 rfl (by kernel_rfl) trivial ?_
 rw[←ewd] at HN HB⊢
 clear ewd
 refine Reg.tk 0 (v:=?vd1) rfl trivial (fun w' hS=>?hd1) ?rd1
 case hd1=>go_simp<;>rfl
 simp only[Act.put,Reg.s0,Reg.s1,Reg.s2]
 refine Reg.tk 2 (v:=?vd2) rfl trivial (fun w' hS=>?hd2) ?rd2
 case hd2=>go_simp<;>rfl
 simp only[Act.put,Reg.s0,Reg.s1,Reg.s2]
 refine Reg.tk 3 (v:=?vd3) rfl trivial (fun w' hS=>?hd3) ?rd3
 case hd3=>go_simp<;>rfl
 simp only[Act.put,Reg.s0,Reg.s1,Reg.s2]
 refine Reg.tk 4 (v:=?vd4) rfl trivial (fun w' hS=>?hd4) ?rd4
 case hd4=>go_simp<;>rfl
 simp only[Act.put,Reg.s0,Reg.s1,Reg.s2]
 refine Reg.tk 6 (v:=?vd5) rfl trivial (fun w' hS=>?hd5) ?rd5
 case hd5=>go_simp<;>rfl
 simp only[Act.put,Reg.s0,Reg.s1,Reg.s2]
 refine Reg.tk 9 (v:=?vd6) rfl trivial (fun w' hS=>?hd6) ?rd6
 case hd6=>go_simp<;>rfl
 simp only[Act.put,Reg.s0,Reg.s1,Reg.s2]
 refine Reg.tk 10 (v:=?vd7) rfl trivial (fun w' hS=>?hd7) ?rd7
 case hd7=>go_simp<;>rfl
 simp only[Act.put,Reg.s0,Reg.s1,Reg.s2]
 refine Reg.tk 11 (v:=?vd8) rfl trivial (fun w' hS=>?hd8) ?rd8
 case hd8=>go_simp<;>rfl
 simp only[Act.put,Reg.s0,Reg.s1,Reg.s2]
 refine Reg.tk 13 (v:=?vd9) rfl trivial (fun w' hS=>?hd9) ?rd9
 case hd9=>go_simp<;>rfl
 simp only[Act.put,Reg.s0,Reg.s1,Reg.s2]
 refine Reg.tk 14 (v:=?vd10) rfl trivial (fun w' hS=>?hd10) ?rd10
 case hd10=>go_simp<;>rfl
 simp only[Act.put,Reg.s0,Reg.s1,Reg.s2]
 refine Reg.both_all [1,5,12] (by kernel_rfl) (by simp) ?_
 intro j0 hj0
 have hj0:j0=1∨j0=5∨j0=12:=by simpa using hj0
 rcases hj0 with rfl | rfl | rfl
 ·left
  have hb:Below wdd.heap.size wdd (wdd.alloc (.cells #[] 32)):=(Below.refl _ _).alloc (Nat.le_refl _) _
  have HO0:=Lib.hid (World.ownsRow_made (base:=B) wdd (e:=32) (size:=3) #[] 0 HN.out.big (by decide) rfl)
  have HG0:=Lib.hid (show ∀k,(Value.slice (some ⟨wdd.heap.size,0,none⟩) 0 0).ownBlock=some k→V.heap.size≤k from fun k hk=>by have h2:some wdd.heap.size=some k:=hk;injection h2 with h2;have:=HB.out.size;omega)
  refine⟨_,_,_,_,_,_,.slice (some ⟨wdd.heap.size,0,none⟩) 0 0,(wdd.alloc (.cells #[] 32)),rfl,by rfl,(by go_simp<;>rfl),trivial,?_⟩
  simp only[Act.put,Reg.s0,Reg.s1,Reg.s2]
  replace HN:=Lib.hid (HN.out.below hb)
  replace HB:=Lib.hid (HB.out.trans (hb.mono HB.out.size))
  clear hb
  obtain⟨wd11,ewd11⟩:∃z,z=(wdd.alloc (.cells #[] 32)):=⟨_,rfl⟩
  rw[←ewd11] at HO0 HN HB⊢
  clear ewd11
  obtain⟨G0,eG0⟩:∃z,z=wdd.heap.size:=⟨_,rfl⟩
  rw[←eG0] at HO0 HG0⊢
  clear eG0
  refine Reg.both_all [5,12] (by kernel_rfl) (by simp) ?_
  intro j0 hj0
  have hj0:j0=5∨j0=12:=by simpa using hj0
  rcases hj0 with rfl | rfl
  ·left
   refine⟨_,_,_,_,_,_,(.slice (some ⟨g,0,none⟩) m c1),wd11,rfl,by rfl,(by have kw:=(EVW.out▸HN.out.c0:World.cell? _ ⟨r,0,none⟩=some (.slice (some ⟨g,0,none⟩) m c1));(go_simp<;>rfl)),trivial,?_⟩
   simp only[Act.put,Reg.s0,Reg.s1,Reg.s2]
   refine Reg.tk 7 (v:=?vd12) rfl trivial (fun w' hS=>?hd12) ?rd12
   case hd12=>go_simp<;>rfl
   simp only[Act.put,Reg.s0,Reg.s1,Reg.s2]
   refine Reg.both_all [8,12] (by kernel_rfl) (by simp) ?_
   intro j0 hj0
   have hj0:j0=8∨j0=12:=by simpa using hj0
   rcases hj0 with rfl | rfl
   ·left
    obtain⟨v1,wd13,hrun,ho1,hg1,_,hv1⟩:=run_append_own_at (P:=Try.prog) wd11 B 27 27 32 iP _ 3 40 Try.underlying27 KP1.out KP2.out KP3.out KP4.out (by rfl) (by omega) _ 0 [] HO0.out ⟨g,0,none⟩ i c1 ((ws.take i).flatMap enC) (by rw[flat_len enC 3 enC_length,List.length_take];have:=HIN.out;have:=EM.out;rw[Nat.min_eq_left (by omega)]) (row_head (EVN.out▸HN.out.way:World.ownsRow _ B 32 3 (.slice (some ⟨g,0,none⟩) ws.length c1) ws.length (ws.flatMap enC)) i) (flat_one enC enC_one _) (by have:=HIN.out;have:=HML.out;unfold maxLen;omega) (by have:=HIN.out;have:=HML.out;omega) HN.out.big
    rw[Nat.zero_add,List.nil_append] at ho1
    have HV1:=Lib.hid (show ∀k,v1.ownBlock=some k→V.heap.size≤k from fun k hk=>by
     rcases hv1 with g | g
     ·exact HG0.out k (g▸hk)
     ·rw[g] at hk;injection hk with hk;have:=HB.out.size;omega)
    have hc1:Chg (fun q=>V.heap.size≤q) wd11 wd13:=⟨hg1.os,hg1.tape,hg1.output,hg1.size,fun i hi hn=>hg1.block i hi (fun e=>hn (HG0.out i e.symm))⟩
    replace HN:=Lib.hid (HN.out.chg hc1 (fun k hk x=>by have:=HDL.out k hk;omega))
    replace HB:=Lib.hid (HB.out.trans (hc1.below HB.out.size (fun q _ hq=>hq)))
    have HO1:=Lib.hid ho1
    refine⟨_,_,_,_,_,_,v1,wd13,rfl,by rfl,exec_app rfl rfl hrun,trivial,?_⟩
    simp only[Act.put,Reg.s0,Reg.s1,Reg.s2]
    clear hrun ho1 hg1 hv1 hc1 HO0
    refine Reg.both_all [12] (by kernel_rfl) (by simp) ?_
    intro j0 hj0
    obtain rfl:j0=12:=by simpa using hj0
    clear hj0
    left
    refine⟨_,_,_,_,_,_,(.slice (some ⟨g,0,none⟩) m c1),wd13,rfl,by rfl,(by have kw:=(EVW.out▸HN.out.c0:World.cell? _ ⟨r,0,none⟩=some (.slice (some ⟨g,0,none⟩) m c1));(go_simp<;>rfl)),trivial,?_⟩
    simp only[Act.put,Reg.s0,Reg.s1,Reg.s2]
    refine Reg.tk 15 (v:=?vd14) rfl trivial (fun w' hS=>?hd14) ?rd14
    case hd14=>go_simp<;>rfl
    simp only[Act.put,Reg.s0,Reg.s1,Reg.s2]
    refine Reg.both_all [16] (by kernel_rfl) (by simp) ?_
    intro j0 hj0
    obtain rfl:j0=16:=by simpa using hj0
    clear hj0
    left
    obtain⟨v2,wd15,hrun,ho2,hg2,_,hv2⟩:=run_append_own_at (P:=Try.prog) wd13 B 27 27 32 iP _ 3 40 Try.underlying27 KP1.out KP2.out KP3.out KP4.out (by rfl) (by omega) v1 i ((ws.take i).flatMap enC) HO1.out AD (m - (i+1)) (c1 - (i+1)) ((ws.drop (i+1)).flatMap enC) (by rw[flat_len enC 3 enC_length,List.length_drop,EM.out]) (row_tail (EVN.out▸HN.out.way:World.ownsRow _ B 32 3 (.slice (some ⟨g,0,none⟩) ws.length c1) ws.length (ws.flatMap enC)) (i+1) (by have:=HIN.out;have:=EM.out;omega) (by have:=HCV.out;rw[EM.out] at this;exact this) HAD.out) (flat_one enC enC_one _) (by have:=HIN.out;have:=HML.out;unfold maxLen;omega) (by have:=HIN.out;have:=HML.out;omega) HN.out.big
    have hc2:Chg (fun q=>V.heap.size≤q) wd13 wd15:=⟨hg2.os,hg2.tape,hg2.output,hg2.size,fun i hi hn=>hg2.block i hi (fun e=>hn (HV1.out i e.symm))⟩
    have HV2:=Lib.hid (show ∀k,v2.ownBlock=some k→V.heap.size≤k from fun k hk=>by
     rcases hv2 with g | g
     ·exact HV1.out k (g▸hk)
     ·rw[g] at hk;injection hk with hk;have:=HB.out.size;omega)
    rw[←List.flatMap_append,erase3,show i+(m - (i+1))=(ws.eraseIdx i).length by rw[List.length_eraseIdx,if_pos (by have:=HIN.out;have:=EM.out;omega),←EM.out];have:=HIN.out;omega] at ho2
    have HN2:=Lib.hid (HN.out.chg hc2 (fun k hk x=>by have:=HDL.out k hk;omega))
    replace HB:=Lib.hid (HB.out.trans (hc2.below HB.out.size (fun q _ hq=>hq)))
    have HFN:=Lib.hid (dn_row HNV.out HB.out ho2 HV2.out)
    refine⟨_,_,_,_,_,_,v2,wd15,rfl,by rfl,exec_app rfl rfl hrun,trivial,?_⟩
    simp only[Act.put,Reg.s0,Reg.s1,Reg.s2]
    refine Reg.tk 17 (v:=?vd16) rfl trivial (fun w' hS=>?hd16) ?rd16
    case hd16=>go_simp<;>rfl
    simp only[Act.put,Reg.s0,Reg.s1,Reg.s2]
    refine Reg.tk 18 (v:=?vd17) rfl trivial (fun w' hS=>?hd17) ?rd17
    case hd17=>go_simp<;>rfl
    simp only[Act.put,Reg.s0,Reg.s1,Reg.s2]
    obtain⟨A7,c7,e7,_⟩:=own_rdr enC_length ho2
    obtain⟨m7,em7⟩:∃m7,m7=(ws.eraseIdx i).length:=⟨_,rfl⟩
    rw[←em7] at e7
    subst e7
    have f0:=HN2.out.blk.frozen 0
    have k6:wd15.cell? ⟨r,0,none⟩=some vw:=HN2.out.blk.cell 0
    refine Reg.any_store 19 (wd15.setCell ⟨r,0,none⟩ (.slice A7 m7 c7)) rfl (by kernel_rfl) (by rfl) (by go_simp) trivial ?_
    simp only[Act.put,Reg.s0,Reg.s1,Reg.s2]
    refine wpAnyH_done (by kernel_rfl) ?_ _
    obtain⟨W4,eW4⟩:∃z,z=wd15.setCell ⟨r,0,none⟩ (.slice A7 m7 c7):=⟨_,rfl⟩
    rw[←eW4] at HFN⊢
    clear eW4 k6 f0 hrun ho2 hg2 hv2 hc2 em7 HO1 HN2 HN HB
    have HP4:=Lib.hid (HFN.out.2.1.blk HP.out (fun x=>HNP.out (dt_do x)))
    have HZ4:=Lib.hid (HFN.out.2.1.blk HZ.out (fun x=>HNZ.out (dt_do x)))
    go_wp2_with (first
     |(refine Wh.load_g (by rfl) 32 (.tmp 6) (by rfl) _ 0 (by rfl) xs _ (Wh.range_blk HP4.out) Try.underlying32 (by rfl) HXI.out ?_)
     |(refine Wh.store_over (by rfl) 32 (.tmp 4) (.tmp 34) (by rfl) w.heap.size 32 zs HZ4.out xs (by rfl) (by rfl) (by rw[HZS.out,HXS.out]) HXI.out HX1.out ?_;rintro V2 hV2 hg;have HV:=Lib.hid hV2;have HGV:=Lib.hid (Chg.of_grown (S:=fun k=>k=w.heap.size) hg rfl);clear hV2 hg)
     |fail)
    refine bodyPost_ret (v:=.tuple #[.agg xs,.bool true]) ?_ ?_ ?_
    ·exact results_pair 4 5 32 ⟨w.heap.size,0,none⟩ Try.results13 (by rfl) (Wh.load_blk HV.out Try.underlying32 (by rfl) HXI.out) (by rfl)
    ·rfl
    ·exact⟨_,rfl,pull_end HNW.out HBW.out HNZ.out HFN.out.1 HFN.out.2.1 HFN.out.2.2 HGV.out HZV.out⟩
   ·left
    refine⟨_,_,_,_,_,_,(.slice (some ⟨g,0,none⟩) m c1),wd11,rfl,by rfl,(by have kw:=(EVW.out▸HN.out.c0:World.cell? _ ⟨r,0,none⟩=some (.slice (some ⟨g,0,none⟩) m c1));(go_simp<;>rfl)),trivial,?_⟩
    simp only[Act.put,Reg.s0,Reg.s1,Reg.s2]
    refine Reg.tk 15 (v:=?vd18) rfl trivial (fun w' hS=>?hd18) ?rd18
    case hd18=>go_simp<;>rfl
    simp only[Act.put,Reg.s0,Reg.s1,Reg.s2]
    refine Reg.both_all [8] (by kernel_rfl) (by simp) ?_
    intro j0 hj0
    obtain rfl:j0=8:=by simpa using hj0
    clear hj0
    left
    obtain⟨v1,wd19,hrun,ho1,hg1,_,hv1⟩:=run_append_own_at (P:=Try.prog) wd11 B 27 27 32 iP _ 3 40 Try.underlying27 KP1.out KP2.out KP3.out KP4.out (by rfl) (by omega) _ 0 [] HO0.out ⟨g,0,none⟩ i c1 ((ws.take i).flatMap enC) (by rw[flat_len enC 3 enC_length,List.length_take];have:=HIN.out;have:=EM.out;rw[Nat.min_eq_left (by omega)]) (row_head (EVN.out▸HN.out.way:World.ownsRow _ B 32 3 (.slice (some ⟨g,0,none⟩) ws.length c1) ws.length (ws.flatMap enC)) i) (flat_one enC enC_one _) (by have:=HIN.out;have:=HML.out;unfold maxLen;omega) (by have:=HIN.out;have:=HML.out;omega) HN.out.big
    rw[Nat.zero_add,List.nil_append] at ho1
    have HV1:=Lib.hid (show ∀k,v1.ownBlock=some k→V.heap.size≤k from fun k hk=>by
     rcases hv1 with g | g
     ·exact HG0.out k (g▸hk)
     ·rw[g] at hk;injection hk with hk;have:=HB.out.size;omega)
    have hc1:Chg (fun q=>V.heap.size≤q) wd11 wd19:=⟨hg1.os,hg1.tape,hg1.output,hg1.size,fun i hi hn=>hg1.block i hi (fun e=>hn (HG0.out i e.symm))⟩
    replace HN:=Lib.hid (HN.out.chg hc1 (fun k hk x=>by have:=HDL.out k hk;omega))
    replace HB:=Lib.hid (HB.out.trans (hc1.below HB.out.size (fun q _ hq=>hq)))
    have HO1:=Lib.hid ho1
    refine⟨_,_,_,_,_,_,v1,wd19,rfl,by rfl,exec_app rfl rfl hrun,trivial,?_⟩
    simp only[Act.put,Reg.s0,Reg.s1,Reg.s2]
    clear hrun ho1 hg1 hv1 hc1 HO0
    refine Reg.both_all [16] (by kernel_rfl) (by simp) ?_
    intro j0 hj0
    obtain rfl:j0=16:=by simpa using hj0
    clear hj0
    left
    obtain⟨v2,wd20,hrun,ho2,hg2,_,hv2⟩:=run_append_own_at (P:=Try.prog) wd19 B 27 27 32 iP _ 3 40 Try.underlying27 KP1.out KP2.out KP3.out KP4.out (by rfl) (by omega) v1 i ((ws.take i).flatMap enC) HO1.out AD (m - (i+1)) (c1 - (i+1)) ((ws.drop (i+1)).flatMap enC) (by rw[flat_len enC 3 enC_length,List.length_drop,EM.out]) (row_tail (EVN.out▸HN.out.way:World.ownsRow _ B 32 3 (.slice (some ⟨g,0,none⟩) ws.length c1) ws.length (ws.flatMap enC)) (i+1) (by have:=HIN.out;have:=EM.out;omega) (by have:=HCV.out;rw[EM.out] at this;exact this) HAD.out) (flat_one enC enC_one _) (by have:=HIN.out;have:=HML.out;unfold maxLen;omega) (by have:=HIN.out;have:=HML.out;omega) HN.out.big
    have hc2:Chg (fun q=>V.heap.size≤q) wd19 wd20:=⟨hg2.os,hg2.tape,hg2.output,hg2.size,fun i hi hn=>hg2.block i hi (fun e=>hn (HV1.out i e.symm))⟩
    have HV2:=Lib.hid (show ∀k,v2.ownBlock=some k→V.heap.size≤k from fun k hk=>by
     rcases hv2 with g | g
     ·exact HV1.out k (g▸hk)
     ·rw[g] at hk;injection hk with hk;have:=HB.out.size;omega)
    rw[←List.flatMap_append,erase3,show i+(m - (i+1))=(ws.eraseIdx i).length by rw[List.length_eraseIdx,if_pos (by have:=HIN.out;have:=EM.out;omega),←EM.out];have:=HIN.out;omega] at ho2
    have HN2:=Lib.hid (HN.out.chg hc2 (fun k hk x=>by have:=HDL.out k hk;omega))
    replace HB:=Lib.hid (HB.out.trans (hc2.below HB.out.size (fun q _ hq=>hq)))
    have HFN:=Lib.hid (dn_row HNV.out HB.out ho2 HV2.out)
    refine⟨_,_,_,_,_,_,v2,wd20,rfl,by rfl,exec_app rfl rfl hrun,trivial,?_⟩
    simp only[Act.put,Reg.s0,Reg.s1,Reg.s2]
    refine Reg.tk 17 (v:=?vd21) rfl trivial (fun w' hS=>?hd21) ?rd21
    case hd21=>go_simp<;>rfl
    simp only[Act.put,Reg.s0,Reg.s1,Reg.s2]
    refine Reg.tk 18 (v:=?vd22) rfl trivial (fun w' hS=>?hd22) ?rd22
    case hd22=>go_simp<;>rfl
    simp only[Act.put,Reg.s0,Reg.s1,Reg.s2]
    obtain⟨A7,c7,e7,_⟩:=own_rdr enC_length ho2
    obtain⟨m7,em7⟩:∃m7,m7=(ws.eraseIdx i).length:=⟨_,rfl⟩
    rw[←em7] at e7
    subst e7
    have f0:=HN2.out.blk.frozen 0
    have k6:wd20.cell? ⟨r,0,none⟩=some vw:=HN2.out.blk.cell 0
    refine Reg.any_store 19 (wd20.setCell ⟨r,0,none⟩ (.slice A7 m7 c7)) rfl (by kernel_rfl) (by rfl) (by go_simp) trivial ?_
    simp only[Act.put,Reg.s0,Reg.s1,Reg.s2]
    refine wpAnyH_done (by kernel_rfl) ?_ _
    obtain⟨W4,eW4⟩:∃z,z=wd20.setCell ⟨r,0,none⟩ (.slice A7 m7 c7):=⟨_,rfl⟩
    rw[←eW4] at HFN⊢
    clear eW4 k6 f0 hrun ho2 hg2 hv2 hc2 em7 HO1 HN2 HN HB
    have HP4:=Lib.hid (HFN.out.2.1.blk HP.out (fun x=>HNP.out (dt_do x)))
    have HZ4:=Lib.hid (HFN.out.2.1.blk HZ.out (fun x=>HNZ.out (dt_do x)))
    go_wp2_with (first
     |(refine Wh.load_g (by rfl) 32 (.tmp 6) (by rfl) _ 0 (by rfl) xs _ (Wh.range_blk HP4.out) Try.underlying32 (by rfl) HXI.out ?_)
     |(refine Wh.store_over (by rfl) 32 (.tmp 4) (.tmp 34) (by rfl) w.heap.size 32 zs HZ4.out xs (by rfl) (by rfl) (by rw[HZS.out,HXS.out]) HXI.out HX1.out ?_;rintro V2 hV2 hg;have HV:=Lib.hid hV2;have HGV:=Lib.hid (Chg.of_grown (S:=fun k=>k=w.heap.size) hg rfl);clear hV2 hg)
     |fail)
    refine bodyPost_ret (v:=.tuple #[.agg xs,.bool true]) ?_ ?_ ?_
    ·exact results_pair 4 5 32 ⟨w.heap.size,0,none⟩ Try.results13 (by rfl) (Wh.load_blk HV.out Try.underlying32 (by rfl) HXI.out) (by rfl)
    ·rfl
    ·exact⟨_,rfl,pull_end HNW.out HBW.out HNZ.out HFN.out.1 HFN.out.2.1 HFN.out.2.2 HGV.out HZV.out⟩
  ·left
   refine⟨_,_,_,_,_,_,(.slice (some ⟨g,0,none⟩) m c1),wd11,rfl,by rfl,(by have kw:=(EVW.out▸HN.out.c0:World.cell? _ ⟨r,0,none⟩=some (.slice (some ⟨g,0,none⟩) m c1));(go_simp<;>rfl)),trivial,?_⟩
   simp only[Act.put,Reg.s0,Reg.s1,Reg.s2]
   refine Reg.tk 15 (v:=?vd23) rfl trivial (fun w' hS=>?hd23) ?rd23
   case hd23=>go_simp<;>rfl
   simp only[Act.put,Reg.s0,Reg.s1,Reg.s2]
   refine Reg.both_all [5] (by kernel_rfl) (by simp) ?_
   intro j0 hj0
   obtain rfl:j0=5:=by simpa using hj0
   clear hj0
   left
   refine⟨_,_,_,_,_,_,(.slice (some ⟨g,0,none⟩) m c1),wd11,rfl,by rfl,(by have kw:=(EVW.out▸HN.out.c0:World.cell? _ ⟨r,0,none⟩=some (.slice (some ⟨g,0,none⟩) m c1));(go_simp<;>rfl)),trivial,?_⟩
   simp only[Act.put,Reg.s0,Reg.s1,Reg.s2]
   refine Reg.tk 7 (v:=?vd24) rfl trivial (fun w' hS=>?hd24) ?rd24
   case hd24=>go_simp<;>rfl
   simp only[Act.put,Reg.s0,Reg.s1,Reg.s2]
   refine Reg.both_all [8] (by kernel_rfl) (by simp) ?_
   intro j0 hj0
   obtain rfl:j0=8:=by simpa using hj0
   clear hj0
   left
   obtain⟨v1,wd25,hrun,ho1,hg1,_,hv1⟩:=run_append_own_at (P:=Try.prog) wd11 B 27 27 32 iP _ 3 40 Try.underlying27 KP1.out KP2.out KP3.out KP4.out (by rfl) (by omega) _ 0 [] HO0.out ⟨g,0,none⟩ i c1 ((ws.take i).flatMap enC) (by rw[flat_len enC 3 enC_length,List.length_take];have:=HIN.out;have:=EM.out;rw[Nat.min_eq_left (by omega)]) (row_head (EVN.out▸HN.out.way:World.ownsRow _ B 32 3 (.slice (some ⟨g,0,none⟩) ws.length c1) ws.length (ws.flatMap enC)) i) (flat_one enC enC_one _) (by have:=HIN.out;have:=HML.out;unfold maxLen;omega) (by have:=HIN.out;have:=HML.out;omega) HN.out.big
   rw[Nat.zero_add,List.nil_append] at ho1
   have HV1:=Lib.hid (show ∀k,v1.ownBlock=some k→V.heap.size≤k from fun k hk=>by
    rcases hv1 with g | g
    ·exact HG0.out k (g▸hk)
    ·rw[g] at hk;injection hk with hk;have:=HB.out.size;omega)
   have hc1:Chg (fun q=>V.heap.size≤q) wd11 wd25:=⟨hg1.os,hg1.tape,hg1.output,hg1.size,fun i hi hn=>hg1.block i hi (fun e=>hn (HG0.out i e.symm))⟩
   replace HN:=Lib.hid (HN.out.chg hc1 (fun k hk x=>by have:=HDL.out k hk;omega))
   replace HB:=Lib.hid (HB.out.trans (hc1.below HB.out.size (fun q _ hq=>hq)))
   have HO1:=Lib.hid ho1
   refine⟨_,_,_,_,_,_,v1,wd25,rfl,by rfl,exec_app rfl rfl hrun,trivial,?_⟩
   simp only[Act.put,Reg.s0,Reg.s1,Reg.s2]
   clear hrun ho1 hg1 hv1 hc1 HO0
   refine Reg.both_all [16] (by kernel_rfl) (by simp) ?_
   intro j0 hj0
   obtain rfl:j0=16:=by simpa using hj0
   clear hj0
   left
   obtain⟨v2,wd26,hrun,ho2,hg2,_,hv2⟩:=run_append_own_at (P:=Try.prog) wd25 B 27 27 32 iP _ 3 40 Try.underlying27 KP1.out KP2.out KP3.out KP4.out (by rfl) (by omega) v1 i ((ws.take i).flatMap enC) HO1.out AD (m - (i+1)) (c1 - (i+1)) ((ws.drop (i+1)).flatMap enC) (by rw[flat_len enC 3 enC_length,List.length_drop,EM.out]) (row_tail (EVN.out▸HN.out.way:World.ownsRow _ B 32 3 (.slice (some ⟨g,0,none⟩) ws.length c1) ws.length (ws.flatMap enC)) (i+1) (by have:=HIN.out;have:=EM.out;omega) (by have:=HCV.out;rw[EM.out] at this;exact this) HAD.out) (flat_one enC enC_one _) (by have:=HIN.out;have:=HML.out;unfold maxLen;omega) (by have:=HIN.out;have:=HML.out;omega) HN.out.big
   have hc2:Chg (fun q=>V.heap.size≤q) wd25 wd26:=⟨hg2.os,hg2.tape,hg2.output,hg2.size,fun i hi hn=>hg2.block i hi (fun e=>hn (HV1.out i e.symm))⟩
   have HV2:=Lib.hid (show ∀k,v2.ownBlock=some k→V.heap.size≤k from fun k hk=>by
    rcases hv2 with g | g
    ·exact HV1.out k (g▸hk)
    ·rw[g] at hk;injection hk with hk;have:=HB.out.size;omega)
   rw[←List.flatMap_append,erase3,show i+(m - (i+1))=(ws.eraseIdx i).length by rw[List.length_eraseIdx,if_pos (by have:=HIN.out;have:=EM.out;omega),←EM.out];have:=HIN.out;omega] at ho2
   have HN2:=Lib.hid (HN.out.chg hc2 (fun k hk x=>by have:=HDL.out k hk;omega))
   replace HB:=Lib.hid (HB.out.trans (hc2.below HB.out.size (fun q _ hq=>hq)))
   have HFN:=Lib.hid (dn_row HNV.out HB.out ho2 HV2.out)
   refine⟨_,_,_,_,_,_,v2,wd26,rfl,by rfl,exec_app rfl rfl hrun,trivial,?_⟩
   simp only[Act.put,Reg.s0,Reg.s1,Reg.s2]
   refine Reg.tk 17 (v:=?vd27) rfl trivial (fun w' hS=>?hd27) ?rd27
   case hd27=>go_simp<;>rfl
   simp only[Act.put,Reg.s0,Reg.s1,Reg.s2]
   refine Reg.tk 18 (v:=?vd28) rfl trivial (fun w' hS=>?hd28) ?rd28
   case hd28=>go_simp<;>rfl
   simp only[Act.put,Reg.s0,Reg.s1,Reg.s2]
   obtain⟨A7,c7,e7,_⟩:=own_rdr enC_length ho2
   obtain⟨m7,em7⟩:∃m7,m7=(ws.eraseIdx i).length:=⟨_,rfl⟩
   rw[←em7] at e7
   subst e7
   have f0:=HN2.out.blk.frozen 0
   have k6:wd26.cell? ⟨r,0,none⟩=some vw:=HN2.out.blk.cell 0
   refine Reg.any_store 19 (wd26.setCell ⟨r,0,none⟩ (.slice A7 m7 c7)) rfl (by kernel_rfl) (by rfl) (by go_simp) trivial ?_
   simp only[Act.put,Reg.s0,Reg.s1,Reg.s2]
   refine wpAnyH_done (by kernel_rfl) ?_ _
   obtain⟨W4,eW4⟩:∃z,z=wd26.setCell ⟨r,0,none⟩ (.slice A7 m7 c7):=⟨_,rfl⟩
   rw[←eW4] at HFN⊢
   clear eW4 k6 f0 hrun ho2 hg2 hv2 hc2 em7 HO1 HN2 HN HB
   have HP4:=Lib.hid (HFN.out.2.1.blk HP.out (fun x=>HNP.out (dt_do x)))
   have HZ4:=Lib.hid (HFN.out.2.1.blk HZ.out (fun x=>HNZ.out (dt_do x)))
   go_wp2_with (first
    |(refine Wh.load_g (by rfl) 32 (.tmp 6) (by rfl) _ 0 (by rfl) xs _ (Wh.range_blk HP4.out) Try.underlying32 (by rfl) HXI.out ?_)
    |(refine Wh.store_over (by rfl) 32 (.tmp 4) (.tmp 34) (by rfl) w.heap.size 32 zs HZ4.out xs (by rfl) (by rfl) (by rw[HZS.out,HXS.out]) HXI.out HX1.out ?_;rintro V2 hV2 hg;have HV:=Lib.hid hV2;have HGV:=Lib.hid (Chg.of_grown (S:=fun k=>k=w.heap.size) hg rfl);clear hV2 hg)
    |fail)
   refine bodyPost_ret (v:=.tuple #[.agg xs,.bool true]) ?_ ?_ ?_
   ·exact results_pair 4 5 32 ⟨w.heap.size,0,none⟩ Try.results13 (by rfl) (Wh.load_blk HV.out Try.underlying32 (by rfl) HXI.out) (by rfl)
   ·rfl
   ·exact⟨_,rfl,pull_end HNW.out HBW.out HNZ.out HFN.out.1 HFN.out.2.1 HFN.out.2.2 HGV.out HZV.out⟩
 ·left
  refine⟨_,_,_,_,_,_,(.slice (some ⟨g,0,none⟩) m c1),wdd,rfl,by rfl,(by have kw:=(EVW.out▸HN.out.c0:World.cell? _ ⟨r,0,none⟩=some (.slice (some ⟨g,0,none⟩) m c1));(go_simp<;>rfl)),trivial,?_⟩
  simp only[Act.put,Reg.s0,Reg.s1,Reg.s2]
  refine Reg.tk 7 (v:=?vd29) rfl trivial (fun w' hS=>?hd29) ?rd29
  case hd29=>go_simp<;>rfl
  simp only[Act.put,Reg.s0,Reg.s1,Reg.s2]
  refine Reg.both_all [1,12] (by kernel_rfl) (by simp) ?_
  intro j0 hj0
  have hj0:j0=1∨j0=12:=by simpa using hj0
  rcases hj0 with rfl | rfl
  ·left
   have hb:Below wdd.heap.size wdd (wdd.alloc (.cells #[] 32)):=(Below.refl _ _).alloc (Nat.le_refl _) _
   have HO0:=Lib.hid (World.ownsRow_made (base:=B) wdd (e:=32) (size:=3) #[] 0 HN.out.big (by decide) rfl)
   have HG0:=Lib.hid (show ∀k,(Value.slice (some ⟨wdd.heap.size,0,none⟩) 0 0).ownBlock=some k→V.heap.size≤k from fun k hk=>by have h2:some wdd.heap.size=some k:=hk;injection h2 with h2;have:=HB.out.size;omega)
   refine⟨_,_,_,_,_,_,.slice (some ⟨wdd.heap.size,0,none⟩) 0 0,(wdd.alloc (.cells #[] 32)),rfl,by rfl,(by go_simp<;>rfl),trivial,?_⟩
   simp only[Act.put,Reg.s0,Reg.s1,Reg.s2]
   replace HN:=Lib.hid (HN.out.below hb)
   replace HB:=Lib.hid (HB.out.trans (hb.mono HB.out.size))
   clear hb
   obtain⟨wd30,ewd30⟩:∃z,z=(wdd.alloc (.cells #[] 32)):=⟨_,rfl⟩
   rw[←ewd30] at HO0 HN HB⊢
   clear ewd30
   obtain⟨G0,eG0⟩:∃z,z=wdd.heap.size:=⟨_,rfl⟩
   rw[←eG0] at HO0 HG0⊢
   clear eG0
   refine Reg.both_all [8,12] (by kernel_rfl) (by simp) ?_
   intro j0 hj0
   have hj0:j0=8∨j0=12:=by simpa using hj0
   rcases hj0 with rfl | rfl
   ·left
    obtain⟨v1,wd31,hrun,ho1,hg1,_,hv1⟩:=run_append_own_at (P:=Try.prog) wd30 B 27 27 32 iP _ 3 40 Try.underlying27 KP1.out KP2.out KP3.out KP4.out (by rfl) (by omega) _ 0 [] HO0.out ⟨g,0,none⟩ i c1 ((ws.take i).flatMap enC) (by rw[flat_len enC 3 enC_length,List.length_take];have:=HIN.out;have:=EM.out;rw[Nat.min_eq_left (by omega)]) (row_head (EVN.out▸HN.out.way:World.ownsRow _ B 32 3 (.slice (some ⟨g,0,none⟩) ws.length c1) ws.length (ws.flatMap enC)) i) (flat_one enC enC_one _) (by have:=HIN.out;have:=HML.out;unfold maxLen;omega) (by have:=HIN.out;have:=HML.out;omega) HN.out.big
    rw[Nat.zero_add,List.nil_append] at ho1
    have HV1:=Lib.hid (show ∀k,v1.ownBlock=some k→V.heap.size≤k from fun k hk=>by
     rcases hv1 with g | g
     ·exact HG0.out k (g▸hk)
     ·rw[g] at hk;injection hk with hk;have:=HB.out.size;omega)
    have hc1:Chg (fun q=>V.heap.size≤q) wd30 wd31:=⟨hg1.os,hg1.tape,hg1.output,hg1.size,fun i hi hn=>hg1.block i hi (fun e=>hn (HG0.out i e.symm))⟩
    replace HN:=Lib.hid (HN.out.chg hc1 (fun k hk x=>by have:=HDL.out k hk;omega))
    replace HB:=Lib.hid (HB.out.trans (hc1.below HB.out.size (fun q _ hq=>hq)))
    have HO1:=Lib.hid ho1
    refine⟨_,_,_,_,_,_,v1,wd31,rfl,by rfl,exec_app rfl rfl hrun,trivial,?_⟩
    simp only[Act.put,Reg.s0,Reg.s1,Reg.s2]
    clear hrun ho1 hg1 hv1 hc1 HO0
    refine Reg.both_all [12] (by kernel_rfl) (by simp) ?_
    intro j0 hj0
    obtain rfl:j0=12:=by simpa using hj0
    clear hj0
    left
    refine⟨_,_,_,_,_,_,(.slice (some ⟨g,0,none⟩) m c1),wd31,rfl,by rfl,(by have kw:=(EVW.out▸HN.out.c0:World.cell? _ ⟨r,0,none⟩=some (.slice (some ⟨g,0,none⟩) m c1));(go_simp<;>rfl)),trivial,?_⟩
    simp only[Act.put,Reg.s0,Reg.s1,Reg.s2]
    refine Reg.tk 15 (v:=?vd32) rfl trivial (fun w' hS=>?hd32) ?rd32
    case hd32=>go_simp<;>rfl
    simp only[Act.put,Reg.s0,Reg.s1,Reg.s2]
    refine Reg.both_all [16] (by kernel_rfl) (by simp) ?_
    intro j0 hj0
    obtain rfl:j0=16:=by simpa using hj0
    clear hj0
    left
    obtain⟨v2,wd33,hrun,ho2,hg2,_,hv2⟩:=run_append_own_at (P:=Try.prog) wd31 B 27 27 32 iP _ 3 40 Try.underlying27 KP1.out KP2.out KP3.out KP4.out (by rfl) (by omega) v1 i ((ws.take i).flatMap enC) HO1.out AD (m - (i+1)) (c1 - (i+1)) ((ws.drop (i+1)).flatMap enC) (by rw[flat_len enC 3 enC_length,List.length_drop,EM.out]) (row_tail (EVN.out▸HN.out.way:World.ownsRow _ B 32 3 (.slice (some ⟨g,0,none⟩) ws.length c1) ws.length (ws.flatMap enC)) (i+1) (by have:=HIN.out;have:=EM.out;omega) (by have:=HCV.out;rw[EM.out] at this;exact this) HAD.out) (flat_one enC enC_one _) (by have:=HIN.out;have:=HML.out;unfold maxLen;omega) (by have:=HIN.out;have:=HML.out;omega) HN.out.big
    have hc2:Chg (fun q=>V.heap.size≤q) wd31 wd33:=⟨hg2.os,hg2.tape,hg2.output,hg2.size,fun i hi hn=>hg2.block i hi (fun e=>hn (HV1.out i e.symm))⟩
    have HV2:=Lib.hid (show ∀k,v2.ownBlock=some k→V.heap.size≤k from fun k hk=>by
     rcases hv2 with g | g
     ·exact HV1.out k (g▸hk)
     ·rw[g] at hk;injection hk with hk;have:=HB.out.size;omega)
    rw[←List.flatMap_append,erase3,show i+(m - (i+1))=(ws.eraseIdx i).length by rw[List.length_eraseIdx,if_pos (by have:=HIN.out;have:=EM.out;omega),←EM.out];have:=HIN.out;omega] at ho2
    have HN2:=Lib.hid (HN.out.chg hc2 (fun k hk x=>by have:=HDL.out k hk;omega))
    replace HB:=Lib.hid (HB.out.trans (hc2.below HB.out.size (fun q _ hq=>hq)))
    have HFN:=Lib.hid (dn_row HNV.out HB.out ho2 HV2.out)
    refine⟨_,_,_,_,_,_,v2,wd33,rfl,by rfl,exec_app rfl rfl hrun,trivial,?_⟩
    simp only[Act.put,Reg.s0,Reg.s1,Reg.s2]
    refine Reg.tk 17 (v:=?vd34) rfl trivial (fun w' hS=>?hd34) ?rd34
    case hd34=>go_simp<;>rfl
    simp only[Act.put,Reg.s0,Reg.s1,Reg.s2]
    refine Reg.tk 18 (v:=?vd35) rfl trivial (fun w' hS=>?hd35) ?rd35
    case hd35=>go_simp<;>rfl
    simp only[Act.put,Reg.s0,Reg.s1,Reg.s2]
    obtain⟨A7,c7,e7,_⟩:=own_rdr enC_length ho2
    obtain⟨m7,em7⟩:∃m7,m7=(ws.eraseIdx i).length:=⟨_,rfl⟩
    rw[←em7] at e7
    subst e7
    have f0:=HN2.out.blk.frozen 0
    have k6:wd33.cell? ⟨r,0,none⟩=some vw:=HN2.out.blk.cell 0
    refine Reg.any_store 19 (wd33.setCell ⟨r,0,none⟩ (.slice A7 m7 c7)) rfl (by kernel_rfl) (by rfl) (by go_simp) trivial ?_
    simp only[Act.put,Reg.s0,Reg.s1,Reg.s2]
    refine wpAnyH_done (by kernel_rfl) ?_ _
    obtain⟨W4,eW4⟩:∃z,z=wd33.setCell ⟨r,0,none⟩ (.slice A7 m7 c7):=⟨_,rfl⟩
    rw[←eW4] at HFN⊢
    clear eW4 k6 f0 hrun ho2 hg2 hv2 hc2 em7 HO1 HN2 HN HB
    have HP4:=Lib.hid (HFN.out.2.1.blk HP.out (fun x=>HNP.out (dt_do x)))
    have HZ4:=Lib.hid (HFN.out.2.1.blk HZ.out (fun x=>HNZ.out (dt_do x)))
    go_wp2_with (first
     |(refine Wh.load_g (by rfl) 32 (.tmp 6) (by rfl) _ 0 (by rfl) xs _ (Wh.range_blk HP4.out) Try.underlying32 (by rfl) HXI.out ?_)
     |(refine Wh.store_over (by rfl) 32 (.tmp 4) (.tmp 34) (by rfl) w.heap.size 32 zs HZ4.out xs (by rfl) (by rfl) (by rw[HZS.out,HXS.out]) HXI.out HX1.out ?_;rintro V2 hV2 hg;have HV:=Lib.hid hV2;have HGV:=Lib.hid (Chg.of_grown (S:=fun k=>k=w.heap.size) hg rfl);clear hV2 hg)
     |fail)
    refine bodyPost_ret (v:=.tuple #[.agg xs,.bool true]) ?_ ?_ ?_
    ·exact results_pair 4 5 32 ⟨w.heap.size,0,none⟩ Try.results13 (by rfl) (Wh.load_blk HV.out Try.underlying32 (by rfl) HXI.out) (by rfl)
    ·rfl
    ·exact⟨_,rfl,pull_end HNW.out HBW.out HNZ.out HFN.out.1 HFN.out.2.1 HFN.out.2.2 HGV.out HZV.out⟩
   ·left
    refine⟨_,_,_,_,_,_,(.slice (some ⟨g,0,none⟩) m c1),wd30,rfl,by rfl,(by have kw:=(EVW.out▸HN.out.c0:World.cell? _ ⟨r,0,none⟩=some (.slice (some ⟨g,0,none⟩) m c1));(go_simp<;>rfl)),trivial,?_⟩
    simp only[Act.put,Reg.s0,Reg.s1,Reg.s2]
    refine Reg.tk 15 (v:=?vd36) rfl trivial (fun w' hS=>?hd36) ?rd36
    case hd36=>go_simp<;>rfl
    simp only[Act.put,Reg.s0,Reg.s1,Reg.s2]
    refine Reg.both_all [8] (by kernel_rfl) (by simp) ?_
    intro j0 hj0
    obtain rfl:j0=8:=by simpa using hj0
    clear hj0
    left
    obtain⟨v1,wd37,hrun,ho1,hg1,_,hv1⟩:=run_append_own_at (P:=Try.prog) wd30 B 27 27 32 iP _ 3 40 Try.underlying27 KP1.out KP2.out KP3.out KP4.out (by rfl) (by omega) _ 0 [] HO0.out ⟨g,0,none⟩ i c1 ((ws.take i).flatMap enC) (by rw[flat_len enC 3 enC_length,List.length_take];have:=HIN.out;have:=EM.out;rw[Nat.min_eq_left (by omega)]) (row_head (EVN.out▸HN.out.way:World.ownsRow _ B 32 3 (.slice (some ⟨g,0,none⟩) ws.length c1) ws.length (ws.flatMap enC)) i) (flat_one enC enC_one _) (by have:=HIN.out;have:=HML.out;unfold maxLen;omega) (by have:=HIN.out;have:=HML.out;omega) HN.out.big
    rw[Nat.zero_add,List.nil_append] at ho1
    have HV1:=Lib.hid (show ∀k,v1.ownBlock=some k→V.heap.size≤k from fun k hk=>by
     rcases hv1 with g | g
     ·exact HG0.out k (g▸hk)
     ·rw[g] at hk;injection hk with hk;have:=HB.out.size;omega)
    have hc1:Chg (fun q=>V.heap.size≤q) wd30 wd37:=⟨hg1.os,hg1.tape,hg1.output,hg1.size,fun i hi hn=>hg1.block i hi (fun e=>hn (HG0.out i e.symm))⟩
    replace HN:=Lib.hid (HN.out.chg hc1 (fun k hk x=>by have:=HDL.out k hk;omega))
    replace HB:=Lib.hid (HB.out.trans (hc1.below HB.out.size (fun q _ hq=>hq)))
    have HO1:=Lib.hid ho1
    refine⟨_,_,_,_,_,_,v1,wd37,rfl,by rfl,exec_app rfl rfl hrun,trivial,?_⟩
    simp only[Act.put,Reg.s0,Reg.s1,Reg.s2]
    clear hrun ho1 hg1 hv1 hc1 HO0
    refine Reg.both_all [16] (by kernel_rfl) (by simp) ?_
    intro j0 hj0
    obtain rfl:j0=16:=by simpa using hj0
    clear hj0
    left
    obtain⟨v2,wd38,hrun,ho2,hg2,_,hv2⟩:=run_append_own_at (P:=Try.prog) wd37 B 27 27 32 iP _ 3 40 Try.underlying27 KP1.out KP2.out KP3.out KP4.out (by rfl) (by omega) v1 i ((ws.take i).flatMap enC) HO1.out AD (m - (i+1)) (c1 - (i+1)) ((ws.drop (i+1)).flatMap enC) (by rw[flat_len enC 3 enC_length,List.length_drop,EM.out]) (row_tail (EVN.out▸HN.out.way:World.ownsRow _ B 32 3 (.slice (some ⟨g,0,none⟩) ws.length c1) ws.length (ws.flatMap enC)) (i+1) (by have:=HIN.out;have:=EM.out;omega) (by have:=HCV.out;rw[EM.out] at this;exact this) HAD.out) (flat_one enC enC_one _) (by have:=HIN.out;have:=HML.out;unfold maxLen;omega) (by have:=HIN.out;have:=HML.out;omega) HN.out.big
    have hc2:Chg (fun q=>V.heap.size≤q) wd37 wd38:=⟨hg2.os,hg2.tape,hg2.output,hg2.size,fun i hi hn=>hg2.block i hi (fun e=>hn (HV1.out i e.symm))⟩
    have HV2:=Lib.hid (show ∀k,v2.ownBlock=some k→V.heap.size≤k from fun k hk=>by
     rcases hv2 with g | g
     ·exact HV1.out k (g▸hk)
     ·rw[g] at hk;injection hk with hk;have:=HB.out.size;omega)
    rw[←List.flatMap_append,erase3,show i+(m - (i+1))=(ws.eraseIdx i).length by rw[List.length_eraseIdx,if_pos (by have:=HIN.out;have:=EM.out;omega),←EM.out];have:=HIN.out;omega] at ho2
    have HN2:=Lib.hid (HN.out.chg hc2 (fun k hk x=>by have:=HDL.out k hk;omega))
    replace HB:=Lib.hid (HB.out.trans (hc2.below HB.out.size (fun q _ hq=>hq)))
    have HFN:=Lib.hid (dn_row HNV.out HB.out ho2 HV2.out)
    refine⟨_,_,_,_,_,_,v2,wd38,rfl,by rfl,exec_app rfl rfl hrun,trivial,?_⟩
    simp only[Act.put,Reg.s0,Reg.s1,Reg.s2]
    refine Reg.tk 17 (v:=?vd39) rfl trivial (fun w' hS=>?hd39) ?rd39
    case hd39=>go_simp<;>rfl
    simp only[Act.put,Reg.s0,Reg.s1,Reg.s2]
    refine Reg.tk 18 (v:=?vd40) rfl trivial (fun w' hS=>?hd40) ?rd40
    case hd40=>go_simp<;>rfl
    simp only[Act.put,Reg.s0,Reg.s1,Reg.s2]
    obtain⟨A7,c7,e7,_⟩:=own_rdr enC_length ho2
    obtain⟨m7,em7⟩:∃m7,m7=(ws.eraseIdx i).length:=⟨_,rfl⟩
    rw[←em7] at e7
    subst e7
    have f0:=HN2.out.blk.frozen 0
    have k6:wd38.cell? ⟨r,0,none⟩=some vw:=HN2.out.blk.cell 0
    refine Reg.any_store 19 (wd38.setCell ⟨r,0,none⟩ (.slice A7 m7 c7)) rfl (by kernel_rfl) (by rfl) (by go_simp) trivial ?_
    simp only[Act.put,Reg.s0,Reg.s1,Reg.s2]
    refine wpAnyH_done (by kernel_rfl) ?_ _
    obtain⟨W4,eW4⟩:∃z,z=wd38.setCell ⟨r,0,none⟩ (.slice A7 m7 c7):=⟨_,rfl⟩
    rw[←eW4] at HFN⊢
    clear eW4 k6 f0 hrun ho2 hg2 hv2 hc2 em7 HO1 HN2 HN HB
    have HP4:=Lib.hid (HFN.out.2.1.blk HP.out (fun x=>HNP.out (dt_do x)))
    have HZ4:=Lib.hid (HFN.out.2.1.blk HZ.out (fun x=>HNZ.out (dt_do x)))
    go_wp2_with (first
     |(refine Wh.load_g (by rfl) 32 (.tmp 6) (by rfl) _ 0 (by rfl) xs _ (Wh.range_blk HP4.out) Try.underlying32 (by rfl) HXI.out ?_)
     |(refine Wh.store_over (by rfl) 32 (.tmp 4) (.tmp 34) (by rfl) w.heap.size 32 zs HZ4.out xs (by rfl) (by rfl) (by rw[HZS.out,HXS.out]) HXI.out HX1.out ?_;rintro V2 hV2 hg;have HV:=Lib.hid hV2;have HGV:=Lib.hid (Chg.of_grown (S:=fun k=>k=w.heap.size) hg rfl);clear hV2 hg)
     |fail)
    refine bodyPost_ret (v:=.tuple #[.agg xs,.bool true]) ?_ ?_ ?_
    ·exact results_pair 4 5 32 ⟨w.heap.size,0,none⟩ Try.results13 (by rfl) (Wh.load_blk HV.out Try.underlying32 (by rfl) HXI.out) (by rfl)
    ·rfl
    ·exact⟨_,rfl,pull_end HNW.out HBW.out HNZ.out HFN.out.1 HFN.out.2.1 HFN.out.2.2 HGV.out HZV.out⟩
  ·left
   refine⟨_,_,_,_,_,_,(.slice (some ⟨g,0,none⟩) m c1),wdd,rfl,by rfl,(by have kw:=(EVW.out▸HN.out.c0:World.cell? _ ⟨r,0,none⟩=some (.slice (some ⟨g,0,none⟩) m c1));(go_simp<;>rfl)),trivial,?_⟩
   simp only[Act.put,Reg.s0,Reg.s1,Reg.s2]
   refine Reg.tk 15 (v:=?vd41) rfl trivial (fun w' hS=>?hd41) ?rd41
   case hd41=>go_simp<;>rfl
   simp only[Act.put,Reg.s0,Reg.s1,Reg.s2]
   refine Reg.both_all [1] (by kernel_rfl) (by simp) ?_
   intro j0 hj0
   obtain rfl:j0=1:=by simpa using hj0
   clear hj0
   left
   have hb:Below wdd.heap.size wdd (wdd.alloc (.cells #[] 32)):=(Below.refl _ _).alloc (Nat.le_refl _) _
   have HO0:=Lib.hid (World.ownsRow_made (base:=B) wdd (e:=32) (size:=3) #[] 0 HN.out.big (by decide) rfl)
   have HG0:=Lib.hid (show ∀k,(Value.slice (some ⟨wdd.heap.size,0,none⟩) 0 0).ownBlock=some k→V.heap.size≤k from fun k hk=>by have h2:some wdd.heap.size=some k:=hk;injection h2 with h2;have:=HB.out.size;omega)
   refine⟨_,_,_,_,_,_,.slice (some ⟨wdd.heap.size,0,none⟩) 0 0,(wdd.alloc (.cells #[] 32)),rfl,by rfl,(by go_simp<;>rfl),trivial,?_⟩
   simp only[Act.put,Reg.s0,Reg.s1,Reg.s2]
   replace HN:=Lib.hid (HN.out.below hb)
   replace HB:=Lib.hid (HB.out.trans (hb.mono HB.out.size))
   clear hb
   obtain⟨wd42,ewd42⟩:∃z,z=(wdd.alloc (.cells #[] 32)):=⟨_,rfl⟩
   rw[←ewd42] at HO0 HN HB⊢
   clear ewd42
   obtain⟨G0,eG0⟩:∃z,z=wdd.heap.size:=⟨_,rfl⟩
   rw[←eG0] at HO0 HG0⊢
   clear eG0
   refine Reg.both_all [8] (by kernel_rfl) (by simp) ?_
   intro j0 hj0
   obtain rfl:j0=8:=by simpa using hj0
   clear hj0
   left
   obtain⟨v1,wd43,hrun,ho1,hg1,_,hv1⟩:=run_append_own_at (P:=Try.prog) wd42 B 27 27 32 iP _ 3 40 Try.underlying27 KP1.out KP2.out KP3.out KP4.out (by rfl) (by omega) _ 0 [] HO0.out ⟨g,0,none⟩ i c1 ((ws.take i).flatMap enC) (by rw[flat_len enC 3 enC_length,List.length_take];have:=HIN.out;have:=EM.out;rw[Nat.min_eq_left (by omega)]) (row_head (EVN.out▸HN.out.way:World.ownsRow _ B 32 3 (.slice (some ⟨g,0,none⟩) ws.length c1) ws.length (ws.flatMap enC)) i) (flat_one enC enC_one _) (by have:=HIN.out;have:=HML.out;unfold maxLen;omega) (by have:=HIN.out;have:=HML.out;omega) HN.out.big
   rw[Nat.zero_add,List.nil_append] at ho1
   have HV1:=Lib.hid (show ∀k,v1.ownBlock=some k→V.heap.size≤k from fun k hk=>by
    rcases hv1 with g | g
    ·exact HG0.out k (g▸hk)
    ·rw[g] at hk;injection hk with hk;have:=HB.out.size;omega)
   have hc1:Chg (fun q=>V.heap.size≤q) wd42 wd43:=⟨hg1.os,hg1.tape,hg1.output,hg1.size,fun i hi hn=>hg1.block i hi (fun e=>hn (HG0.out i e.symm))⟩
   replace HN:=Lib.hid (HN.out.chg hc1 (fun k hk x=>by have:=HDL.out k hk;omega))
   replace HB:=Lib.hid (HB.out.trans (hc1.below HB.out.size (fun q _ hq=>hq)))
   have HO1:=Lib.hid ho1
   refine⟨_,_,_,_,_,_,v1,wd43,rfl,by rfl,exec_app rfl rfl hrun,trivial,?_⟩
   simp only[Act.put,Reg.s0,Reg.s1,Reg.s2]
   clear hrun ho1 hg1 hv1 hc1 HO0
   refine Reg.both_all [16] (by kernel_rfl) (by simp) ?_
   intro j0 hj0
   obtain rfl:j0=16:=by simpa using hj0
   clear hj0
   left
   obtain⟨v2,wd44,hrun,ho2,hg2,_,hv2⟩:=run_append_own_at (P:=Try.prog) wd43 B 27 27 32 iP _ 3 40 Try.underlying27 KP1.out KP2.out KP3.out KP4.out (by rfl) (by omega) v1 i ((ws.take i).flatMap enC) HO1.out AD (m - (i+1)) (c1 - (i+1)) ((ws.drop (i+1)).flatMap enC) (by rw[flat_len enC 3 enC_length,List.length_drop,EM.out]) (row_tail (EVN.out▸HN.out.way:World.ownsRow _ B 32 3 (.slice (some ⟨g,0,none⟩) ws.length c1) ws.length (ws.flatMap enC)) (i+1) (by have:=HIN.out;have:=EM.out;omega) (by have:=HCV.out;rw[EM.out] at this;exact this) HAD.out) (flat_one enC enC_one _) (by have:=HIN.out;have:=HML.out;unfold maxLen;omega) (by have:=HIN.out;have:=HML.out;omega) HN.out.big
   have hc2:Chg (fun q=>V.heap.size≤q) wd43 wd44:=⟨hg2.os,hg2.tape,hg2.output,hg2.size,fun i hi hn=>hg2.block i hi (fun e=>hn (HV1.out i e.symm))⟩
   have HV2:=Lib.hid (show ∀k,v2.ownBlock=some k→V.heap.size≤k from fun k hk=>by
    rcases hv2 with g | g
    ·exact HV1.out k (g▸hk)
    ·rw[g] at hk;injection hk with hk;have:=HB.out.size;omega)
   rw[←List.flatMap_append,erase3,show i+(m - (i+1))=(ws.eraseIdx i).length by rw[List.length_eraseIdx,if_pos (by have:=HIN.out;have:=EM.out;omega),←EM.out];have:=HIN.out;omega] at ho2
   have HN2:=Lib.hid (HN.out.chg hc2 (fun k hk x=>by have:=HDL.out k hk;omega))
   replace HB:=Lib.hid (HB.out.trans (hc2.below HB.out.size (fun q _ hq=>hq)))
   have HFN:=Lib.hid (dn_row HNV.out HB.out ho2 HV2.out)
   refine⟨_,_,_,_,_,_,v2,wd44,rfl,by rfl,exec_app rfl rfl hrun,trivial,?_⟩
   simp only[Act.put,Reg.s0,Reg.s1,Reg.s2]
   refine Reg.tk 17 (v:=?vd45) rfl trivial (fun w' hS=>?hd45) ?rd45
   case hd45=>go_simp<;>rfl
   simp only[Act.put,Reg.s0,Reg.s1,Reg.s2]
   refine Reg.tk 18 (v:=?vd46) rfl trivial (fun w' hS=>?hd46) ?rd46
   case hd46=>go_simp<;>rfl
   simp only[Act.put,Reg.s0,Reg.s1,Reg.s2]
   obtain⟨A7,c7,e7,_⟩:=own_rdr enC_length ho2
   obtain⟨m7,em7⟩:∃m7,m7=(ws.eraseIdx i).length:=⟨_,rfl⟩
   rw[←em7] at e7
   subst e7
   have f0:=HN2.out.blk.frozen 0
   have k6:wd44.cell? ⟨r,0,none⟩=some vw:=HN2.out.blk.cell 0
   refine Reg.any_store 19 (wd44.setCell ⟨r,0,none⟩ (.slice A7 m7 c7)) rfl (by kernel_rfl) (by rfl) (by go_simp) trivial ?_
   simp only[Act.put,Reg.s0,Reg.s1,Reg.s2]
   refine wpAnyH_done (by kernel_rfl) ?_ _
   obtain⟨W4,eW4⟩:∃z,z=wd44.setCell ⟨r,0,none⟩ (.slice A7 m7 c7):=⟨_,rfl⟩
   rw[←eW4] at HFN⊢
   clear eW4 k6 f0 hrun ho2 hg2 hv2 hc2 em7 HO1 HN2 HN HB
   have HP4:=Lib.hid (HFN.out.2.1.blk HP.out (fun x=>HNP.out (dt_do x)))
   have HZ4:=Lib.hid (HFN.out.2.1.blk HZ.out (fun x=>HNZ.out (dt_do x)))
   go_wp2_with (first
    |(refine Wh.load_g (by rfl) 32 (.tmp 6) (by rfl) _ 0 (by rfl) xs _ (Wh.range_blk HP4.out) Try.underlying32 (by rfl) HXI.out ?_)
    |(refine Wh.store_over (by rfl) 32 (.tmp 4) (.tmp 34) (by rfl) w.heap.size 32 zs HZ4.out xs (by rfl) (by rfl) (by rw[HZS.out,HXS.out]) HXI.out HX1.out ?_;rintro V2 hV2 hg;have HV:=Lib.hid hV2;have HGV:=Lib.hid (Chg.of_grown (S:=fun k=>k=w.heap.size) hg rfl);clear hV2 hg)
    |fail)
   refine bodyPost_ret (v:=.tuple #[.agg xs,.bool true]) ?_ ?_ ?_
   ·exact results_pair 4 5 32 ⟨w.heap.size,0,none⟩ Try.results13 (by rfl) (Wh.load_blk HV.out Try.underlying32 (by rfl) HXI.out) (by rfl)
   ·rfl
   ·exact⟨_,rfl,pull_end HNW.out HBW.out HNZ.out HFN.out.1 HFN.out.2.1 HFN.out.2.2 HGV.out HZV.out⟩
 ·left
  refine⟨_,_,_,_,_,_,(.slice (some ⟨g,0,none⟩) m c1),wdd,rfl,by rfl,(by have kw:=(EVW.out▸HN.out.c0:World.cell? _ ⟨r,0,none⟩=some (.slice (some ⟨g,0,none⟩) m c1));(go_simp<;>rfl)),trivial,?_⟩
  simp only[Act.put,Reg.s0,Reg.s1,Reg.s2]
  refine Reg.tk 15 (v:=?vd47) rfl trivial (fun w' hS=>?hd47) ?rd47
  case hd47=>go_simp<;>rfl
  simp only[Act.put,Reg.s0,Reg.s1,Reg.s2]
  refine Reg.both_all [1,5] (by kernel_rfl) (by simp) ?_
  intro j0 hj0
  have hj0:j0=1∨j0=5:=by simpa using hj0
  rcases hj0 with rfl | rfl
  ·left
   have hb:Below wdd.heap.size wdd (wdd.alloc (.cells #[] 32)):=(Below.refl _ _).alloc (Nat.le_refl _) _
   have HO0:=Lib.hid (World.ownsRow_made (base:=B) wdd (e:=32) (size:=3) #[] 0 HN.out.big (by decide) rfl)
   have HG0:=Lib.hid (show ∀k,(Value.slice (some ⟨wdd.heap.size,0,none⟩) 0 0).ownBlock=some k→V.heap.size≤k from fun k hk=>by have h2:some wdd.heap.size=some k:=hk;injection h2 with h2;have:=HB.out.size;omega)
   refine⟨_,_,_,_,_,_,.slice (some ⟨wdd.heap.size,0,none⟩) 0 0,(wdd.alloc (.cells #[] 32)),rfl,by rfl,(by go_simp<;>rfl),trivial,?_⟩
   simp only[Act.put,Reg.s0,Reg.s1,Reg.s2]
   replace HN:=Lib.hid (HN.out.below hb)
   replace HB:=Lib.hid (HB.out.trans (hb.mono HB.out.size))
   clear hb
   obtain⟨wd48,ewd48⟩:∃z,z=(wdd.alloc (.cells #[] 32)):=⟨_,rfl⟩
   rw[←ewd48] at HO0 HN HB⊢
   clear ewd48
   obtain⟨G0,eG0⟩:∃z,z=wdd.heap.size:=⟨_,rfl⟩
   rw[←eG0] at HO0 HG0⊢
   clear eG0
   refine Reg.both_all [5] (by kernel_rfl) (by simp) ?_
   intro j0 hj0
   obtain rfl:j0=5:=by simpa using hj0
   clear hj0
   left
   refine⟨_,_,_,_,_,_,(.slice (some ⟨g,0,none⟩) m c1),wd48,rfl,by rfl,(by have kw:=(EVW.out▸HN.out.c0:World.cell? _ ⟨r,0,none⟩=some (.slice (some ⟨g,0,none⟩) m c1));(go_simp<;>rfl)),trivial,?_⟩
   simp only[Act.put,Reg.s0,Reg.s1,Reg.s2]
   refine Reg.tk 7 (v:=?vd49) rfl trivial (fun w' hS=>?hd49) ?rd49
   case hd49=>go_simp<;>rfl
   simp only[Act.put,Reg.s0,Reg.s1,Reg.s2]
   refine Reg.both_all [8] (by kernel_rfl) (by simp) ?_
   intro j0 hj0
   obtain rfl:j0=8:=by simpa using hj0
   clear hj0
   left
   obtain⟨v1,wd50,hrun,ho1,hg1,_,hv1⟩:=run_append_own_at (P:=Try.prog) wd48 B 27 27 32 iP _ 3 40 Try.underlying27 KP1.out KP2.out KP3.out KP4.out (by rfl) (by omega) _ 0 [] HO0.out ⟨g,0,none⟩ i c1 ((ws.take i).flatMap enC) (by rw[flat_len enC 3 enC_length,List.length_take];have:=HIN.out;have:=EM.out;rw[Nat.min_eq_left (by omega)]) (row_head (EVN.out▸HN.out.way:World.ownsRow _ B 32 3 (.slice (some ⟨g,0,none⟩) ws.length c1) ws.length (ws.flatMap enC)) i) (flat_one enC enC_one _) (by have:=HIN.out;have:=HML.out;unfold maxLen;omega) (by have:=HIN.out;have:=HML.out;omega) HN.out.big
   rw[Nat.zero_add,List.nil_append] at ho1
   have HV1:=Lib.hid (show ∀k,v1.ownBlock=some k→V.heap.size≤k from fun k hk=>by
    rcases hv1 with g | g
    ·exact HG0.out k (g▸hk)
    ·rw[g] at hk;injection hk with hk;have:=HB.out.size;omega)
   have hc1:Chg (fun q=>V.heap.size≤q) wd48 wd50:=⟨hg1.os,hg1.tape,hg1.output,hg1.size,fun i hi hn=>hg1.block i hi (fun e=>hn (HG0.out i e.symm))⟩
   replace HN:=Lib.hid (HN.out.chg hc1 (fun k hk x=>by have:=HDL.out k hk;omega))
   replace HB:=Lib.hid (HB.out.trans (hc1.below HB.out.size (fun q _ hq=>hq)))
   have HO1:=Lib.hid ho1
   refine⟨_,_,_,_,_,_,v1,wd50,rfl,by rfl,exec_app rfl rfl hrun,trivial,?_⟩
   simp only[Act.put,Reg.s0,Reg.s1,Reg.s2]
   clear hrun ho1 hg1 hv1 hc1 HO0
   refine Reg.both_all [16] (by kernel_rfl) (by simp) ?_
   intro j0 hj0
   obtain rfl:j0=16:=by simpa using hj0
   clear hj0
   left
   obtain⟨v2,wd51,hrun,ho2,hg2,_,hv2⟩:=run_append_own_at (P:=Try.prog) wd50 B 27 27 32 iP _ 3 40 Try.underlying27 KP1.out KP2.out KP3.out KP4.out (by rfl) (by omega) v1 i ((ws.take i).flatMap enC) HO1.out AD (m - (i+1)) (c1 - (i+1)) ((ws.drop (i+1)).flatMap enC) (by rw[flat_len enC 3 enC_length,List.length_drop,EM.out]) (row_tail (EVN.out▸HN.out.way:World.ownsRow _ B 32 3 (.slice (some ⟨g,0,none⟩) ws.length c1) ws.length (ws.flatMap enC)) (i+1) (by have:=HIN.out;have:=EM.out;omega) (by have:=HCV.out;rw[EM.out] at this;exact this) HAD.out) (flat_one enC enC_one _) (by have:=HIN.out;have:=HML.out;unfold maxLen;omega) (by have:=HIN.out;have:=HML.out;omega) HN.out.big
   have hc2:Chg (fun q=>V.heap.size≤q) wd50 wd51:=⟨hg2.os,hg2.tape,hg2.output,hg2.size,fun i hi hn=>hg2.block i hi (fun e=>hn (HV1.out i e.symm))⟩
   have HV2:=Lib.hid (show ∀k,v2.ownBlock=some k→V.heap.size≤k from fun k hk=>by
    rcases hv2 with g | g
    ·exact HV1.out k (g▸hk)
    ·rw[g] at hk;injection hk with hk;have:=HB.out.size;omega)
   rw[←List.flatMap_append,erase3,show i+(m - (i+1))=(ws.eraseIdx i).length by rw[List.length_eraseIdx,if_pos (by have:=HIN.out;have:=EM.out;omega),←EM.out];have:=HIN.out;omega] at ho2
   have HN2:=Lib.hid (HN.out.chg hc2 (fun k hk x=>by have:=HDL.out k hk;omega))
   replace HB:=Lib.hid (HB.out.trans (hc2.below HB.out.size (fun q _ hq=>hq)))
   have HFN:=Lib.hid (dn_row HNV.out HB.out ho2 HV2.out)
   refine⟨_,_,_,_,_,_,v2,wd51,rfl,by rfl,exec_app rfl rfl hrun,trivial,?_⟩
   simp only[Act.put,Reg.s0,Reg.s1,Reg.s2]
   refine Reg.tk 17 (v:=?vd52) rfl trivial (fun w' hS=>?hd52) ?rd52
   case hd52=>go_simp<;>rfl
   simp only[Act.put,Reg.s0,Reg.s1,Reg.s2]
   refine Reg.tk 18 (v:=?vd53) rfl trivial (fun w' hS=>?hd53) ?rd53
   case hd53=>go_simp<;>rfl
   simp only[Act.put,Reg.s0,Reg.s1,Reg.s2]
   obtain⟨A7,c7,e7,_⟩:=own_rdr enC_length ho2
   obtain⟨m7,em7⟩:∃m7,m7=(ws.eraseIdx i).length:=⟨_,rfl⟩
   rw[←em7] at e7
   subst e7
   have f0:=HN2.out.blk.frozen 0
   have k6:wd51.cell? ⟨r,0,none⟩=some vw:=HN2.out.blk.cell 0
   refine Reg.any_store 19 (wd51.setCell ⟨r,0,none⟩ (.slice A7 m7 c7)) rfl (by kernel_rfl) (by rfl) (by go_simp) trivial ?_
   simp only[Act.put,Reg.s0,Reg.s1,Reg.s2]
   refine wpAnyH_done (by kernel_rfl) ?_ _
   obtain⟨W4,eW4⟩:∃z,z=wd51.setCell ⟨r,0,none⟩ (.slice A7 m7 c7):=⟨_,rfl⟩
   rw[←eW4] at HFN⊢
   clear eW4 k6 f0 hrun ho2 hg2 hv2 hc2 em7 HO1 HN2 HN HB
   have HP4:=Lib.hid (HFN.out.2.1.blk HP.out (fun x=>HNP.out (dt_do x)))
   have HZ4:=Lib.hid (HFN.out.2.1.blk HZ.out (fun x=>HNZ.out (dt_do x)))
   go_wp2_with (first
    |(refine Wh.load_g (by rfl) 32 (.tmp 6) (by rfl) _ 0 (by rfl) xs _ (Wh.range_blk HP4.out) Try.underlying32 (by rfl) HXI.out ?_)
    |(refine Wh.store_over (by rfl) 32 (.tmp 4) (.tmp 34) (by rfl) w.heap.size 32 zs HZ4.out xs (by rfl) (by rfl) (by rw[HZS.out,HXS.out]) HXI.out HX1.out ?_;rintro V2 hV2 hg;have HV:=Lib.hid hV2;have HGV:=Lib.hid (Chg.of_grown (S:=fun k=>k=w.heap.size) hg rfl);clear hV2 hg)
    |fail)
   refine bodyPost_ret (v:=.tuple #[.agg xs,.bool true]) ?_ ?_ ?_
   ·exact results_pair 4 5 32 ⟨w.heap.size,0,none⟩ Try.results13 (by rfl) (Wh.load_blk HV.out Try.underlying32 (by rfl) HXI.out) (by rfl)
   ·rfl
   ·exact⟨_,rfl,pull_end HNW.out HBW.out HNZ.out HFN.out.1 HFN.out.2.1 HFN.out.2.2 HGV.out HZV.out⟩
  ·left
   refine⟨_,_,_,_,_,_,(.slice (some ⟨g,0,none⟩) m c1),wdd,rfl,by rfl,(by have kw:=(EVW.out▸HN.out.c0:World.cell? _ ⟨r,0,none⟩=some (.slice (some ⟨g,0,none⟩) m c1));(go_simp<;>rfl)),trivial,?_⟩
   simp only[Act.put,Reg.s0,Reg.s1,Reg.s2]
   refine Reg.tk 7 (v:=?vd54) rfl trivial (fun w' hS=>?hd54) ?rd54
   case hd54=>go_simp<;>rfl
   simp only[Act.put,Reg.s0,Reg.s1,Reg.s2]
   refine Reg.both_all [1] (by kernel_rfl) (by simp) ?_
   intro j0 hj0
   obtain rfl:j0=1:=by simpa using hj0
   clear hj0
   left
   have hb:Below wdd.heap.size wdd (wdd.alloc (.cells #[] 32)):=(Below.refl _ _).alloc (Nat.le_refl _) _
   have HO0:=Lib.hid (World.ownsRow_made (base:=B) wdd (e:=32) (size:=3) #[] 0 HN.out.big (by decide) rfl)
   have HG0:=Lib.hid (show ∀k,(Value.slice (some ⟨wdd.heap.size,0,none⟩) 0 0).ownBlock=some k→V.heap.size≤k from fun k hk=>by have h2:some wdd.heap.size=some k:=hk;injection h2 with h2;have:=HB.out.size;omega)
   refine⟨_,_,_,_,_,_,.slice (some ⟨wdd.heap.size,0,none⟩) 0 0,(wdd.alloc (.cells #[] 32)),rfl,by rfl,(by go_simp<;>rfl),trivial,?_⟩
   simp only[Act.put,Reg.s0,Reg.s1,Reg.s2]
   replace HN:=Lib.hid (HN.out.below hb)
   replace HB:=Lib.hid (HB.out.trans (hb.mono HB.out.size))
   clear hb
   obtain⟨wd55,ewd55⟩:∃z,z=(wdd.alloc (.cells #[] 32)):=⟨_,rfl⟩
   rw[←ewd55] at HO0 HN HB⊢
   clear ewd55
   obtain⟨G0,eG0⟩:∃z,z=wdd.heap.size:=⟨_,rfl⟩
   rw[←eG0] at HO0 HG0⊢
   clear eG0
   refine Reg.both_all [8] (by kernel_rfl) (by simp) ?_
   intro j0 hj0
   obtain rfl:j0=8:=by simpa using hj0
   clear hj0
   left
   obtain⟨v1,wd56,hrun,ho1,hg1,_,hv1⟩:=run_append_own_at (P:=Try.prog) wd55 B 27 27 32 iP _ 3 40 Try.underlying27 KP1.out KP2.out KP3.out KP4.out (by rfl) (by omega) _ 0 [] HO0.out ⟨g,0,none⟩ i c1 ((ws.take i).flatMap enC) (by rw[flat_len enC 3 enC_length,List.length_take];have:=HIN.out;have:=EM.out;rw[Nat.min_eq_left (by omega)]) (row_head (EVN.out▸HN.out.way:World.ownsRow _ B 32 3 (.slice (some ⟨g,0,none⟩) ws.length c1) ws.length (ws.flatMap enC)) i) (flat_one enC enC_one _) (by have:=HIN.out;have:=HML.out;unfold maxLen;omega) (by have:=HIN.out;have:=HML.out;omega) HN.out.big
   rw[Nat.zero_add,List.nil_append] at ho1
   have HV1:=Lib.hid (show ∀k,v1.ownBlock=some k→V.heap.size≤k from fun k hk=>by
    rcases hv1 with g | g
    ·exact HG0.out k (g▸hk)
    ·rw[g] at hk;injection hk with hk;have:=HB.out.size;omega)
   have hc1:Chg (fun q=>V.heap.size≤q) wd55 wd56:=⟨hg1.os,hg1.tape,hg1.output,hg1.size,fun i hi hn=>hg1.block i hi (fun e=>hn (HG0.out i e.symm))⟩
   replace HN:=Lib.hid (HN.out.chg hc1 (fun k hk x=>by have:=HDL.out k hk;omega))
   replace HB:=Lib.hid (HB.out.trans (hc1.below HB.out.size (fun q _ hq=>hq)))
   have HO1:=Lib.hid ho1
   refine⟨_,_,_,_,_,_,v1,wd56,rfl,by rfl,exec_app rfl rfl hrun,trivial,?_⟩
   simp only[Act.put,Reg.s0,Reg.s1,Reg.s2]
   clear hrun ho1 hg1 hv1 hc1 HO0
   refine Reg.both_all [16] (by kernel_rfl) (by simp) ?_
   intro j0 hj0
   obtain rfl:j0=16:=by simpa using hj0
   clear hj0
   left
   obtain⟨v2,wd57,hrun,ho2,hg2,_,hv2⟩:=run_append_own_at (P:=Try.prog) wd56 B 27 27 32 iP _ 3 40 Try.underlying27 KP1.out KP2.out KP3.out KP4.out (by rfl) (by omega) v1 i ((ws.take i).flatMap enC) HO1.out AD (m - (i+1)) (c1 - (i+1)) ((ws.drop (i+1)).flatMap enC) (by rw[flat_len enC 3 enC_length,List.length_drop,EM.out]) (row_tail (EVN.out▸HN.out.way:World.ownsRow _ B 32 3 (.slice (some ⟨g,0,none⟩) ws.length c1) ws.length (ws.flatMap enC)) (i+1) (by have:=HIN.out;have:=EM.out;omega) (by have:=HCV.out;rw[EM.out] at this;exact this) HAD.out) (flat_one enC enC_one _) (by have:=HIN.out;have:=HML.out;unfold maxLen;omega) (by have:=HIN.out;have:=HML.out;omega) HN.out.big
   have hc2:Chg (fun q=>V.heap.size≤q) wd56 wd57:=⟨hg2.os,hg2.tape,hg2.output,hg2.size,fun i hi hn=>hg2.block i hi (fun e=>hn (HV1.out i e.symm))⟩
   have HV2:=Lib.hid (show ∀k,v2.ownBlock=some k→V.heap.size≤k from fun k hk=>by
    rcases hv2 with g | g
    ·exact HV1.out k (g▸hk)
    ·rw[g] at hk;injection hk with hk;have:=HB.out.size;omega)
   rw[←List.flatMap_append,erase3,show i+(m - (i+1))=(ws.eraseIdx i).length by rw[List.length_eraseIdx,if_pos (by have:=HIN.out;have:=EM.out;omega),←EM.out];have:=HIN.out;omega] at ho2
   have HN2:=Lib.hid (HN.out.chg hc2 (fun k hk x=>by have:=HDL.out k hk;omega))
   replace HB:=Lib.hid (HB.out.trans (hc2.below HB.out.size (fun q _ hq=>hq)))
   have HFN:=Lib.hid (dn_row HNV.out HB.out ho2 HV2.out)
   refine⟨_,_,_,_,_,_,v2,wd57,rfl,by rfl,exec_app rfl rfl hrun,trivial,?_⟩
   simp only[Act.put,Reg.s0,Reg.s1,Reg.s2]
   refine Reg.tk 17 (v:=?vd58) rfl trivial (fun w' hS=>?hd58) ?rd58
   case hd58=>go_simp<;>rfl
   simp only[Act.put,Reg.s0,Reg.s1,Reg.s2]
   refine Reg.tk 18 (v:=?vd59) rfl trivial (fun w' hS=>?hd59) ?rd59
   case hd59=>go_simp<;>rfl
   simp only[Act.put,Reg.s0,Reg.s1,Reg.s2]
   obtain⟨A7,c7,e7,_⟩:=own_rdr enC_length ho2
   obtain⟨m7,em7⟩:∃m7,m7=(ws.eraseIdx i).length:=⟨_,rfl⟩
   rw[←em7] at e7
   subst e7
   have f0:=HN2.out.blk.frozen 0
   have k6:wd57.cell? ⟨r,0,none⟩=some vw:=HN2.out.blk.cell 0
   refine Reg.any_store 19 (wd57.setCell ⟨r,0,none⟩ (.slice A7 m7 c7)) rfl (by kernel_rfl) (by rfl) (by go_simp) trivial ?_
   simp only[Act.put,Reg.s0,Reg.s1,Reg.s2]
   refine wpAnyH_done (by kernel_rfl) ?_ _
   obtain⟨W4,eW4⟩:∃z,z=wd57.setCell ⟨r,0,none⟩ (.slice A7 m7 c7):=⟨_,rfl⟩
   rw[←eW4] at HFN⊢
   clear eW4 k6 f0 hrun ho2 hg2 hv2 hc2 em7 HO1 HN2 HN HB
   have HP4:=Lib.hid (HFN.out.2.1.blk HP.out (fun x=>HNP.out (dt_do x)))
   have HZ4:=Lib.hid (HFN.out.2.1.blk HZ.out (fun x=>HNZ.out (dt_do x)))
   go_wp2_with (first
    |(refine Wh.load_g (by rfl) 32 (.tmp 6) (by rfl) _ 0 (by rfl) xs _ (Wh.range_blk HP4.out) Try.underlying32 (by rfl) HXI.out ?_)
    |(refine Wh.store_over (by rfl) 32 (.tmp 4) (.tmp 34) (by rfl) w.heap.size 32 zs HZ4.out xs (by rfl) (by rfl) (by rw[HZS.out,HXS.out]) HXI.out HX1.out ?_;rintro V2 hV2 hg;have HV:=Lib.hid hV2;have HGV:=Lib.hid (Chg.of_grown (S:=fun k=>k=w.heap.size) hg rfl);clear hV2 hg)
    |fail)
   refine bodyPost_ret (v:=.tuple #[.agg xs,.bool true]) ?_ ?_ ?_
   ·exact results_pair 4 5 32 ⟨w.heap.size,0,none⟩ Try.results13 (by rfl) (Wh.load_blk HV.out Try.underlying32 (by rfl) HXI.out) (by rfl)
   ·rfl
   ·exact⟨_,rfl,pull_end HNW.out HBW.out HNZ.out HFN.out.1 HFN.out.2.1 HFN.out.2.2 HGV.out HZV.out⟩
end Go.Proofs.Ytlihoeipmjbnbaa.Nt
end
