import Derived.Test.YtlihoeipmjbnbaaProg
import Derived.StillTailTactics
import Derived.Deep.CutBlock
import Derived.Laws.StructEq
import Derived.Deep.RegionHeld3
import Derived.Deep.LoopGhost
import Derived.OwnWalk
import Derived.Test.YtlihoeipmjbnbaaZNetPlays1
import Derived.Test.YtlihoeipmjbnbaaZNetPlays2
import Derived.Test.YtlihoeipmjbnbaaZNetPlays3
section
set_option linter.unusedVariables false
set_option linter.unusedSimpArgs false
namespace Go.Proofs.Ytlihoeipmjbnbaa.Nt
open Go.RowKit Go.Proofs.Ytlihoeipmjbnbaa.Mem Go.Proofs.Ytlihoeipmjbnbaa.Se
open Go.Proofs.Ytlihoeipmjbnbaa.Nm (L)
open Go.Proofs.Ytlihoeipmjbnbaa.Ca (Own1 rd_chg row_blk row_mk)
open Go.Proofs.Ytlihoeipmjbnbaa.Rg (flat_len flat_at flat_one RdR own_rdr own_chg)
theorem results_pair {P:Program} {fn:Func} {tmps:Array Value} {w:World} {v u:Value} (t q:Nat) (ty:TypeId) (a:Addr) (hres:fn.results=#[.cell t ty,.tmp q]) (ht:tmps.getD t undef = .pointer (some a)) (hl:(loadVar ty a).run P w = .ok v w) (hq:tmps.getD q undef=u) :
  (results fn tmps).run P w = .ok (.tuple #[v,u]) w:=by
 have ht':tmps[t]?.getD undef = .pointer (some a):=by simpa using ht
 have hq':tmps[q]?.getD undef=u:=by simpa using hq
 simp [results,hres,ht',hq',asAddr,hl]
def pk0:Pk:=⟨0,0,[]⟩
theorem has_i {n i:Nat} (h:i<n):hasB n (i:Int)=true:=by
 unfold hasB;simp;omega
theorem twice_no (B r:Nat) (vs vw:Value) (es:List En) (ws:List Nat) (i:Int) (w:World) (h:Nt w B r vs vw es ws) (hno:¬(hasB ws.length i=true∧ws.length<32)) :
  Calls Try.prog 15 #[.pointer (some ⟨r,0,none⟩),.int .i64 i] w fun e w'=>e = .returned (.bool false)∧w'=w:=by
 have ch:=has_any B r vs vw es ws i w h
 have cf:=full_any B r vs vw es ws w h
 by_cases hh:hasB ws.length i=true
 ·have hf:32≤ws.length:=by
   rcases Nat.lt_or_ge ws.length 32 with g | g
   ·exact absurd ⟨hh,g⟩ hno
   ·exact g
  rw[hh] at ch
  rw[decide_eq_true hf] at cf
  clear h hno hh hf
  go_enter Try.func15,Try.ntmps15
  go_wp2_with (first
   |(go_at_call 25;refine Calls.mono ch ?_;rintro e w1 ⟨rfl,hw⟩;have hw:=hw.symm;subst hw;clear ch)
   |(go_at_call 22;refine Calls.mono cf ?_;rintro e w1 ⟨rfl,hw⟩;have hw:=hw.symm;subst hw;clear cf)
   |fail)
  go_ret
  exact⟨rfl,rfl⟩
 ·rw[Bool.not_eq_true] at hh
  rw[hh] at ch
  clear h hno hh cf
  go_enter Try.func15,Try.ntmps15
  go_wp2_with (go_at_call 25;refine Calls.mono ch ?_;rintro e w1 ⟨rfl,hw⟩;have hw:=hw.symm;subst hw;clear ch)
  go_ret
  exact⟨rfl,rfl⟩
set_option maxHeartbeats 3200000 in
set_option maxRecDepth 100000 in
theorem twice_ok (B r:Nat) (vs vw:Value) (es:List En) (ws:List Nat) (i k:Nat) (w:World) (h:Nt w B r vs vw es ws) (hi:ws[i]? = some k) (h1:ws.length<32) :
  Calls Try.prog 15 #[.pointer (some ⟨r,0,none⟩),.int .i64 (i:Int)] w fun e w'=>e = .returned (.bool true)∧∃vw',Nt w' B r vs vw' es (ws++[k])∧Chg (NT r vs vw) w w'∧(∀q,NO r vs vw' es q→NO r vs vw es q∨w.heap.size≤q):=by
 have hin:i<ws.length:=(List.getElem?_eq_some_iff.1 hi).1
 have ch:=has_any B r vs vw es ws (i:Int) w h
 rw[has_i hin] at ch
 have cf:=full_any B r vs vw es ws w h
 rw[decide_eq_false (by omega)] at cf
 obtain⟨A1,c1,evw,_,_,hrw⟩:=h.num2
 obtain⟨gw,rfl,_,hcw⟩:=way_at hrw hi
 obtain⟨nw,enw⟩:∃nw,nw=ws.length:=⟨_,rfl⟩
 rw[←enw] at evw hin
 have e1:(i:Int)<(nw:Int):=by omega
 have e2:(0:Int)≤(i:Int):=by omega
 have EVW:=Lib.hid evw
 have HL1:=Lib.hid h1
 have HI:=Lib.hid hi
 have HN:=Lib.hid h
 have HWC:=Lib.hid (show ∀(w1:World),Nt w1 B r vs vw es ws→w1.cell? ⟨gw,i,none⟩=some (.int .i64 (k:Int)) from fun w1 h1=>by
  obtain⟨A2,c2,ev2,_,_,hr2⟩:=h1.num2
  obtain⟨g2,rfl,_,hc2⟩:=way_at hr2 HI.out
  rw[EVW.out] at ev2
  injection ev2 with ea _ _
  injection ea with ea
  injection ea with ea
  rw[ea];exact hc2)
 obtain⟨iI,hiI,hzI,hsI,hbI⟩:=info_parts int_all
 have KI1:=Lib.hid hiI;have KI2:=Lib.hid hzI;have KI3:=Lib.hid hsI;have KI4:=Lib.hid hbI
 have SI:=Lib.hid (fun(w1:World) (k:Int)=>run_build_int (P:=Try.prog) w1 44 3 k iI Try.underlying44 hiI hzI hsI)
 clear h hi h1 evw hrw hcw enw hin hiI hzI hsI hbI
 go_enter Try.func15,Try.ntmps15
 go_upto_region 3 with(first
  |(go_at_call 25;refine Calls.mono ch ?_;rintro e w1 ⟨rfl,hw⟩;have hw:=hw.symm;subst hw;clear ch)
  |(go_at_call 22;refine Calls.mono cf ?_;rintro e w1 ⟨rfl,hw⟩;have hw:=hw.symm;subst hw;clear cf)
  |fail)
 have HN0:=Lib.hid HN.out
 have HB:=Lib.hid (Below.refl w.heap.size w)
 have hb:Below w.heap.size w w.drew:=below_drewN (Below.refl _ _) 1
 replace HN:=Lib.hid (HN.out.below hb)
 replace HB:=Lib.hid (HB.out.trans (hb.mono HB.out.size))
 clear hb
 obtain⟨wdt,ewd⟩:∃z,z=w.drew:=⟨_,rfl⟩
 refine Reg.any_begin (fun w'=>True) 17 rfl (by kernel_rfl) trivial ?_
 rw[←ewd] at HN HB⊢
 clear ewd
 refine Reg.tk 0 (v:=?vt1) rfl trivial (fun w' hS=>?ht1) ?rt1
 case ht1=>go_simp<;>rfl
 simp only[Act.put,Reg.s0,Reg.s1,Reg.s2]
 refine Reg.tk 1 (v:=?vt2) rfl trivial (fun w' hS=>?ht2) ?rt2
 case ht2=>go_simp<;>rfl
 simp only[Act.put,Reg.s0,Reg.s1,Reg.s2]
 refine Reg.tk 2 (v:=?vt3) rfl trivial (fun w' hS=>?ht3) ?rt3
 case ht3=>go_simp<;>rfl
 simp only[Act.put,Reg.s0,Reg.s1,Reg.s2]
 refine Reg.tk 3 (v:=?vt4) rfl trivial (fun w' hS=>?ht4) ?rt4
 case ht4=>go_simp<;>rfl
 simp only[Act.put,Reg.s0,Reg.s1,Reg.s2]
 refine Reg.tk 5 (v:=?vt5) rfl trivial (fun w' hS=>?ht5) ?rt5
 case ht5=>go_simp<;>rfl
 simp only[Act.put,Reg.s0,Reg.s1,Reg.s2]
 refine Reg.tk 6 (v:=?vt6) rfl trivial (fun w' hS=>?ht6) ?rt6
 case ht6=>go_simp<;>rfl
 simp only[Act.put,Reg.s0,Reg.s1,Reg.s2]
 refine Reg.tk 7 (v:=?vt7) rfl trivial (fun w' hS=>?ht7) ?rt7
 case ht7=>go_simp<;>rfl
 simp only[Act.put,Reg.s0,Reg.s1,Reg.s2]
 refine Reg.tk 9 (v:=?vt8) rfl trivial (fun w' hS=>?ht8) ?rt8
 case ht8=>go_simp<;>rfl
 simp only[Act.put,Reg.s0,Reg.s1,Reg.s2]
 refine Reg.both_all [4,8] (by kernel_rfl) (by simp) ?_
 intro j0 hj0
 have hj0:j0=4∨j0=8:=by simpa using hj0
 rcases hj0 with rfl | rfl
 ·left
  refine⟨_,_,_,_,_,_,(.slice (some ⟨gw,0,none⟩) nw c1),wdt,rfl,by rfl,(by have kw:=(EVW.out▸HN.out.c1:World.cell? _ ⟨r,1,none⟩=some (.slice (some ⟨gw,0,none⟩) nw c1));(go_simp<;>rfl)),trivial,?_⟩
  simp only[Act.put,Reg.s0,Reg.s1,Reg.s2]
  refine Reg.both_all [8] (by kernel_rfl) (by simp) ?_
  intro j0 hj0
  obtain rfl:j0=8:=by simpa using hj0
  clear hj0
  left
  refine⟨_,_,_,_,_,_,(.slice (some ⟨gw,0,none⟩) nw c1),wdt,rfl,by rfl,(by have kw:=(EVW.out▸HN.out.c1:World.cell? _ ⟨r,1,none⟩=some (.slice (some ⟨gw,0,none⟩) nw c1));(go_simp<;>rfl)),trivial,?_⟩
  simp only[Act.put,Reg.s0,Reg.s1,Reg.s2]
  refine Reg.tk 10 (v:=?vt9) rfl trivial (fun w' hS=>?ht9) ?rt9
  case ht9=>go_simp<;>rfl
  simp only[Act.put,Reg.s0,Reg.s1,Reg.s2]
  refine Reg.both_all [11] (by kernel_rfl) (by simp) ?_
  intro j0 hj0
  obtain rfl:j0=11:=by simpa using hj0
  clear hj0
  left
  refine⟨_,_,_,_,_,_,(.int .i64 (k:Int)),wdt,rfl,by rfl,(by have kw:=HWC.out _ HN.out;(go_simp<;>rfl)),trivial,?_⟩
  simp only[Act.put,Reg.s0,Reg.s1,Reg.s2]
  refine Reg.both_all [12] (by kernel_rfl) (by simp) ?_
  intro j0 hj0
  obtain rfl:j0=12:=by simpa using hj0
  clear hj0
  left
  have hb:Below wdt.heap.size wdt (wdt.alloc (.cells #[.int .i64 (k:Int)] 3)):=(Below.refl _ _).alloc (Nat.le_refl _) _
  refine⟨_,_,_,_,_,_,.slice (some ⟨wdt.heap.size,0,none⟩) 1 1,(wdt.alloc (.cells #[.int .i64 (k:Int)] 3)),rfl,by rfl,exec_slice_int rfl (SI.out _ _),trivial,?_⟩
  simp only[Act.put,Reg.s0,Reg.s1,Reg.s2]
  have HNB:=Lib.hid (Blk.new wdt 3 #[.int .i64 (k:Int)])
  replace HN:=Lib.hid (HN.out.below hb)
  replace HB:=Lib.hid (HB.out.trans (hb.mono HB.out.size))
  clear hb
  obtain⟨wt10,ewt10⟩:∃z,z=(wdt.alloc (.cells #[.int .i64 (k:Int)] 3)):=⟨_,rfl⟩
  rw[←ewt10] at HN HB HNB⊢
  clear ewt10
  obtain⟨Gwt10,eGwt10⟩:∃z,z=wdt.heap.size:=⟨_,rfl⟩
  rw[←eGwt10] at HNB⊢
  clear eGwt10
  refine Reg.both_all [13] (by kernel_rfl) (by simp) ?_
  intro j0 hj0
  obtain rfl:j0=13:=by simpa using hj0
  clear hj0
  left
  obtain⟨v6,wt11,hrun,ho6,hg6,hv6⟩:=Wh.app_run (P:=Try.prog) iC 1 8 iC_length iC_one wt10 44 44 3 iI _ Try.underlying44 KI1.out KI2.out KI3.out KI4.out (by rfl) (by omega) B vw ws HN.out.way k Gwt10 HNB.out (by have:=HL1.out;omega) (by omega) HN.out.big
  obtain⟨hn6,hc6,hq6⟩:=nt_way HN0.out HB.out HN.out ho6 hg6 hv6
  have hr6:=HN.out.blk.grown hg6 HN.out.wr
  refine⟨_,_,_,_,_,_,v6,wt11,rfl,by rfl,exec_app (by rw[EVW.out];rfl) rfl hrun,trivial,?_⟩
  simp only[Act.put,Reg.s0,Reg.s1,Reg.s2]
  refine Reg.tk 14 (v:=?vt12) rfl trivial (fun w' hS=>?ht12) ?rt12
  case ht12=>go_simp<;>rfl
  simp only[Act.put,Reg.s0,Reg.s1,Reg.s2]
  refine Reg.tk 15 (v:=?vt13) rfl trivial (fun w' hS=>?ht13) ?rt13
  case ht13=>go_simp<;>rfl
  simp only[Act.put,Reg.s0,Reg.s1,Reg.s2]
  obtain⟨A7,c7,e7,_⟩:=own_rdr iC_length ho6
  obtain⟨m7,em7⟩:∃m7,m7=(ws++[k]).length:=⟨_,rfl⟩
  rw[←em7] at e7
  subst e7
  have f0:=hr6.frozen 1
  have k6:wt11.cell? ⟨r,1,none⟩=some vw:=hr6.cell 1
  refine Reg.any_store 16 (wt11.setCell ⟨r,1,none⟩ (.slice A7 m7 c7)) rfl (by kernel_rfl) (by rfl) (by go_simp) trivial ?_
  simp only[Act.put,Reg.s0,Reg.s1,Reg.s2]
  refine wpAnyH_done (by kernel_rfl) ?_ _
  have HFN:=Lib.hid hn6;have HFC:=Lib.hid hc6;have HFQ:=Lib.hid hq6
  clear f0 k6 hr6 ho6 hg6 hv6 hrun em7 hn6 hc6 hq6 HNB HB HN HN0
  go_wp2
  go_ret
  exact⟨rfl,_,HFN.out,HFC.out,HFQ.out⟩
 ·left
  refine⟨_,_,_,_,_,_,(.slice (some ⟨gw,0,none⟩) nw c1),wdt,rfl,by rfl,(by have kw:=(EVW.out▸HN.out.c1:World.cell? _ ⟨r,1,none⟩=some (.slice (some ⟨gw,0,none⟩) nw c1));(go_simp<;>rfl)),trivial,?_⟩
  simp only[Act.put,Reg.s0,Reg.s1,Reg.s2]
  refine Reg.tk 10 (v:=?vt14) rfl trivial (fun w' hS=>?ht14) ?rt14
  case ht14=>go_simp<;>rfl
  simp only[Act.put,Reg.s0,Reg.s1,Reg.s2]
  refine Reg.both_all [4,11] (by kernel_rfl) (by simp) ?_
  intro j0 hj0
  have hj0:j0=4∨j0=11:=by simpa using hj0
  rcases hj0 with rfl | rfl
  ·left
   refine⟨_,_,_,_,_,_,(.slice (some ⟨gw,0,none⟩) nw c1),wdt,rfl,by rfl,(by have kw:=(EVW.out▸HN.out.c1:World.cell? _ ⟨r,1,none⟩=some (.slice (some ⟨gw,0,none⟩) nw c1));(go_simp<;>rfl)),trivial,?_⟩
   simp only[Act.put,Reg.s0,Reg.s1,Reg.s2]
   refine Reg.both_all [11] (by kernel_rfl) (by simp) ?_
   intro j0 hj0
   obtain rfl:j0=11:=by simpa using hj0
   clear hj0
   left
   refine⟨_,_,_,_,_,_,(.int .i64 (k:Int)),wdt,rfl,by rfl,(by have kw:=HWC.out _ HN.out;(go_simp<;>rfl)),trivial,?_⟩
   simp only[Act.put,Reg.s0,Reg.s1,Reg.s2]
   refine Reg.both_all [12] (by kernel_rfl) (by simp) ?_
   intro j0 hj0
   obtain rfl:j0=12:=by simpa using hj0
   clear hj0
   left
   have hb:Below wdt.heap.size wdt (wdt.alloc (.cells #[.int .i64 (k:Int)] 3)):=(Below.refl _ _).alloc (Nat.le_refl _) _
   refine⟨_,_,_,_,_,_,.slice (some ⟨wdt.heap.size,0,none⟩) 1 1,(wdt.alloc (.cells #[.int .i64 (k:Int)] 3)),rfl,by rfl,exec_slice_int rfl (SI.out _ _),trivial,?_⟩
   simp only[Act.put,Reg.s0,Reg.s1,Reg.s2]
   have HNB:=Lib.hid (Blk.new wdt 3 #[.int .i64 (k:Int)])
   replace HN:=Lib.hid (HN.out.below hb)
   replace HB:=Lib.hid (HB.out.trans (hb.mono HB.out.size))
   clear hb
   obtain⟨wt15,ewt15⟩:∃z,z=(wdt.alloc (.cells #[.int .i64 (k:Int)] 3)):=⟨_,rfl⟩
   rw[←ewt15] at HN HB HNB⊢
   clear ewt15
   obtain⟨Gwt15,eGwt15⟩:∃z,z=wdt.heap.size:=⟨_,rfl⟩
   rw[←eGwt15] at HNB⊢
   clear eGwt15
   refine Reg.both_all [13] (by kernel_rfl) (by simp) ?_
   intro j0 hj0
   obtain rfl:j0=13:=by simpa using hj0
   clear hj0
   left
   obtain⟨v6,wt16,hrun,ho6,hg6,hv6⟩:=Wh.app_run (P:=Try.prog) iC 1 8 iC_length iC_one wt15 44 44 3 iI _ Try.underlying44 KI1.out KI2.out KI3.out KI4.out (by rfl) (by omega) B vw ws HN.out.way k Gwt15 HNB.out (by have:=HL1.out;omega) (by omega) HN.out.big
   obtain⟨hn6,hc6,hq6⟩:=nt_way HN0.out HB.out HN.out ho6 hg6 hv6
   have hr6:=HN.out.blk.grown hg6 HN.out.wr
   refine⟨_,_,_,_,_,_,v6,wt16,rfl,by rfl,exec_app (by rw[EVW.out];rfl) rfl hrun,trivial,?_⟩
   simp only[Act.put,Reg.s0,Reg.s1,Reg.s2]
   refine Reg.tk 14 (v:=?vt17) rfl trivial (fun w' hS=>?ht17) ?rt17
   case ht17=>go_simp<;>rfl
   simp only[Act.put,Reg.s0,Reg.s1,Reg.s2]
   refine Reg.tk 15 (v:=?vt18) rfl trivial (fun w' hS=>?ht18) ?rt18
   case ht18=>go_simp<;>rfl
   simp only[Act.put,Reg.s0,Reg.s1,Reg.s2]
   obtain⟨A7,c7,e7,_⟩:=own_rdr iC_length ho6
   obtain⟨m7,em7⟩:∃m7,m7=(ws++[k]).length:=⟨_,rfl⟩
   rw[←em7] at e7
   subst e7
   have f0:=hr6.frozen 1
   have k6:wt16.cell? ⟨r,1,none⟩=some vw:=hr6.cell 1
   refine Reg.any_store 16 (wt16.setCell ⟨r,1,none⟩ (.slice A7 m7 c7)) rfl (by kernel_rfl) (by rfl) (by go_simp) trivial ?_
   simp only[Act.put,Reg.s0,Reg.s1,Reg.s2]
   refine wpAnyH_done (by kernel_rfl) ?_ _
   have HFN:=Lib.hid hn6;have HFC:=Lib.hid hc6;have HFQ:=Lib.hid hq6
   clear f0 k6 hr6 ho6 hg6 hv6 hrun em7 hn6 hc6 hq6 HNB HB HN HN0
   go_wp2
   go_ret
   exact⟨rfl,_,HFN.out,HFC.out,HFQ.out⟩
  ·left
   refine⟨_,_,_,_,_,_,(.int .i64 (k:Int)),wdt,rfl,by rfl,(by have kw:=HWC.out _ HN.out;(go_simp<;>rfl)),trivial,?_⟩
   simp only[Act.put,Reg.s0,Reg.s1,Reg.s2]
   refine Reg.both_all [4,12] (by kernel_rfl) (by simp) ?_
   intro j0 hj0
   have hj0:j0=4∨j0=12:=by simpa using hj0
   rcases hj0 with rfl | rfl
   ·left
    refine⟨_,_,_,_,_,_,(.slice (some ⟨gw,0,none⟩) nw c1),wdt,rfl,by rfl,(by have kw:=(EVW.out▸HN.out.c1:World.cell? _ ⟨r,1,none⟩=some (.slice (some ⟨gw,0,none⟩) nw c1));(go_simp<;>rfl)),trivial,?_⟩
    simp only[Act.put,Reg.s0,Reg.s1,Reg.s2]
    refine Reg.both_all [12] (by kernel_rfl) (by simp) ?_
    intro j0 hj0
    obtain rfl:j0=12:=by simpa using hj0
    clear hj0
    left
    have hb:Below wdt.heap.size wdt (wdt.alloc (.cells #[.int .i64 (k:Int)] 3)):=(Below.refl _ _).alloc (Nat.le_refl _) _
    refine⟨_,_,_,_,_,_,.slice (some ⟨wdt.heap.size,0,none⟩) 1 1,(wdt.alloc (.cells #[.int .i64 (k:Int)] 3)),rfl,by rfl,exec_slice_int rfl (SI.out _ _),trivial,?_⟩
    simp only[Act.put,Reg.s0,Reg.s1,Reg.s2]
    have HNB:=Lib.hid (Blk.new wdt 3 #[.int .i64 (k:Int)])
    replace HN:=Lib.hid (HN.out.below hb)
    replace HB:=Lib.hid (HB.out.trans (hb.mono HB.out.size))
    clear hb
    obtain⟨wt19,ewt19⟩:∃z,z=(wdt.alloc (.cells #[.int .i64 (k:Int)] 3)):=⟨_,rfl⟩
    rw[←ewt19] at HN HB HNB⊢
    clear ewt19
    obtain⟨Gwt19,eGwt19⟩:∃z,z=wdt.heap.size:=⟨_,rfl⟩
    rw[←eGwt19] at HNB⊢
    clear eGwt19
    refine Reg.both_all [13] (by kernel_rfl) (by simp) ?_
    intro j0 hj0
    obtain rfl:j0=13:=by simpa using hj0
    clear hj0
    left
    obtain⟨v6,wt20,hrun,ho6,hg6,hv6⟩:=Wh.app_run (P:=Try.prog) iC 1 8 iC_length iC_one wt19 44 44 3 iI _ Try.underlying44 KI1.out KI2.out KI3.out KI4.out (by rfl) (by omega) B vw ws HN.out.way k Gwt19 HNB.out (by have:=HL1.out;omega) (by omega) HN.out.big
    obtain⟨hn6,hc6,hq6⟩:=nt_way HN0.out HB.out HN.out ho6 hg6 hv6
    have hr6:=HN.out.blk.grown hg6 HN.out.wr
    refine⟨_,_,_,_,_,_,v6,wt20,rfl,by rfl,exec_app (by rw[EVW.out];rfl) rfl hrun,trivial,?_⟩
    simp only[Act.put,Reg.s0,Reg.s1,Reg.s2]
    refine Reg.tk 14 (v:=?vt21) rfl trivial (fun w' hS=>?ht21) ?rt21
    case ht21=>go_simp<;>rfl
    simp only[Act.put,Reg.s0,Reg.s1,Reg.s2]
    refine Reg.tk 15 (v:=?vt22) rfl trivial (fun w' hS=>?ht22) ?rt22
    case ht22=>go_simp<;>rfl
    simp only[Act.put,Reg.s0,Reg.s1,Reg.s2]
    obtain⟨A7,c7,e7,_⟩:=own_rdr iC_length ho6
    obtain⟨m7,em7⟩:∃m7,m7=(ws++[k]).length:=⟨_,rfl⟩
    rw[←em7] at e7
    subst e7
    have f0:=hr6.frozen 1
    have k6:wt20.cell? ⟨r,1,none⟩=some vw:=hr6.cell 1
    refine Reg.any_store 16 (wt20.setCell ⟨r,1,none⟩ (.slice A7 m7 c7)) rfl (by kernel_rfl) (by rfl) (by go_simp) trivial ?_
    simp only[Act.put,Reg.s0,Reg.s1,Reg.s2]
    refine wpAnyH_done (by kernel_rfl) ?_ _
    have HFN:=Lib.hid hn6;have HFC:=Lib.hid hc6;have HFQ:=Lib.hid hq6
    clear f0 k6 hr6 ho6 hg6 hv6 hrun em7 hn6 hc6 hq6 HNB HB HN HN0
    go_wp2
    go_ret
    exact⟨rfl,_,HFN.out,HFC.out,HFQ.out⟩
   ·left
    have hb:Below wdt.heap.size wdt (wdt.alloc (.cells #[.int .i64 (k:Int)] 3)):=(Below.refl _ _).alloc (Nat.le_refl _) _
    refine⟨_,_,_,_,_,_,.slice (some ⟨wdt.heap.size,0,none⟩) 1 1,(wdt.alloc (.cells #[.int .i64 (k:Int)] 3)),rfl,by rfl,exec_slice_int rfl (SI.out _ _),trivial,?_⟩
    simp only[Act.put,Reg.s0,Reg.s1,Reg.s2]
    have HNB:=Lib.hid (Blk.new wdt 3 #[.int .i64 (k:Int)])
    replace HN:=Lib.hid (HN.out.below hb)
    replace HB:=Lib.hid (HB.out.trans (hb.mono HB.out.size))
    clear hb
    obtain⟨wt23,ewt23⟩:∃z,z=(wdt.alloc (.cells #[.int .i64 (k:Int)] 3)):=⟨_,rfl⟩
    rw[←ewt23] at HN HB HNB⊢
    clear ewt23
    obtain⟨Gwt23,eGwt23⟩:∃z,z=wdt.heap.size:=⟨_,rfl⟩
    rw[←eGwt23] at HNB⊢
    clear eGwt23
    refine Reg.both_all [4] (by kernel_rfl) (by simp) ?_
    intro j0 hj0
    obtain rfl:j0=4:=by simpa using hj0
    clear hj0
    left
    refine⟨_,_,_,_,_,_,(.slice (some ⟨gw,0,none⟩) nw c1),wt23,rfl,by rfl,(by have kw:=(EVW.out▸HN.out.c1:World.cell? _ ⟨r,1,none⟩=some (.slice (some ⟨gw,0,none⟩) nw c1));(go_simp<;>rfl)),trivial,?_⟩
    simp only[Act.put,Reg.s0,Reg.s1,Reg.s2]
    refine Reg.both_all [13] (by kernel_rfl) (by simp) ?_
    intro j0 hj0
    obtain rfl:j0=13:=by simpa using hj0
    clear hj0
    left
    obtain⟨v6,wt24,hrun,ho6,hg6,hv6⟩:=Wh.app_run (P:=Try.prog) iC 1 8 iC_length iC_one wt23 44 44 3 iI _ Try.underlying44 KI1.out KI2.out KI3.out KI4.out (by rfl) (by omega) B vw ws HN.out.way k Gwt23 HNB.out (by have:=HL1.out;omega) (by omega) HN.out.big
    obtain⟨hn6,hc6,hq6⟩:=nt_way HN0.out HB.out HN.out ho6 hg6 hv6
    have hr6:=HN.out.blk.grown hg6 HN.out.wr
    refine⟨_,_,_,_,_,_,v6,wt24,rfl,by rfl,exec_app (by rw[EVW.out];rfl) rfl hrun,trivial,?_⟩
    simp only[Act.put,Reg.s0,Reg.s1,Reg.s2]
    refine Reg.tk 14 (v:=?vt25) rfl trivial (fun w' hS=>?ht25) ?rt25
    case ht25=>go_simp<;>rfl
    simp only[Act.put,Reg.s0,Reg.s1,Reg.s2]
    refine Reg.tk 15 (v:=?vt26) rfl trivial (fun w' hS=>?ht26) ?rt26
    case ht26=>go_simp<;>rfl
    simp only[Act.put,Reg.s0,Reg.s1,Reg.s2]
    obtain⟨A7,c7,e7,_⟩:=own_rdr iC_length ho6
    obtain⟨m7,em7⟩:∃m7,m7=(ws++[k]).length:=⟨_,rfl⟩
    rw[←em7] at e7
    subst e7
    have f0:=hr6.frozen 1
    have k6:wt24.cell? ⟨r,1,none⟩=some vw:=hr6.cell 1
    refine Reg.any_store 16 (wt24.setCell ⟨r,1,none⟩ (.slice A7 m7 c7)) rfl (by kernel_rfl) (by rfl) (by go_simp) trivial ?_
    simp only[Act.put,Reg.s0,Reg.s1,Reg.s2]
    refine wpAnyH_done (by kernel_rfl) ?_ _
    have HFN:=Lib.hid hn6;have HFC:=Lib.hid hc6;have HFQ:=Lib.hid hq6
    clear f0 k6 hr6 ho6 hg6 hv6 hrun em7 hn6 hc6 hq6 HNB HB HN HN0
    go_wp2
    go_ret
    exact⟨rfl,_,HFN.out,HFC.out,HFQ.out⟩
theorem z_pk:pkA pk0 none 0=#[.int .i64 0,.int .i64 0,.slice none 0 0]:=rfl
set_option maxHeartbeats 1600000 in
set_option maxRecDepth 100000 in
theorem at_core (q:Option Addr) (i:Int) (w:World) (hh:∀w1,Below w.heap.size w w1→Calls Try.prog 25 #[.pointer q,.int .i64 i] w1 fun e w'=>e = .returned (.bool false)∧w'=w1) :
  Calls Try.prog 17 #[.pointer q,.int .i64 i] w fun e w'=>e = .returned (.tuple #[.agg (pkA pk0 none 0),.bool false])∧Below w.heap.size w w':=by
 obtain⟨zs,ezs⟩:∃zs,zs=pkA pk0 none 0:=⟨_,rfl⟩
 have EZ2:=Lib.hid (ezs.trans z_pk)
 have HZS:=Lib.hid (show zs.size=3 by rw[ezs,pkA_size])
 obtain⟨W,eW⟩:∃W,W=w.alloc (.cells zs 32):=⟨_,rfl⟩
 have hb:Below w.heap.size w W:=eW▸(Below.refl _ _).alloc (Nat.le_refl _) _
 have HZ:=Lib.hid (show Blk W w.heap.size 32 zs from eW▸Blk.new w _ _)
 have ch:=hh W hb
 have HB:=Lib.hid hb
 clear ezs hh hb
 go_enter Try.func17,Try.ntmps17
 go_upto_region 1 with fail
 rw[←EZ2.out,←eW]
 clear eW EZ2
 go_wp2_with (first
  |(go_at_call 25;refine Calls.mono ch ?_;rintro e w1 ⟨rfl,hw⟩;have hw:=hw.symm;subst hw;clear ch)
  |(refine Wh.store_over (by rfl) 32 (.tmp 4) (.tmp 10) (by rfl) w.heap.size 32 zs HZ.out (pkA pk0 none 0) (by rfl) (by rfl) (by rw[HZS.out,pkA_size]) (by rw[pkA_size];exact pk_info) (pkA_one _ _ _) ?_;rintro V2 hV2 hg;have HV:=Lib.hid hV2;replace HB:=Lib.hid (btg HB.out hg (Nat.le_refl _));clear hV2 hg)
  |fail)
 refine bodyPost_ret (v:=.tuple #[.agg (pkA pk0 none 0),.bool false]) ?_ ?_ ?_
 ·exact results_pair 4 5 32 ⟨w.heap.size,0,none⟩ Try.results17 (by rfl) (Wh.load_blk HV.out Try.underlying32 (by rfl) (by rw[pkA_size];exact pk_info)) (by rfl)
 ·rfl
 ·exact⟨rfl,HB.out⟩
theorem at_no (B r:Nat) (vs vw:Value) (es:List En) (ws:List Nat) (i:Int) (w:World) (h:Nt w B r vs vw es ws) (hno:hasB ws.length i=false) :
  Calls Try.prog 17 #[.pointer (some ⟨r,0,none⟩),.int .i64 i] w fun e w'=>e = .returned (.tuple #[.agg (pkA pk0 none 0),.bool false])∧Below w.heap.size w w':=
 at_core _ i w (fun w1 hb=>by have:=has_any B r vs vw es ws i w1 (h.below hb);rw[hno] at this;exact this)
set_option maxHeartbeats 3200000 in
set_option maxRecDepth 100000 in
theorem at_ok (B r:Nat) (vs vw:Value) (es:List En) (ws:List Nat) (i k:Nat) (x:En) (w:World) (h:Nt w B r vs vw es ws) (hi:ws[i]? = some k) (hx:es[k]? = some x) (hl:x.p.b.length≤100000000000) :
  Calls Try.prog 17 #[.pointer (some ⟨r,0,none⟩),.int .i64 (i:Int)] w fun e w'=>∃A' c',e = .returned (.tuple #[.agg (pkA x.p A' c'),.bool true])∧Own1 w w' A' (bvs x.p.b)∧Below w.heap.size w w':=by
 have hin:i<ws.length:=(List.getElem?_eq_some_iff.1 hi).1
 have hkn:k<es.length:=(List.getElem?_eq_some_iff.1 hx).1
 obtain⟨zs,ezs⟩:∃zs,zs=pkA pk0 none 0:=⟨_,rfl⟩
 have EZ2:=Lib.hid (ezs.trans z_pk)
 have HZS:=Lib.hid (show zs.size=3 by rw[ezs,pkA_size])
 obtain⟨W,eW⟩:∃W,W=w.alloc (.cells zs 32):=⟨_,rfl⟩
 have hb:Below w.heap.size w W:=eW▸(Below.refl _ _).alloc (Nat.le_refl _) _
 have HZ:=Lib.hid (show Blk W w.heap.size 32 zs from eW▸Blk.new w _ _)
 have HNR:=Lib.hid (show ¬NO r vs vw es w.heap.size from h.not (Nat.le_refl _))
 have HN:=Lib.hid (h.below hb)
 have ch:=has_any B r vs vw es ws (i:Int) W HN.out
 rw[has_i hin] at ch
 have HB:=Lib.hid hb
 obtain⟨A1,c1,evw,_,_,hrw⟩:=h.num2
 obtain⟨gw,rfl,_,hcw⟩:=way_at hrw hi
 obtain⟨A0,c0,evs,_,_,hrs⟩:=h.num
 obtain⟨gs,rfl,_,hcs⟩:=hrs.at_ hx
 obtain⟨nw,enw⟩:∃nw,nw=ws.length:=⟨_,rfl⟩
 obtain⟨ns,ens⟩:∃ns,ns=es.length:=⟨_,rfl⟩
 rw[←enw] at evw hin
 rw[←ens] at evs hkn
 obtain⟨xs,exs⟩:∃xs,xs=pkA x.p x.A x.c:=⟨_,rfl⟩
 have HXI:=Lib.hid (show(Try.prog.info? 32).map (·.size)=some xs.size by rw[exs];exact pk_info)
 have e1:(i:Int)<(nw:Int):=by omega
 have e2:(0:Int)≤(i:Int):=by omega
 have e3:(k:Int)<(ns:Int):=by omega
 have e4:(0:Int)≤(k:Int):=by omega
 have EVW:=Lib.hid evw;have EVS:=Lib.hid evs
 have HI:=Lib.hid hi;have HX:=Lib.hid hx
 have EXS:=Lib.hid exs
 have HAS:=Lib.hid (show ∀(w1:World),Nt w1 B r vs vw es ws→w1.cell? ⟨r,0,none⟩=some (.slice (some ⟨gs,0,none⟩) ns c0)∧w1.cell? ⟨r,1,none⟩=some (.slice (some ⟨gw,0,none⟩) nw c1)∧w1.cell? ⟨gw,i,none⟩=some (.int .i64 (k:Int))∧w1.rangeAt gs (k*3) xs.toList from fun w1 h1=>by
  refine⟨EVS.out▸h1.c0,EVW.out▸h1.c1,?_,?_⟩
  ·obtain⟨A2,c2,ev2,_,_,hr2⟩:=h1.num2
   obtain⟨g2,rfl,_,hc2⟩:=way_at hr2 HI.out
   rw[EVW.out] at ev2
   injection ev2 with ea _ _
   injection ea with ea
   injection ea with ea
   rw[ea];exact hc2
  ·obtain⟨A2,c2,ev2,_,_,hr2⟩:=h1.num
   obtain⟨g2,rfl,_,hc2⟩:=hr2.at_ HX.out
   rw[EVS.out] at ev2
   injection ev2 with ea _ _
   injection ea with ea
   injection ea with ea
   rw[ea,EXS.out];exact hc2)
 have CX:=Lib.hid (fun(w1:World) (hn:Nt w1 B r vs vw es ws)=>clone_pk x.p x.A x.c w1.heap.size w1 (hn.rd x (List.mem_of_getElem? HX.out)) (Nat.le_refl _) hl)
 rw[←exs] at CX
 clear h hi hx hb evw evs hrw hcw hrs hcs enw ens hin hkn ezs exs hl
 go_enter Try.func17,Try.ntmps17
 go_upto_region 1 with fail
 rw[←EZ2.out,←eW]
 clear eW EZ2
 go_upto_region 3 with(go_at_call 25;refine Calls.mono ch ?_;rintro e w1 ⟨rfl,hw⟩;have hw:=hw.symm;subst hw;clear ch)
 have hb:Below W.heap.size W W.drew:=below_drewN (Below.refl _ _) 1
 replace HN:=Lib.hid (HN.out.below hb)
 replace HZ:=Lib.hid (HZ.out.below hb)
 replace HB:=Lib.hid (HB.out.trans (hb.mono HB.out.size))
 clear hb
 obtain⟨wdc,ewd⟩:∃z,z=W.drew:=⟨_,rfl⟩
 refine Reg.any_begin (fun w'=>w'.cell? ⟨r,0,none⟩=some (.slice (some ⟨gs,0,none⟩) ns c0)∧w'.cell? ⟨r,1,none⟩=some (.slice (some ⟨gw,0,none⟩) nw c1)∧w'.cell? ⟨gw,i,none⟩=some (.int .i64 (k:Int))∧w'.rangeAt gs (k*3) xs.toList) 16 rfl (by kernel_rfl) (HAS.out _ HN.out) ?_
 rw[←ewd] at HN HZ HB⊢
 clear ewd
 refine Reg.tk 0 (v:=?vc27) rfl (HAS.out _ HN.out) (fun w' hS=>?hc27) ?rc27
 case hc27=>go_simp<;>rfl
 simp only[Act.put,Reg.s0,Reg.s1,Reg.s2]
 refine Reg.tk 1 (v:=?vc28) rfl (HAS.out _ HN.out) (fun w' hS=>?hc28) ?rc28
 case hc28=>go_simp<;>rfl
 simp only[Act.put,Reg.s0,Reg.s1,Reg.s2]
 refine Reg.tk 2 (v:=?vc29) rfl (HAS.out _ HN.out) (fun w' hS=>?hc29) ?rc29
 case hc29=>go_simp<;>rfl
 simp only[Act.put,Reg.s0,Reg.s1,Reg.s2]
 refine Reg.tk 3 (v:=?vc30) rfl (HAS.out _ HN.out) (fun w' hS=>?hc30) ?rc30
 case hc30=>obtain⟨q1,q2,q3,q4⟩:=hS;(go_simp<;>rfl)
 simp only[Act.put,Reg.s0,Reg.s1,Reg.s2]
 refine Reg.tk 4 (v:=?vc31) rfl (HAS.out _ HN.out) (fun w' hS=>?hc31) ?rc31
 case hc31=>go_simp<;>rfl
 simp only[Act.put,Reg.s0,Reg.s1,Reg.s2]
 refine Reg.tk 5 (v:=?vc32) rfl (HAS.out _ HN.out) (fun w' hS=>?hc32) ?rc32
 case hc32=>go_simp<;>rfl
 simp only[Act.put,Reg.s0,Reg.s1,Reg.s2]
 refine Reg.tk 6 (v:=?vc33) rfl (HAS.out _ HN.out) (fun w' hS=>?hc33) ?rc33
 case hc33=>go_simp<;>rfl
 simp only[Act.put,Reg.s0,Reg.s1,Reg.s2]
 refine Reg.tk 7 (v:=?vc34) rfl (HAS.out _ HN.out) (fun w' hS=>?hc34) ?rc34
 case hc34=>obtain⟨q1,q2,q3,q4⟩:=hS;(go_simp<;>rfl)
 simp only[Act.put,Reg.s0,Reg.s1,Reg.s2]
 refine Reg.tk 8 (v:=?vc35) rfl (HAS.out _ HN.out) (fun w' hS=>?hc35) ?rc35
 case hc35=>go_simp<;>rfl
 simp only[Act.put,Reg.s0,Reg.s1,Reg.s2]
 refine Reg.tk 9 (v:=?vc36) rfl (HAS.out _ HN.out) (fun w' hS=>?hc36) ?rc36
 case hc36=>go_simp<;>rfl
 simp only[Act.put,Reg.s0,Reg.s1,Reg.s2]
 refine Reg.tk 10 (v:=?vc37) rfl (HAS.out _ HN.out) (fun w' hS=>?hc37) ?rc37
 case hc37=>obtain⟨q1,q2,q3,q4⟩:=hS;(go_simp<;>rfl)
 simp only[Act.put,Reg.s0,Reg.s1,Reg.s2]
 refine Reg.tk 11 (v:=?vc38) rfl (HAS.out _ HN.out) (fun w' hS=>?hc38) ?rc38
 case hc38=>go_simp<;>rfl
 simp only[Act.put,Reg.s0,Reg.s1,Reg.s2]
 refine Reg.tk 12 (v:=.agg xs) rfl (HAS.out _ HN.out) (fun w' hS=>?hc39) ?rc39
 case hc39=>obtain⟨q1,q2,q3,q4⟩:=hS;exact exec_load_mid (.tmp 22) rfl q4 Try.underlying32 rfl HXI.out
 simp only[Act.put,Reg.s0,Reg.s1,Reg.s2]
 refine Reg.both_all [13] (by kernel_rfl) (by simp) ?_
 intro j0 hj0
 obtain rfl:j0=13:=by simpa using hj0
 clear hj0
 right
 refine⟨_,_,_,_,_,_,23,#[.agg xs],rfl,by rfl,(by go_simp<;>first | rfl | exact⟨rfl,rfl⟩),?_⟩
 refine Calls.mono (CX.out _ HN.out) ?_
 rintro e wc40 ⟨A',c',rfl,ho,hb⟩
 have HO:=Lib.hid (ho.since HB.out.size)
 have HNE:=Lib.hid (show ∀p,A'=some p→p.block≠w.heap.size from fun p hp=>by have:=HZ.out.lt;have:=(ho.2 p hp).1;omega)
 clear ho
 replace HN:=Lib.hid (HN.out.below hb)
 replace HZ:=Lib.hid (HZ.out.below hb)
 replace HB:=Lib.hid (HB.out.trans (hb.mono HB.out.size))
 clear hb
 refine⟨_,rfl,(HAS.out _ HN.out),?_⟩
 simp only[Act.put,Reg.s0,Reg.s1,Reg.s2]
 have HRZ:=Lib.hid (show(pkA x.p A' c').size=3 from rfl)
 refine Reg.any_store_whole 14 rfl (by kernel_rfl) (by rfl) w.heap.size 32 _ (pkA x.p A' c') HZ.out (by rfl) (by rfl) (by rw[HZS.out,HRZ.out]) (by rw[HRZ.out];exact pk_info) (pkA_one _ _ _) ?_
 intro V hV hg
 have HV:=Lib.hid hV
 have hnt:=HN.out.chg (Chg.of_grown (S:=fun k=>k=w.heap.size) hg rfl) (fun k hk e=>HNR.out (e▸hk))
 have HOV:=Lib.hid (HO.out.chg (Chg.of_grown (S:=fun k=>k=w.heap.size) hg rfl) (fun q hq e=>HNE.out q hq e))
 have HBV:=Lib.hid (btg HB.out hg (Nat.le_refl _))
 refine⟨HAS.out _ hnt,?_⟩
 simp only[Act.put,Reg.s0,Reg.s1,Reg.s2]
 refine Reg.tk 15 (v:=?vc41) rfl (HAS.out _ hnt) (fun w' hS=>?hc41) ?rc41
 case hc41=>go_simp<;>rfl
 simp only[Act.put,Reg.s0,Reg.s1,Reg.s2]
 refine wpAnyH_done (by kernel_rfl) ?_ _
 clear hV hg hnt
 go_wp2
 refine bodyPost_ret (v:=.tuple #[.agg (pkA x.p A' c'),.bool true]) ?_ ?_ ?_
 ·exact results_pair 4 5 32 ⟨w.heap.size,0,none⟩ Try.results17 (by rfl) (Wh.load_blk HV.out Try.underlying32 (by rfl) (by rw[HRZ.out];exact pk_info)) (by rfl)
 ·rfl
 ·exact⟨A',c',rfl,HOV.out,HBV.out⟩
end Go.Proofs.Ytlihoeipmjbnbaa.Nt
end

section
set_option linter.unusedVariables false
set_option linter.unusedSimpArgs false
namespace Go.Proofs.Ytlihoeipmjbnbaa.Nt
open Go.RowKit Go.Proofs.Ytlihoeipmjbnbaa.Mem Go.Proofs.Ytlihoeipmjbnbaa.Se
open Go.Proofs.Ytlihoeipmjbnbaa.Nm (L)
open Go.Proofs.Ytlihoeipmjbnbaa.Ca (Own1 rd_chg row_blk row_mk)
open Go.Proofs.Ytlihoeipmjbnbaa.Rg (flat_len flat_at flat_one RdR own_rdr own_chg)
set_option maxHeartbeats 1600000 in
set_option maxRecDepth 100000 in
theorem pull_core (q:Option Addr) (i:Int) (w:World) (hh:∀w1,Below w.heap.size w w1→Calls Try.prog 17 #[.pointer q,.int .i64 i] w1 fun e w'=>e = .returned (.tuple #[.agg (pkA pk0 none 0),.bool false])∧Below w1.heap.size w1 w') :
  Calls Try.prog 12 #[.pointer q,.int .i64 i] w fun e w'=>e = .returned (.tuple #[.agg (pkA pk0 none 0),.bool false])∧Below w.heap.size w w':=by
 obtain⟨zs,ezs⟩:∃zs,zs=pkA pk0 none 0:=⟨_,rfl⟩
 have EZ2:=Lib.hid (ezs.trans z_pk)
 have HZS:=Lib.hid (show zs.size=3 by rw[ezs,pkA_size])
 have HZI:=Lib.hid (show(Try.prog.info? 32).map (·.size)=some zs.size by rw[ezs];exact pk_info)
 have HZ1:=Lib.hid (show zs.all (·.oneCell')=true by rw[ezs];exact pkA_one _ _ _)
 have EZS:=Lib.hid ezs
 obtain⟨W,eW⟩:∃W,W=w.alloc (.cells zs 32):=⟨_,rfl⟩
 have hb:Below w.heap.size w W:=eW▸(Below.refl _ _).alloc (Nat.le_refl _) _
 have HZ:=Lib.hid (show Blk W w.heap.size 32 zs from eW▸Blk.new w _ _)
 have ch:=hh W hb
 rw[←ezs] at ch⊢
 have HB:=Lib.hid hb
 clear ezs hh hb
 go_enter Try.func12,Try.ntmps12
 go_upto_region 1 with fail
 rw[←z_pk,←EZS.out,←eW]
 clear eW EZ2
 go_wp2_with (first
  |(go_at_call 17;refine Calls.mono ch ?_;rintro e w1 ⟨rfl,hb1⟩;clear ch;replace HZ:=Lib.hid (HZ.out.below hb1);replace HB:=Lib.hid (HB.out.trans (hb1.mono HB.out.size));clear hb1)
  |(refine Wh.store_new (by rfl) 32 (.tmp 6) (.tmp 12) (by rfl) 32 rfl zs (by rfl) (by rfl) (by rw[HZS.out];rfl) HZI.out HZ1.out ?_;rintro V hV hb;have HP:=Lib.hid hV;replace HZ:=Lib.hid (HZ.out.below hb);replace HB:=Lib.hid (HB.out.trans (hb.mono HB.out.size));clear hV hb)
  |(refine Wh.load_g (by rfl) 32 (.tmp 6) (by rfl) _ 0 (by rfl) zs _ (Wh.range_blk HP.out) Try.underlying32 (by rfl) HZI.out ?_)
  |(refine Wh.store_over (by rfl) 32 (.tmp 4) (.tmp 26) (by rfl) w.heap.size 32 zs HZ.out zs (by rfl) (by rfl) (by rfl) HZI.out HZ1.out ?_;rintro V2 hV2 hg;have HV:=Lib.hid hV2;replace HB:=Lib.hid (btg HB.out hg (Nat.le_refl _));clear hV2 hg)
  |fail)
 refine bodyPost_ret (v:=.tuple #[.agg zs,.bool false]) ?_ ?_ ?_
 ·exact results_pair 4 5 32 ⟨w.heap.size,0,none⟩ Try.results12 (by rfl) (Wh.load_blk HV.out Try.underlying32 (by rfl) HZI.out) (by rfl)
 ·rfl
 ·exact⟨rfl,HB.out⟩
theorem pull_no (B r:Nat) (vs vw:Value) (es:List En) (ws:List Nat) (i:Int) (w:World) (h:Nt w B r vs vw es ws) (hno:hasB ws.length i=false) :
  Calls Try.prog 12 #[.pointer (some ⟨r,0,none⟩),.int .i64 i] w fun e w'=>e = .returned (.tuple #[.agg (pkA pk0 none 0),.bool false])∧Below w.heap.size w w':=
 pull_core _ i w (fun w1 hb=>at_no B r vs vw es ws i w1 (h.below hb) hno)
set_option maxHeartbeats 1600000 in
set_option maxRecDepth 100000 in
theorem pull_ok (B r:Nat) (vs vw:Value) (es:List En) (ws:List Nat) (i k:Nat) (x:En) (w:World) (h:Nt w B r vs vw es ws) (hi:ws[i]? = some k) (hx:es[k]? = some x) (hl:x.p.b.length≤100000000000) (hn:ws.length≤1000) :
  Calls Try.prog 12 #[.pointer (some ⟨r,0,none⟩),.int .i64 (i:Int)] w fun e w'=>∃A' c' vw',e = .returned (.tuple #[.agg (pkA x.p A' c'),.bool true])∧Own1 w w' A' (bvs x.p.b)∧Nt w' B r vs vw' es (ws.eraseIdx i)∧Chg (NT r vs vw) w w'∧vw'.ownBlock=vw.ownBlock:=by
 have hin:i<ws.length:=(List.getElem?_eq_some_iff.1 hi).1
 obtain⟨zs,ezs⟩:∃zs,zs=pkA pk0 none 0:=⟨_,rfl⟩
 have HZS:=Lib.hid (show zs.size=3 by rw[ezs,pkA_size])
 have EZS:=Lib.hid ezs
 obtain⟨W,eW⟩:∃W,W=w.alloc (.cells zs 32):=⟨_,rfl⟩
 have hb:Below w.heap.size w W:=eW▸(Below.refl _ _).alloc (Nat.le_refl _) _
 have HZ:=Lib.hid (show Blk W w.heap.size 32 zs from eW▸Blk.new w _ _)
 have HNR:=Lib.hid (show ¬NO r vs vw es w.heap.size from h.not (Nat.le_refl _))
 have HN:=Lib.hid (h.below hb)
 have ch:=at_ok B r vs vw es ws i k x W HN.out hi hx hl
 have HWZ:=Lib.hid HZ.out.lt
 have HNW:=Lib.hid HN.out
 have HB:=Lib.hid hb
 have CD:=Lib.hid (fun(w1:World) (h1:Nt w1 B r vs vw es ws)=>del_any B vw ws i w1 h1.way hin hn h1.big)
 have e9:(i:Int)<1000:=by omega
 have e10:(0:Int)≤(i:Int):=by omega
 clear ezs h hi hx hl hb hn hin
 go_enter Try.func12,Try.ntmps12
 go_upto_region 1 with fail
 rw[←z_pk,←EZS.out,←eW]
 clear eW
 go_upto_region 3 with(first
  |(go_at_call 17;refine Calls.mono ch ?_;rintro e w1 ⟨A',c',rfl,ho,hb1⟩;clear ch;have HO:=Lib.hid (ho.since HB.out.size);replace HZ:=Lib.hid (HZ.out.below hb1);replace HN:=Lib.hid (HN.out.below hb1);replace HB:=Lib.hid (HB.out.trans (hb1.mono HB.out.size));have HNO:=Lib.hid (show ∀p,A'=some p→¬NO r vs vw es p.block from fun p hp=>HNW.out.not (ho.2 p hp).1);have HNE:=Lib.hid (show ∀p,A'=some p→p.block≠w.heap.size from fun p hp=>by have:=(ho.2 p hp).1;have:=HWZ.out;omega);obtain⟨xs,exs⟩:∃xs,xs=pkA x.p A' c':=⟨_,rfl⟩;rw[←exs];have EXS:=Lib.hid exs;have HXS:=Lib.hid (show xs.size=3 by rw[exs,pkA_size]);have HXI:=Lib.hid (show(Try.prog.info? 32).map (·.size)=some xs.size by rw[exs];exact pk_info);have HX1:=Lib.hid (show xs.all (·.oneCell')=true by rw[exs];exact pkA_one _ _ _);clear ho hb1 exs)
  |(refine Wh.store_new (by rfl) 32 (.tmp 6) (.tmp 12) (by rfl) 32 rfl xs (by rfl) (by rfl) (by rw[HXS.out];rfl) HXI.out HX1.out ?_;rintro V hV hb;have HP:=Lib.hid hV;have HNP:=Lib.hid (HN.out.not (Nat.le_refl w1.heap.size));have HNZ:=Lib.hid HZ.out.lt;replace HZ:=Lib.hid (HZ.out.below hb);replace HN:=Lib.hid (HN.out.below hb);replace HO:=Lib.hid (HO.out.below hb);replace HB:=Lib.hid (HB.out.trans (hb.mono HB.out.size));clear hV hb)
  |fail)
 have k1:=HN.out.c1
 have f1:=HN.out.blk.frozen 1
 go_upto_region 4 with(first
  |(go_at_call 24;refine Calls.mono (CD.out _ HN.out) ?_;rintro e w2 ⟨v2,rfl,ho2,hg2,hv2⟩;clear k1 f1;have hr2:=HN.out.blk.grown hg2 HN.out.wr;have k1:w2.cell? ⟨r,1,none⟩=some vw:=hr2.cell 1;have f1:=hr2.frozen 1;have HFN:=Lib.hid (nt_way HN.out (Below.refl _ _) HN.out ho2 hg2 (.inl hv2));have HV2:=Lib.hid hv2;obtain⟨A7,c7,e7,_⟩:=own_rdr iC_length ho2;obtain⟨m7,em7⟩:∃m7,m7=(ws.eraseIdx i).length:=⟨_,rfl⟩;rw[←em7] at e7;subst e7;clear ho2 hg2 hv2 hr2 em7)
  |fail)
 obtain⟨W4,eW4⟩:∃z,z=w2.setCell ⟨r,1,none⟩ (.slice A7 m7 c7):=⟨_,rfl⟩
 rw[←eW4] at HFN⊢
 clear eW4 k1 f1 CD
 have HP4:=Lib.hid (HFN.out.2.1.blk HP.out (fun x=>HNP.out (nt_no x)))
 have HZ4:=Lib.hid (HFN.out.2.1.blk HZ.out (fun x=>HNR.out (nt_no x)))
 have HO4:=Lib.hid (HO.out.chg HFN.out.2.1 (fun p hp x=>by have h1:=HN.out.own_lt (nt_no (es:=es) x);have h2:=(HO.out.2 p hp).1;exact HNO.out p hp (nt_no x)))
 have HC4:=Lib.hid (Chg.trans (S:=NT r vs vw) (Chg.of_below HB.out) HFN.out.2.1 (fun q _ x=>x))
 clear HP HZ HO HB HN
 go_wp2_with (first
  |(refine Wh.load_g (by rfl) 32 (.tmp 6) (by rfl) _ 0 (by rfl) xs _ (Wh.range_blk HP4.out) Try.underlying32 (by rfl) HXI.out ?_)
  |(refine Wh.store_over (by rfl) 32 (.tmp 4) (.tmp 26) (by rfl) w.heap.size 32 zs HZ4.out xs (by rfl) (by rfl) (by rw[HZS.out,HXS.out]) HXI.out HX1.out ?_;rintro V2 hV2 hg;have HV:=Lib.hid hV2;have HGV:=Lib.hid (Chg.of_grown (S:=fun k=>k=w.heap.size) hg rfl);clear hV2 hg)
  |fail)
 refine bodyPost_ret (v:=.tuple #[.agg xs,.bool true]) ?_ ?_ ?_
 ·exact results_pair 4 5 32 ⟨w.heap.size,0,none⟩ Try.results12 (by rfl) (Wh.load_blk HV.out Try.underlying32 (by rfl) HXI.out) (by rfl)
 ·rfl
 ·refine⟨A',c',_,by rw[EXS.out],HO4.out.chg HGV.out (fun q hq e=>HNE.out q hq e),HFN.out.1.chg HGV.out (fun q hq e=>?_),HC4.out.trans HGV.out (fun q hq e=>by omega),HV2.out⟩
  subst e
  rcases hq with hq | hq | hq | hq
  ·exact HNR.out (.inl hq)
  ·exact HNR.out (.inr (.inl hq))
  ·exact HNR.out (.inr (.inr (.inl (HV2.out▸hq))))
  ·exact HNR.out (.inr (.inr (.inr hq)))
end Go.Proofs.Ytlihoeipmjbnbaa.Nt
end

section
set_option linter.unusedVariables false
set_option linter.unusedSimpArgs false
namespace Go.Proofs.Ytlihoeipmjbnbaa.Nt
open Go.RowKit Go.Proofs.Ytlihoeipmjbnbaa.Mem Go.Proofs.Ytlihoeipmjbnbaa.Se
open Go.Proofs.Ytlihoeipmjbnbaa.Nm (L)
open Go.Proofs.Ytlihoeipmjbnbaa.Ca (Own1 rd_chg row_blk row_mk)
open Go.Proofs.Ytlihoeipmjbnbaa.Rg (flat_len flat_at flat_one RdR own_rdr own_chg)
structure Ls (a w:World) (v:Value) (fs:List En):Prop where
 row:w.ownsRow a.heap.size 32 3 v fs.length (fs.flatMap enC)
 rd:∀f∈fs,Own1 a w f.A (bvs f.p.b)
 off:∀f∈fs,∀p,f.A=some p→v.ownBlock≠some p.block
section
variable {a w w' w5 w6:World} {v v6:Value} {fs:List En} {e:En}
theorem Ls.below (h:Ls a w v fs) (hb:Below w.heap.size w w'):Ls a w' v fs:=
 ⟨own_chg (S:=fun _=>False) (Chg.of_below hb) h.row (fun _ _ x=>x),fun f hf=>(h.rd f hf).below hb,h.off⟩
theorem ls_add (h:Ls a w5 v fs) (hn:Own1 a w5 e.A (bvs e.p.b)) (hne:∀p,e.A=some p→v.ownBlock≠some p.block) (ho:w6.ownsRow a.heap.size 32 3 v6 (fs++[e]).length ((fs++[e]).flatMap enC)) (hg:w5.grownBy w6 v.ownBlock) (hv:v6.ownBlock=v.ownBlock∨v6.ownBlock=some w5.heap.size) :
  Ls a w6 v6 (fs++[e]):=by
 have hc:Chg (fun q=>v.ownBlock=some q) w5 w6:=⟨hg.os,hg.tape,hg.output,hg.size,fun i hi hn=>hg.block i hi (fun e=>hn e.symm)⟩
 have hmem:∀y,y∈fs++[e]→y∈fs∨y=e:=fun y hy=>by simpa using hy
 refine⟨ho,fun f hf=>?_,fun f hf p hp x=>?_⟩
 ·rcases hmem f hf with hf | rfl
  ·exact(h.rd f hf).chg hc (fun p hp x=>h.off f hf p hp x)
  ·exact hn.chg hc (fun p hp x=>hne p hp x)
 ·rcases hmem f hf with hf | rfl
  ·rcases hv with g | g
   ·rw[g] at x;exact h.off f hf p hp x
   ·rw[g] at x;injection x with x;have:=((h.rd f hf).2 p hp).2;omega
  ·rcases hv with g | g
   ·rw[g] at x;exact hne p hp x
   ·rw[g] at x;injection x with x;have:=(hn.2 p hp).2;omega
end
theorem pks_take {fs es:List En} {i:Nat} {x e:En} (h:pks fs=(pks es).take i) (hx:es[i]? = some x) (he:e.p=x.p):pks (fs++[e])=(pks es).take (i+1):=by
 have h2:(pks es)[i]? = some x.p:=by simp [pks,hx]
 rw[List.take_add_one,h2,←h]
 simp [pks,he]
set_option maxHeartbeats 3200000 in
set_option maxRecDepth 100000 in
theorem seen_any (B r:Nat) (vs vw:Value) (es:List En) (ws:List Nat) (w:World) (h:Nt w B r vs vw es ws) (hsz:∀e∈es,e.p.b.length≤2000) (hl:es.length≤50000) :
  Calls Try.prog 20 #[.pointer (some ⟨r,0,none⟩)] w fun e w'=>∃v fs,e = .returned v∧Ls w w' v fs∧pks fs=pks es∧Below w.heap.size w w':=by
 obtain⟨A0,c0,evs,_,_,hrs⟩:=h.num
 obtain⟨n,en⟩:∃n,n=es.length:=⟨_,rfl⟩
 have EN:=Lib.hid en
 have k0:=h.c0
 rw[evs,←en] at k0
 have HR:=Lib.hid hrs
 have HSZ:=Lib.hid hsz
 have HN:=Lib.hid h
 rw[←en] at hl
 have HL:=Lib.hid hl
 obtain⟨iP,hiP,hzP,hsP,hbP⟩:=info_parts pk_all
 have KP1:=Lib.hid hiP;have KP2:=Lib.hid hzP;have KP3:=Lib.hid hsP;have KP4:=Lib.hid hbP
 clear h evs hrs en hsz hl hiP hzP hsP hbP
 obtain⟨N,eN⟩:∃N,N=w.heap.size:=⟨_,rfl⟩
 have EN2:=Lib.hid eN
 go_enter Try.func20,Try.ntmps20
 go_upto_region 4 with(first
  |(refine wpList_make_own _ rfl (.const (.int .i64 0)) (.tmp 12) 27 rfl w.heap.size 32 iP _ 3 Try.underlying27 KP1.out KP2.out KP3.out .i64 .i64 (n:Int) n (by rfl) (by rfl) rfl (by rw[KP4.out];have:=HL.out;omega) (by have:=HL.out;unfold maxLen;omega) (Nat.le_refl _) ?_;intro w1 ho hg;have HB:=Lib.hid (below_of_g hg);have HLS:=Lib.hid (⟨ho,(fun f hf=>by cases hf),(fun f hf=>by cases hf)⟩:Ls w w1 (.slice (some ⟨w.heap.size,0,none⟩) 0 n) []);replace k0:=(HB.out.cell (p:=⟨r,0,none⟩) HN.out.lt).trans k0;clear ho hg)
  |fail)
 go_wp2
 go_loopw [19,3] (fun iv lv wr=>∃(i:Nat) (fs:List En),i≤n∧iv = .int .i64 (i:Int)∧Below w.heap.size w wr∧Ls w wr lv fs∧pks fs=(pks es).take i) (fun iv lv _=>n - (intOf iv).toNat)
 case atStart=>exact⟨0,[],Nat.zero_le _,rfl,HB.out,HLS.out,rfl⟩
 case round=>
  clear HB HLS k0
  obtain⟨i,fs,hi,rfl,hb,hls,hfs⟩:=hrel
  have HB:=Lib.hid hb;have HLS:=Lib.hid hls;have HFS:=Lib.hid hfs
  obtain⟨Av,cv,elv,_⟩:=own_rdr enC_length hls.row
  have HFL:=Lib.hid (show fs.length=i by have:=congrArg List.length hfs;rw[pks_length,List.length_take,pks_length,←EN.out] at this;omega)
  have ELV:=Lib.hid elv
  clear hb hls hfs
  by_cases hlt:i<n
  ·have e1:(i:Int)<(n:Int):=by omega
   have e2:(0:Int)≤(i:Int):=by omega
   have e9:(i:Int)<50000:=by have:=HL.out;omega
   obtain⟨x,hx⟩:∃x,es[i]? = some x:=⟨es[i]'(by rw[←EN.out];exact hlt),List.getElem?_eq_getElem _⟩
   have HX:=Lib.hid hx
   have HM:=Lib.hid (List.mem_of_getElem? hx)
   obtain⟨gs,rfl,hgl,hra0⟩:=HR.out.at_ hx
   obtain⟨xs,exs⟩:∃xs,xs=pkA x.p x.A x.c:=⟨_,rfl⟩
   have HRA:=Lib.hid (show wr.rangeAt gs (i*3) xs.toList from fun j u hu=>(HB.out.cell (p:=⟨gs,_,none⟩) hgl).trans (hra0 j u (by rw[exs] at hu;exact hu)))
   have HXS:=Lib.hid (show xs.size=3 by rw[exs];rfl)
   have HXI:=Lib.hid (show(Try.prog.info? 32).map (·.size)=some xs.size by rw[exs];exact pk_info)
   have HX1:=Lib.hid (show xs.all (·.oneCell')=true by rw[exs];exact pkA_one _ _ _)
   have CX:=Lib.hid (fun(w1:World) (hb:Below w.heap.size w w1)=>clone_pk x.p x.A x.c w1.heap.size w1 ((HN.out.below hb).rd x HM.out) (Nat.le_refl _) (by have:=HSZ.out x HM.out;omega))
   rw[←exs] at CX
   have SP:=Lib.hid (fun(w1:World) (A':Option Addr) (c':Nat)=>Wh.run_build_one (P:=Try.prog) w1 27 32 (pkA x.p A' c') iP _ Try.underlying27 KP1.out KP2.out (by rw[KP3.out];rfl) (by rw[pkA_size];omega) (by rw[pkA_size];omega))
   clear hx hra0 exs hlt
   go_wp2_with (first
    |(refine Wh.load_g (by rfl) 32 (.tmp 21) (by rfl) gs _ (by rfl) xs _ HRA.out Try.underlying32 (by rfl) HXI.out ?_)
    |(refine Wh.store_new (by rfl) 32 (.tmp 5) (.tmp 22) (by rfl) 32 rfl xs (by rfl) (by rfl) (by rw[HXS.out];rfl) HXI.out HX1.out ?_;rintro V hV hb;have HP:=Lib.hid hV;replace HLS:=Lib.hid (HLS.out.below hb);replace HB:=Lib.hid (HB.out.trans (hb.mono HB.out.size));clear hV hb)
    |(refine Wh.load_g (by rfl) 32 (.tmp 5) (by rfl) _ 0 (by rfl) xs _ (Wh.range_blk HP.out) Try.underlying32 (by rfl) HXI.out ?_)
    |(go_at_call 23;refine Calls.mono (CX.out _ HB.out) ?_;rintro e w2 ⟨A',c',rfl,ho,hb⟩;have HO:=Lib.hid (ho.since HB.out.size);have HNE:=Lib.hid (show ∀p,A'=some p→u3.ownBlock≠some p.block from fun p hp x=>by have h1:=(World.ownsRow.lt HLS.out.row _ x).2;have h2:=(ho.2 p hp).1;omega);replace HLS:=Lib.hid (HLS.out.below hb);replace HB:=Lib.hid (HB.out.trans (hb.mono HB.out.size));obtain⟨ys,eys⟩:∃ys,ys=pkA x.p A' c':=⟨_,rfl⟩;rw[←eys];have EYS:=Lib.hid eys;have HYS:=Lib.hid (show ys.size=3 by rw[eys];rfl);have HNL:=Lib.hid (show ∀p,A'=some p→p.block<w2.heap.size from fun p hp=>(HO.out.2 p hp).2);clear ho hb CX eys)
    |(refine Wh.build_one (by rfl) 27 32 (.tmp 25) (by rfl) ys (by rfl) iP _ Try.underlying27 KP1.out KP2.out (by rw[KP3.out,HYS.out]) (by rw[HYS.out];omega) (by rw[HYS.out];omega) ?_;rintro W3 hW;have hb:Below w2.heap.size w2 W3:=hW▸(Below.refl _ _).alloc (Nat.le_refl _) _;have HNB:=Lib.hid (show Blk W3 w2.heap.size 32 (enC (⟨x.p,A',c'⟩:En)).toArray from(EYS.out▸hW▸Blk.new w2 _ ys:Blk W3 w2.heap.size 32 (pkA x.p A' c')));replace HLS:=Lib.hid (HLS.out.below hb);replace HO:=Lib.hid (HO.out.below hb);replace HB:=Lib.hid (HB.out.trans (hb.mono HB.out.size));clear hb hW)
    |(refine Wh.app_one (P:=Try.prog) enC 3 40 enC_length enC_one (by rfl) (.tmp 23) (.tmp 26) 27 32 (by rfl) iP _ Try.underlying27 KP1.out KP2.out KP3.out KP4.out (by rfl) (by omega) (by omega) w.heap.size u3 fs (by rw[ELV.out];rfl) HLS.out.row (⟨x.p,A',c'⟩:En) w2.heap.size (by rfl) HNB.out (by have:=HFL.out;have:=HL.out;omega) HB.out.size ?_;intro v6 w6 ho6 hg6 hv6;have HL6:=Lib.hid (ls_add (e:=⟨x.p,A',c'⟩) HLS.out HO.out HNE.out ho6 hg6 hv6);have HB6:=Lib.hid (HB.out.trans (⟨hg6.os,hg6.tape,hg6.output,hg6.size,fun i hi=>hg6.block i (Nat.lt_of_lt_of_le hi HB.out.size) (fun e=>by have:=(World.ownsRow.lt HLS.out.row _ e.symm).1;omega)⟩:Below w.heap.size W3 w6));clear ho6 hg6 hv6)
    |fail)
   go_roundw
   case rel=>exact⟨i+1,fs++[(⟨x.p,A',c'⟩:En)],by omega,by go_num,HB6.out,HL6.out,pks_take HFS.out HX.out rfl⟩
   case measure=>simp [intOf];omega
  ·have e1:¬(i:Int)<(n:Int):=by omega
   obtain rfl:n=i:=by omega
   go_wp2
   go_ret
   exact⟨_,rfl,fs,(by rw[←ELV.out];exact HLS.out),by rw[HFS.out,EN.out,←pks_length,List.take_length],HB.out⟩
end Go.Proofs.Ytlihoeipmjbnbaa.Nt
end
