import Derived.Deep.RegionLaw
import Derived.Lib.SliceRun
import Derived.Test.YtlihoeipmjbnbaaProg
import Derived.StillTailTactics
import Derived.Deep.CutBlock
import Derived.Laws.StructEq
import Derived.Deep.RegionHeld3
import Derived.Deep.LoopGhost
import Derived.Deep.Cut
import Derived.Deep.CutRange
import Derived.Test.YtlihoeipmjbnbaaZNetPlays1
import Derived.Test.YtlihoeipmjbnbaaZNetPlays2
section
set_option linter.unusedVariables false
set_option linter.unusedSimpArgs false
namespace Go.Proofs.Ytlihoeipmjbnbaa.Nt
open Go.RowKit Go.Proofs.Ytlihoeipmjbnbaa.Mem Go.Proofs.Ytlihoeipmjbnbaa.Se
open Go.Proofs.Ytlihoeipmjbnbaa.Nm (L)
open Go.Proofs.Ytlihoeipmjbnbaa.Ca (Own1 rd_chg row_blk row_mk bclone_any)
open Go.Proofs.Ytlihoeipmjbnbaa.Rg (flat_len flat_at flat_one RdR own_rdr own_chg)
set_option maxHeartbeats 1600000 in
set_option maxRecDepth 100000 in
theorem clone_pk (p:Pk) (A:Option Addr) (c B:Nat) (w:World) (hr:Rd w B A (bvs p.b)) (hB:B≤w.heap.size) (hl:p.b.length≤100000000000) :
  Calls Try.prog 23 #[.agg (pkA p A c)] w fun e w'=>∃A' c',e = .returned (.agg (pkA p A' c'))∧Own1 w w' A' (bvs p.b)∧Below w.heap.size w w':=by
 obtain⟨W,eW⟩:∃W,W=(w.alloc (.cells #[.int .i64 p.f,.int .i64 p.t,.slice A p.b.length c] 32)).alloc (.cells #[.int .i64 0,.int .i64 0,.slice none 0 0] 32):=⟨_,rfl⟩
 have hb:Below w.heap.size w W:=eW▸((Below.refl _ _).alloc (Nat.le_refl _) _).alloc (by simp) _
 have HP:=Lib.hid (show Blk W w.heap.size 32 #[.int .i64 p.f,.int .i64 p.t,.slice A p.b.length c] from eW▸(Blk.new w _ _).alloc _)
 have HZ:=Lib.hid (show Blk W (w.heap.size+1) 32 #[.int .i64 0,.int .i64 0,.slice none 0 0] by have:=Blk.new (w.alloc (.cells #[.int .i64 p.f,.int .i64 p.t,.slice A p.b.length c] 32)) 32 #[.int .i64 0,.int .i64 0,.slice none 0 0];simp only[World.size_alloc] at this;exact eW▸this)
 have cb:=bclone_any A c B p.b W (hr.below (hb.mono hB)) (Nat.le_trans hB hb.size) hl
 have HB:=Lib.hid hb
 obtain⟨n,en⟩:∃n,n=p.b.length:=⟨_,rfl⟩
 have EN:=Lib.hid en
 unfold pkA
 rw[←en] at cb HP eW⊢
 have k2:W.cell? ⟨w.heap.size,2,none⟩=some (.slice A n c):=HP.out.cell 2
 clear hb hr hB hl en
 go_enter Try.func23,Try.ntmps23
 go_upto_region 1 with fail
 rw[←eW]
 clear eW
 go_upto_region 2 with(first
  |(go_at_call 26;refine Calls.mono cb ?_;rintro e w1 ⟨A',c',rfl,ho,hb1,_⟩;clear cb k2;have h0:=HP.out.below hb1;have k2:w1.cell? ⟨w.heap.size,2,none⟩=some (.slice A n c):=h0.cell 2;have f2:=h0.frozen 2;have HP1:=Lib.hid h0;have HZ1:=Lib.hid (HZ.out.below hb1);have HO:=Lib.hid (ho.since HB.out.size);have HNE:=Lib.hid (show ∀p,A'=some p→p.block≠w.heap.size∧p.block≠w.heap.size+1 from fun p hp=>by have:=HZ.out.lt;have:=(ho.2 p hp).1;omega);have HB1:=Lib.hid (HB.out.trans (hb1.mono HB.out.size));clear h0 ho hb1)
  |fail)
 obtain⟨W2,eW2⟩:∃W2,W2=w1.setCell ⟨w.heap.size,2,none⟩ (.slice A' n c'):=⟨_,rfl⟩
 have hp2:Blk W2 w.heap.size 32 #[.int .i64 p.f,.int .i64 p.t,.slice A' n c']:=eW2▸HP1.out.set 2 _
 have hz2:Blk W2 (w.heap.size+1) 32 #[.int .i64 0,.int .i64 0,.slice none 0 0]:=eW2▸Si.Blk.far HZ1.out _ _ (by simp)
 have HO2:=Lib.hid (show Own1 w W2 A' (bvs p.b) from eW2▸HO.out.chg (Chg.set (p:=⟨w.heap.size,2,none⟩) (Chg.refl (fun k=>k=w.heap.size) w1) (.inl rfl) _) (fun q hq=>(HNE.out q hq).1))
 have HB2:=Lib.hid (show Below w.heap.size w W2 from eW2▸Si.below_set HB1.out (by simp) _)
 obtain⟨xs,exs⟩:∃xs:Array Value,xs=#[.int .i64 p.f,.int .i64 p.t,.slice A' n c']:=⟨_,rfl⟩
 have EXS:=Lib.hid exs
 have HXS:=Lib.hid (show xs.size=3 by rw[exs];rfl)
 have HXI:=Lib.hid (show(Try.prog.info? 32).map (·.size)=some xs.size by rw[exs];exact pk_info)
 have HX1:=Lib.hid (show xs.all (·.oneCell')=true by rw[exs,EN.out];exact pkA_one p A' c')
 have HP2:=Lib.hid (show Blk W2 w.heap.size 32 xs by rw[exs];exact hp2)
 have HZ2:=Lib.hid hz2
 rw[←eW2]
 clear eW2 k2 f2 hp2 hz2 HP HZ HP1 HZ1 HB HO HB1 exs
 go_wp2_with (first
  |(refine Wh.load_g (by rfl) 32 (.tmp 1) (by rfl) w.heap.size 0 (by rfl) xs _ (Wh.range_blk HP2.out) Try.underlying32 (by rfl) HXI.out ?_)
  |(refine Wh.store_over (by rfl) 32 (.tmp 2) (.tmp 7) (by rfl) (w.heap.size+1) 32 _ HZ2.out xs (by rfl) (by rfl) (by rw[HXS.out];rfl) HXI.out HX1.out ?_;rintro V hV hg;have HV:=Lib.hid hV;have HBV:=Lib.hid (btg HB2.out hg (by omega));have HOV:=Lib.hid (HO2.out.chg (Chg.of_grown (S:=fun k=>k=w.heap.size+1) hg rfl) (fun q hq=>(HNE.out q hq).2));clear hV hg)
  |fail)
 refine bodyPost_ret (v:=.agg xs) ?_ ?_ ?_
 ·exact Wh.results_cell (v:=.agg xs) 2 32 ⟨w.heap.size+1,0,none⟩ Try.results23 (by rfl) (Wh.load_blk HV.out Try.underlying32 (by rfl) HXI.out)
 ·rfl
 ·exact⟨A',c',by rw[EXS.out],HOV.out,HBV.out⟩
theorem nt_new (B:Nat) (w:World) (hB:B≤w.heap.size):Calls Try.prog 9 #[] w fun e w'=>e = .returned (.pointer (some ⟨w.heap.size,0,none⟩))∧Nt w' B w.heap.size (.slice none 0 0) (.slice none 0 0) [] []∧Below w.heap.size w w'∧w'.heap.size=w.heap.size+1:=by
 have h1:Nt (w.alloc (.cells #[.slice none 0 0,.slice none 0 0] 48)) B w.heap.size (.slice none 0 0) (.slice none 0 0) [] []:=
  ⟨Blk.new _ _ _,World.ownsRow_nil _ _ _ _,World.ownsRow_nil _ _ _ _,hB,(fun h=>by cases h),(fun h=>by cases h),(fun k h=>by cases h),(fun e he=>by cases he),(fun e he=>by cases he)⟩
 have H1:=Lib.hid h1
 have H2:=Lib.hid ((Below.refl w.heap.size w).alloc (Nat.le_refl _) (.cells #[.slice none 0 0,.slice none 0 0] 48))
 clear h1
 go_enter Try.func9,Try.ntmps9
 go_wp2
 go_ret
 exact⟨rfl,H1.out,H2.out,by simp⟩
theorem nt_len (B r:Nat) (vs vw:Value) (es:List En) (ws:List Nat) (w:World) (h:Nt w B r vs vw es ws):Calls Try.prog 19 #[.pointer (some ⟨r,0,none⟩)] w fun e w'=>e = .returned (.int .i64 (ws.length:Int))∧w'=w:=by
 obtain⟨A,c,rfl,_⟩:=h.num2
 obtain⟨n,en⟩:∃n,n=ws.length:=⟨_,rfl⟩
 have k0:=h.c1
 rw[←en] at k0⊢
 clear h en
 go_enter Try.func19,Try.ntmps19
 go_wp2
 go_ret
 exact⟨rfl,rfl⟩
theorem full_any (B r:Nat) (vs vw:Value) (es:List En) (ws:List Nat) (w:World) (h:Nt w B r vs vw es ws):Calls Try.prog 22 #[.pointer (some ⟨r,0,none⟩)] w fun e w'=>e = .returned (.bool (decide (32≤ws.length)))∧w'=w:=by
 have c1:=nt_len B r vs vw es ws w h
 obtain⟨n,en⟩:∃n,n=ws.length:=⟨_,rfl⟩
 rw[←en] at c1⊢
 clear h en
 by_cases hn:32≤n
 ·have t1:(32:Int)≤(n:Int):=by omega
  rw[decide_eq_true hn]
  clear hn
  go_enter Try.func22,Try.ntmps22
  go_wp2_with (go_at_call 19;refine Calls.mono c1 ?_;rintro e w1 ⟨rfl,hw⟩;subst hw)
  go_ret
  first
   |exact⟨rfl,rfl⟩
   |exact⟨by simp;omega,rfl⟩
 ·have t1:¬(32:Int)≤(n:Int):=by omega
  rw[decide_eq_false hn]
  clear hn
  go_enter Try.func22,Try.ntmps22
  go_wp2_with (go_at_call 19;refine Calls.mono c1 ?_;rintro e w1 ⟨rfl,hw⟩;subst hw)
  go_ret
  first
   |exact⟨rfl,rfl⟩
   |exact⟨by simp;omega,rfl⟩
def hasB (n:Nat) (i:Int):Bool:=decide (0≤i)&&decide (i<(n:Int))
theorem has_any (B r:Nat) (vs vw:Value) (es:List En) (ws:List Nat) (i:Int) (w:World) (h:Nt w B r vs vw es ws):Calls Try.prog 25 #[.pointer (some ⟨r,0,none⟩),.int .i64 i] w fun e w'=>e = .returned (.bool (hasB ws.length i))∧w'=w:=by
 have c1:=nt_len B r vs vw es ws w h
 obtain⟨n,en⟩:∃n,n=ws.length:=⟨_,rfl⟩
 rw[←en] at c1⊢
 clear h en
 unfold hasB
 by_cases hi:0≤i
 ·rw[decide_eq_true hi]
  have t0:decide (0≤i)=true:=decide_eq_true hi
  clear hi
  go_enter Try.func25,Try.ntmps25
  go_wp2_with (go_at_call 19;refine Calls.mono c1 ?_;rintro e w1 ⟨rfl,hw⟩;subst hw)
  go_ret
  exact⟨rfl,rfl⟩
 ·rw[decide_eq_false hi]
  have t0:decide (0≤i)=false:=decide_eq_false hi
  clear hi
  go_enter Try.func25,Try.ntmps25
  go_wp2_with (go_at_call 19;refine Calls.mono c1 ?_;rintro e w1 ⟨rfl,hw⟩;subst hw)
  go_ret
  exact⟨rfl,rfl⟩
end Go.Proofs.Ytlihoeipmjbnbaa.Nt
end

section
set_option linter.unusedVariables false
set_option linter.unusedSimpArgs false
namespace Go.Proofs.Ytlihoeipmjbnbaa.Nt
open Go.RowKit Go.Proofs.Ytlihoeipmjbnbaa.Mem Go.Proofs.Ytlihoeipmjbnbaa.Se
open Go.Proofs.Ytlihoeipmjbnbaa.Nm (L)
open Go.Proofs.Ytlihoeipmjbnbaa.Ca (Own1 rd_chg row_blk row_mk run_clear row_there)
open Go.Proofs.Ytlihoeipmjbnbaa.Rg (flat_len flat_at flat_one RdR own_rdr own_chg)
theorem flat_erase (ws:List Nat) (i q:Nat):((ws.eraseIdx i).flatMap iC)[q]? = if q<i then (ws.flatMap iC)[q]? else (ws.flatMap iC)[q+1]?:=by
 rw[flat_i,flat_i,List.getElem?_map,List.getElem?_eraseIdx]
 split<;>rw[List.getElem?_map]
theorem flat_drop (ws:List Nat) (k q:Nat):((ws.drop k).flatMap iC)[q]? = (ws.flatMap iC)[k+q]?:=by
 rw[flat_i,flat_i,List.getElem?_map,List.getElem?_map,List.getElem?_drop]
theorem drop_len (ws:List Nat) (k:Nat):((ws.drop k).flatMap iC).length=ws.length - k:=by
 rw[flat_i,List.length_map,List.length_drop]
section
variable {w:World} {B g cap i:Nat} {t:TypeId} {ws:List Nat}
theorem del_row (ho:w.ownsRow B t 1 (.slice (some ⟨g,0,none⟩) ws.length cap) ws.length (ws.flatMap iC)) (hi:i<ws.length) (vs:List Value) (hv:vs.length=1) :
  ((w.setCells g i ((ws.drop (i+1)).flatMap iC)).setCells g (ws.length - 1) vs).ownsRow B t 1 (.slice (some ⟨g,0,none⟩) (ws.length - 1) cap) (ws.length - 1) ((ws.eraseIdx i).flatMap iC):=by
 obtain⟨cur,h1,h2,h3,h4,h5,h6⟩:=row_blk ho
 rw[Nat.mul_one] at h5 h6
 obtain⟨ds,k1,k2,k3,k4⟩:=Wh.blk_cells_aux ((ws.drop (i+1)).flatMap iC) i w cur h1 (by rw[drop_len];omega)
 rw[drop_len] at k3 k4
 obtain⟨es,m1,m2,m3,m4⟩:=Wh.blk_cells_aux vs (ws.length - 1) _ ds k1 (by rw[hv,k2,h5];omega)
 refine row_mk m1 h2 (by omega) h4 (by rw[m2,k2,h5,Nat.mul_one]) ?_
 rw[Nat.mul_one]
 apply List.ext_getElem?
 intro q
 rw[flat_erase]
 by_cases hq:q<ws.length - 1
 ·rw[List.getElem?_take_of_lt hq,Array.getElem?_toList,m4 q (.inl hq)]
  by_cases hqi:q<i
  ·rw[if_pos hqi,k4 q (.inl hqi),←h6,List.getElem?_take_of_lt (by omega),Array.getElem?_toList]
  ·rw[if_neg hqi,k3 q (by omega) (by omega),flat_drop,show i+1+(q - i)=q+1 by omega]
 ·rw[List.getElem?_eq_none (by rw[List.length_take];omega),if_neg (by omega),List.getElem?_eq_none (by rw[flat_i,List.length_map];omega)]
end
set_option maxHeartbeats 1600000 in
set_option maxRecDepth 100000 in
theorem del_any (B:Nat) (v:Value) (ws:List Nat) (i:Nat) (w:World) (h:w.ownsRow B 3 1 v ws.length (ws.flatMap iC)) (hi:i<ws.length) (hl:ws.length≤1000) (hB:B≤w.heap.size) :
  Calls Try.prog 24 #[v,.int .i64 (i:Int),.int .i64 ((i:Int)+1)] w fun e w'=>∃v',e = .returned v'∧w'.ownsRow B 3 1 v' (ws.eraseIdx i).length ((ws.eraseIdx i).flatMap iC)∧w.grownBy w' v.ownBlock∧v'.ownBlock=v.ownBlock:=by
 have hle:(ws.eraseIdx i).length=ws.length - 1:=by rw[List.length_eraseIdx,if_pos hi]
 rcases h.2 with⟨_,h2⟩ | ⟨g,cap,cur,rfl,hBg,_,hcap,hmax,_⟩
 ·omega
 have hsp:=fun o k hk=>row_there (f:=iC) h o k hk
 obtain⟨bk,hbk,_,_,_,hbs,hbt⟩:=row_blk h
 obtain⟨news,hnews⟩:∃news,news=(ws.drop (i+1)).flatMap iC:=⟨_,rfl⟩
 have hlen:news.length=(ws.length - (i+1))*1:=by rw[hnews,drop_len,Nat.mul_one]
 have hone:∀u∈news,u.oneCell'=true:=by rw[hnews];exact flat_one iC iC_one _
 obtain⟨n,en⟩:∃n,n=ws.length:=⟨_,rfl⟩
 rw[hle]
 have hd:w.drew.ownsRow B 3 1 (.slice (some ⟨g,0,none⟩) ws.length cap) ws.length (ws.flatMap iC):=h
 have hrow:=del_row hd hi
 obtain⟨i0,hi0,hz0,hs0,hb0⟩:=info_parts int_all
 have KI1:=Lib.hid hi0;have KI2:=Lib.hid hz0;have KI3:=Lib.hid hs0;have KI4:=Lib.hid hb0
 rw[←hnews] at hrow
 have hrd:∀j u,news[j]? = some u→w.drew.cell? ⟨g,i+1+j,none⟩=some u:=fun j u hu=>by
  have:=h.cells (g:=g) rfl (i+1+j) u (by rw[←flat_drop,←hnews];exact hu)
  rw[addr_add,Nat.zero_add] at this
  exact this
 have hth:∀j,j<news.length→(w.drew.cell? ⟨g,0+i*1+j,none⟩).isSome=true∧w.drew.frozen? ⟨g,0+i*1+j,none⟩=false:=fun j hj=>by
  have:=hsp 0 (ws.length) (by omega) (i+j) (by omega)
  rw[Nat.mul_one,Nat.zero_add]
  rw[Nat.zero_add] at this
  exact this
 rw[←en] at hlen hrow hi hl hcap⊢
 obtain⟨A,hA,hsrc⟩:∃A:Addr,(if cap=i+1 then some (⟨g,0,none⟩:Addr) else some ⟨g,i+1,none⟩)=some A∧Hid (∀j u,news[j]? = some u→w.drew.cell? (A.add j)=some u):=by
  by_cases hc:cap=i+1
  ·refine⟨⟨g,0,none⟩,by simp [hc],fun j u hu=>?_⟩
   have h0:news.length=0:=by rw[hlen];omega
   rw[List.length_eq_zero_iff.1 h0] at hu
   simp at hu
  ·refine⟨⟨g,i+1,none⟩,by simp [hc],fun j u hu=>?_⟩
   rw[addr_add];exact hrd j u hu
 obtain⟨W1,eW1⟩:∃W1,W1=w.drew.setCells g (0+i*1) news:=⟨_,rfl⟩
 have hT1:W1.there g (n - 1) (1*1):=fun j hj=>by
  obtain⟨ds,k1,k2,_⟩:=Wh.blk_cells_aux news i w.drew bk (show Blk w.drew g _ bk from hbk) (by rw[hbs,hlen];omega)
  rw[eW1,Nat.zero_add,Nat.mul_one]
  exact Wh.there_mid k1 (n - 1) (1*1) (by rw[k2,hbs];omega) j hj
 have hcl:=fun ty=>run_clear Try.prog W1 44 3 ty i0 _ 1 Try.underlying44 hi0 hz0 (by rfl) (by intro u hu;have:u = .int .i64 0:=(by simpa [Value.cells] using hu);subst this;rfl) (by omega) g (n - 1) 1 (cap - (n - 1)) hT1
 have HN:=Lib.hid hlen;have HT:=Lib.hid hth;have H1:=Lib.hid hone;have HR:=Lib.hid hrow;have HC:=Lib.hid hcl;have EW1:=Lib.hid eW1
 have q1:(i:Int)+1≤(n:Int):=by omega
 have q2:(0:Int)≤(i:Int):=by omega
 have q8:(0:Int)≤(i:Int)+1:=by omega
 have q3:(n:Int)≤(cap:Int):=by omega
 have q4:((i:Int)==(i:Int)+1)=false:=by simp;omega
 have q5:i≤cap:=by omega
 have q6:i+1≤cap:=by omega
 have q7:i+1≤n:=by omega
 clear hth hone hrow hcl eW1 hrd hsp hlen hnews hbt hbs hbk hi0 hz0 hs0 hb0 h hd hT1 en
 go_enter Try.func24,Try.ntmps24
 go_upto_region 5 with fail
 go_region_law (refine step_append_room rfl (.tmp 22) (.tmp 25) 44 rfl 3 i0 1 Try.underlying44 KI1.out KI3.out g 0 i cap (by simp [Act.eval,Act.put]) A (n - (i+1)) (cap - (i+1)) news (by simp [Act.eval,Act.put,hA]) HN.out hsrc.out H1.out (by omega) HT.out ?_;rw[←EW1.out])
 obtain⟨vs,hvl,hrun⟩:=HC.out 0
 obtain⟨m,em⟩:∃m,m=n - 1:=⟨_,rfl⟩
 have HM:=Lib.hid em
 rw[show(Value.slice (some ⟨g,n - 1,none⟩) 1 (cap - (n - 1))) = .slice (some ⟨g,m,none⟩) (n - m) (cap - m) by rw[em,show n - (n - 1)=1 by omega],←em] at hrun
 have q9:(m:Int)≤(n:Int):=by omega
 have q10:m≤n:=by omega
 have q11:(0:Int)≤(m:Int):=by omega
 have q12:¬cap=m:=by omega
 go_upto_region 6 with fail
 rw[show i+(n - (i+1))=m by omega]
 clear em hA q1 q2 q4 q5 q6 q7 q8
 go_wp2
 go_ret
 rw[←HM.out]
 have h:=HR.out vs (by rw[hvl])
 rw[Nat.mul_one,Nat.zero_add] at EW1
 rw[←EW1.out,←HM.out] at h
 refine⟨_,rfl,h,?_,rfl⟩
 rw[EW1.out]
 exact Wh.g_cells (.inl rfl) _ _ _ (Wh.g_cells (.inl rfl) _ _ _ (g_drew (World.grownBy.refl _ _)))
end Go.Proofs.Ytlihoeipmjbnbaa.Nt
end

section
set_option linter.unusedVariables false
set_option linter.unusedSimpArgs false
namespace Go.Proofs.Ytlihoeipmjbnbaa.Nt
open Go.RowKit Go.Proofs.Ytlihoeipmjbnbaa.Mem Go.Proofs.Ytlihoeipmjbnbaa.Se
open Go.Proofs.Ytlihoeipmjbnbaa.Nm (L)
open Go.Proofs.Ytlihoeipmjbnbaa.Ca (Own1 rd_chg row_blk row_mk)
open Go.Proofs.Ytlihoeipmjbnbaa.Rg (flat_len flat_at flat_one RdR own_rdr own_chg)
set_option maxHeartbeats 1600000 in
set_option maxRecDepth 100000 in
theorem send_no (B r:Nat) (vs vw:Value) (es:List En) (ws:List Nat) (p:Pk) (A:Option Addr) (c:Nat) (w:World) (h:Nt w B r vs vw es ws) (hno:¬(ws.length<32∧1≤p.b.length∧p.b.length≤2000)) :
  Calls Try.prog 10 #[.pointer (some ⟨r,0,none⟩),.agg (pkA p A c)] w fun e w'=>e = .returned (.bool false)∧Below w.heap.size w w':=by
 obtain⟨n,en⟩:∃n,n=p.b.length:=⟨_,rfl⟩
 obtain⟨xs,exs⟩:∃xs,xs=pkA p A c:=⟨_,rfl⟩
 rw[←exs]
 obtain⟨W,eW⟩:∃W,W=w.alloc (.cells xs 32):=⟨_,rfl⟩
 have hb:Below w.heap.size w W:=eW▸(Below.refl _ _).alloc (Nat.le_refl _) _
 have hp:Blk W w.heap.size 32 xs:=eW▸Blk.new w _ _
 have k2:W.cell? ⟨w.heap.size,2,none⟩=some (.slice A n c):=by rw[hp.cell,exs,en];rfl
 have cf:=full_any B r vs vw es ws W (h.below hb)
 have HB:=Lib.hid hb
 obtain⟨m,em⟩:∃m,m=ws.length:=⟨_,rfl⟩
 rw[←em] at cf hno
 rw[←en] at hno
 clear h hb hp en em exs
 by_cases h1:32≤m
 ·rw[decide_eq_true h1] at cf
  go_enter Try.func10,Try.ntmps10
  go_upto_region 1 with fail
  rw[←eW]
  clear eW
  go_wp2_with (go_at_call 22;refine Calls.mono cf ?_;rintro e w1 ⟨rfl,hw⟩;subst hw)
  go_ret
  exact⟨rfl,HB.out⟩
 ·rw[decide_eq_false h1] at cf
  by_cases h2:n=0
  ·have t0:((n:Int)==0)=true:=by simp;omega
   go_enter Try.func10,Try.ntmps10
   go_upto_region 1 with fail
   rw[←eW]
   clear eW h1 h2 hno
   go_wp2_with (go_at_call 22;refine Calls.mono cf ?_;rintro e w1 ⟨rfl,hw⟩;subst hw)
   go_ret
   exact⟨rfl,HB.out⟩
  ·have t0:((n:Int)==0)=false:=by simp;omega
   have t1:decide ((2000:Int)<(n:Int))=true:=by simp;omega
   have t2:(2000:Int)<(n:Int):=by omega
   go_enter Try.func10,Try.ntmps10
   go_upto_region 1 with fail
   rw[←eW]
   clear eW h1 h2 hno
   go_wp2_with (go_at_call 22;refine Calls.mono cf ?_;rintro e w1 ⟨rfl,hw⟩;subst hw)
   go_ret
   exact⟨rfl,HB.out⟩
set_option maxHeartbeats 3200000 in
set_option maxRecDepth 100000 in
theorem send_ok (B r:Nat) (vs vw:Value) (es:List En) (ws:List Nat) (p:Pk) (A:Option Addr) (c:Nat) (w:World) (h:Nt w B r vs vw es ws) (hxp:∀w',Chg (NT r vs vw) w w'→Rd w' w'.heap.size A (bvs p.b)) (h1:ws.length<32) (h2:1≤p.b.length) (h3:p.b.length≤2000) (h4:es.length≤50000) :
  Calls Try.prog 10 #[.pointer (some ⟨r,0,none⟩),.agg (pkA p A c)] w fun e w'=>e = .returned (.bool true)∧∃vs' vw' A' c',Nt w' B r vs' vw' (es++[⟨p,A',c'⟩]) (ws++[es.length])∧Chg (NT r vs vw) w w'∧(∀q,NO r vs' vw' (es++[⟨p,A',c'⟩]) q→NO r vs vw es q∨w.heap.size≤q):=by
 obtain⟨n,en⟩:∃n,n=p.b.length:=⟨_,rfl⟩
 obtain⟨xs,exs⟩:∃xs,xs=pkA p A c:=⟨_,rfl⟩
 have CX:=Lib.hid (fun(w1:World) (hr:Rd w1 w1.heap.size A (bvs p.b))=>clone_pk p A c w1.heap.size w1 hr (Nat.le_refl _) (by omega))
 rw[←exs] at CX⊢
 have HXI:=Lib.hid (show(Try.prog.info? 32).map (·.size)=some xs.size by rw[exs];exact pk_info)
 obtain⟨W,eW⟩:∃W,W=w.alloc (.cells xs 32):=⟨_,rfl⟩
 have hb:Below w.heap.size w W:=eW▸(Below.refl _ _).alloc (Nat.le_refl _) _
 have hp:Blk W w.heap.size 32 xs:=eW▸Blk.new w _ _
 have k2:W.cell? ⟨w.heap.size,2,none⟩=some (.slice A n c):=by rw[hp.cell,exs,en];rfl
 have cf:=full_any B r vs vw es ws W (h.below hb)
 rw[decide_eq_false (by omega)] at cf
 have HN:=Lib.hid (h.below hb)
 have HP:=Lib.hid hp
 have HNP:=Lib.hid (show ¬NT r vs vw w.heap.size from fun x=>h.not (Nat.le_refl _) (nt_no x))
 have HXP:=Lib.hid hxp
 have HC0:=Lib.hid (Chg.of_below hb:Chg (NT r vs vw) w W)
 have t0:((n:Int)==0)=false:=by simp;omega
 have t1:decide ((2000:Int)<(n:Int))=false:=by simp;omega
 have t2:¬(2000:Int)<(n:Int):=by omega
 have HL1:=Lib.hid h1;have HL4:=Lib.hid h4
 obtain⟨iI,hiI,hzI,hsI,hbI⟩:=info_parts int_all
 have KI1:=Lib.hid hiI;have KI2:=Lib.hid hzI;have KI3:=Lib.hid hsI;have KI4:=Lib.hid hbI
 have SI:=Lib.hid (fun(w1:World) (k:Int)=>run_build_int (P:=Try.prog) w1 44 3 k iI Try.underlying44 hiI hzI hsI)
 obtain⟨iP,hiP,hzP,hsP,hbP⟩:=info_parts pk_all
 have KP1:=Lib.hid hiP;have KP2:=Lib.hid hzP;have KP3:=Lib.hid hsP;have KP4:=Lib.hid hbP
 have SP:=Lib.hid (fun(w1:World) (A':Option Addr) (c':Nat)=>Wh.run_build_one (P:=Try.prog) w1 27 32 (pkA p A' c') iP _ Try.underlying27 hiP hzP (by rw[hsP];rfl) (by rw[pkA_size];omega) (by rw[pkA_size];omega))
 obtain⟨A0,c0,evs,_⟩:=HN.out.num
 obtain⟨ns,ens⟩:∃ns,ns=es.length:=⟨_,rfl⟩
 have ENS:=Lib.hid ens
 rw[←ens] at evs
 have EVS:=Lib.hid evs
 have HLW:=Lib.hid h.lt
 clear h hb hp hxp h1 h2 h3 h4 en exs ens evs hiI hzI hsI hbI hiP hzP hsP hbP
 go_enter Try.func10,Try.ntmps10
 go_upto_region 1 with fail
 rw[←eW]
 clear eW
 go_upto_region 3 with(go_at_call 22;refine Calls.mono cf ?_;rintro e w1 ⟨rfl,hw⟩;have hw:=hw.symm;subst hw;clear cf)
 clear t0 t1 t2 k2
 obtain⟨NP,eNP⟩:∃NP,NP=w.heap.size:=⟨_,rfl⟩
 have ENP:=Lib.hid eNP
 rw[←eNP] at HP HNP⊢
 clear eNP
 go_cut [] from 23 to 36 (fun wx=>∃v7,Nt wx B r vs v7 es (ws++[es.length])∧Blk wx NP 32 xs∧Chg (NT r vs vw) W wx∧(∀q,NO r vs v7 es q→NO r vs vw es q∨W.heap.size≤q))
 case first=>
  have HN0:=Lib.hid HN.out;have HP0:=Lib.hid HP.out
  have HB:=Lib.hid (Below.refl W.heap.size W)
  have hb:Below W.heap.size W W.drew:=below_drewN (Below.refl _ _) 1
  replace HN:=Lib.hid (HN.out.below hb)
  replace HP:=Lib.hid (HP.out.below hb)
  replace HB:=Lib.hid (HB.out.trans (hb.mono HB.out.size))
  clear hb
  obtain⟨wda,ewd⟩:∃z,z=W.drew:=⟨_,rfl⟩
  refine Reg.any_begin (fun w'=>w'.cell? ⟨r,0,none⟩=some (.slice A0 ns c0)) 15 rfl (by kernel_rfl) (by rw[←EVS.out];exact HN.out.c0) ?_
  rw[←ewd] at HN HP HB⊢
  clear ewd
  refine Reg.tk 0 (v:=?va1) rfl (by rw[←EVS.out];exact HN.out.c0) (fun w' hS=>?ha1) ?ra1
  case ha1=>go_simp<;>rfl
  simp only[Act.put,Reg.s0,Reg.s1,Reg.s2]
  refine Reg.tk 1 (v:=?va2) rfl (by rw[←EVS.out];exact HN.out.c0) (fun w' hS=>?ha2) ?ra2
  case ha2=>go_simp<;>rfl
  simp only[Act.put,Reg.s0,Reg.s1,Reg.s2]
  refine Reg.tk 2 (v:=?va3) rfl (by rw[←EVS.out];exact HN.out.c0) (fun w' hS=>?ha3) ?ra3
  case ha3=>go_simp<;>rfl
  simp only[Act.put,Reg.s0,Reg.s1,Reg.s2]
  refine Reg.tk 3 (v:=?va4) rfl (by rw[←EVS.out];exact HN.out.c0) (fun w' hS=>?ha4) ?ra4
  case ha4=>go_simp<;>rfl
  simp only[Act.put,Reg.s0,Reg.s1,Reg.s2]
  refine Reg.tk 5 (v:=?va5) rfl (by rw[←EVS.out];exact HN.out.c0) (fun w' hS=>?ha5) ?ra5
  case ha5=>go_simp<;>rfl
  simp only[Act.put,Reg.s0,Reg.s1,Reg.s2]
  refine Reg.tk 6 (v:=?va6) rfl (by rw[←EVS.out];exact HN.out.c0) (fun w' hS=>?ha6) ?ra6
  case ha6=>go_simp<;>rfl
  simp only[Act.put,Reg.s0,Reg.s1,Reg.s2]
  refine Reg.tk 7 (v:=?va7) rfl (by rw[←EVS.out];exact HN.out.c0) (fun w' hS=>?ha7) ?ra7
  case ha7=>go_simp<;>rfl
  simp only[Act.put,Reg.s0,Reg.s1,Reg.s2]
  refine Reg.tk 8 (v:=?va8) rfl (by rw[←EVS.out];exact HN.out.c0) (fun w' hS=>?ha8) ?ra8
  case ha8=>go_simp<;>rfl
  simp only[Act.put,Reg.s0,Reg.s1,Reg.s2]
  refine Reg.tk 9 (v:=?va9) rfl (by rw[←EVS.out];exact HN.out.c0) (fun w' hS=>?ha9) ?ra9
  case ha9=>go_simp<;>rfl
  simp only[Act.put,Reg.s0,Reg.s1,Reg.s2]
  refine Reg.both_all [4,10] (by kernel_rfl) (by simp) ?_
  intro j0 hj0
  have hj0:j0=4∨j0=10:=by simpa using hj0
  rcases hj0 with rfl | rfl
  ·left
   refine⟨_,_,_,_,_,_,vw,wda,rfl,by rfl,(by have kw:=HN.out.c1;(go_simp<;>rfl)),(by rw[←EVS.out];exact HN.out.c0),?_⟩
   simp only[Act.put,Reg.s0,Reg.s1,Reg.s2]
   refine Reg.both_all [10] (by kernel_rfl) (by simp) ?_
   intro j0 hj0
   obtain rfl:j0=10:=by simpa using hj0
   clear hj0
   left
   have hb:Below wda.heap.size wda (wda.alloc (.cells #[.int .i64 (ns:Int)] 3)):=(Below.refl _ _).alloc (Nat.le_refl _) _
   refine⟨_,_,_,_,_,_,.slice (some ⟨wda.heap.size,0,none⟩) 1 1,(wda.alloc (.cells #[.int .i64 (ns:Int)] 3)),rfl,by rfl,exec_slice_int rfl (SI.out _ _),(by rw[←EVS.out];exact(HN.out.below hb).c0),?_⟩
   simp only[Act.put,Reg.s0,Reg.s1,Reg.s2]
   have HNB:=Lib.hid (Blk.new wda 3 #[.int .i64 (ns:Int)])
   replace HN:=Lib.hid (HN.out.below hb)
   replace HP:=Lib.hid (HP.out.below hb)
   replace HB:=Lib.hid (HB.out.trans (hb.mono HB.out.size))
   clear hb
   obtain⟨wa10,ewa10⟩:∃z,z=(wda.alloc (.cells #[.int .i64 (ns:Int)] 3)):=⟨_,rfl⟩
   rw[←ewa10] at HN HP HB HNB⊢
   clear ewa10
   obtain⟨Gwa10,eGwa10⟩:∃z,z=wda.heap.size:=⟨_,rfl⟩
   rw[←eGwa10] at HNB⊢
   clear eGwa10
   refine Reg.both_all [11] (by kernel_rfl) (by simp) ?_
   intro j0 hj0
   obtain rfl:j0=11:=by simpa using hj0
   clear hj0
   left
   obtain⟨v6,wa11,hrun,ho6,hg6,hv6⟩:=Wh.app_run (P:=Try.prog) iC 1 8 iC_length iC_one wa10 44 44 3 iI _ Try.underlying44 KI1.out KI2.out KI3.out KI4.out (by rfl) (by omega) B vw ws HN.out.way ns Gwa10 HNB.out (by have:=HL1.out;omega) (by omega) HN.out.big
   obtain⟨hn6,hc6,hq6⟩:=nt_way HN0.out HB.out HN.out ho6 hg6 hv6
   have hr6:=HN.out.blk.grown hg6 HN.out.wr
   have hpx:=HP.out.grown hg6 (fun x=>HNP.out (.inr (.inr x)))
   have c06:wa11.cell? ⟨r,0,none⟩=some vs:=hr6.cell 0
   refine⟨_,_,_,_,_,_,v6,wa11,rfl,by rfl,exec_app rfl rfl hrun,by rw[←EVS.out];exact c06,?_⟩
   simp only[Act.put,Reg.s0,Reg.s1,Reg.s2]
   refine Reg.tk 12 (v:=?va12) rfl (by rw[←EVS.out];exact c06) (fun w' hS=>?ha12) ?ra12
   case ha12=>go_simp<;>rfl
   simp only[Act.put,Reg.s0,Reg.s1,Reg.s2]
   refine Reg.tk 13 (v:=?va13) rfl (by rw[←EVS.out];exact c06) (fun w' hS=>?ha13) ?ra13
   case ha13=>go_simp<;>rfl
   simp only[Act.put,Reg.s0,Reg.s1,Reg.s2]
   obtain⟨A7,c7,e7,_⟩:=own_rdr iC_length ho6
   obtain⟨m7,em7⟩:∃m7,m7=(ws++[ns]).length:=⟨_,rfl⟩
   rw[←em7] at e7
   subst e7
   have f0:=hr6.frozen 1
   have k6:wa11.cell? ⟨r,1,none⟩=some vw:=hr6.cell 1
   refine Reg.any_store 14 (wa11.setCell ⟨r,1,none⟩ (.slice A7 m7 c7)) rfl (by kernel_rfl) (by rfl) (by go_simp) (by rw[←EVS.out];exact hn6.c0) ?_
   simp only[Act.put,Reg.s0,Reg.s1,Reg.s2]
   refine wpAnyH_done (by kernel_rfl) ?_ _
   go_wp2_with fail
   go_meet
   exact⟨_,by rw[ENS.out] at hn6;exact hn6,hc6.blk HP0.out HNP.out,hc6,fun q hq=>hq6 q hq⟩
  ·left
   have hb:Below wda.heap.size wda (wda.alloc (.cells #[.int .i64 (ns:Int)] 3)):=(Below.refl _ _).alloc (Nat.le_refl _) _
   refine⟨_,_,_,_,_,_,.slice (some ⟨wda.heap.size,0,none⟩) 1 1,(wda.alloc (.cells #[.int .i64 (ns:Int)] 3)),rfl,by rfl,exec_slice_int rfl (SI.out _ _),(by rw[←EVS.out];exact(HN.out.below hb).c0),?_⟩
   simp only[Act.put,Reg.s0,Reg.s1,Reg.s2]
   have HNB:=Lib.hid (Blk.new wda 3 #[.int .i64 (ns:Int)])
   replace HN:=Lib.hid (HN.out.below hb)
   replace HP:=Lib.hid (HP.out.below hb)
   replace HB:=Lib.hid (HB.out.trans (hb.mono HB.out.size))
   clear hb
   obtain⟨wa14,ewa14⟩:∃z,z=(wda.alloc (.cells #[.int .i64 (ns:Int)] 3)):=⟨_,rfl⟩
   rw[←ewa14] at HN HP HB HNB⊢
   clear ewa14
   obtain⟨Gwa14,eGwa14⟩:∃z,z=wda.heap.size:=⟨_,rfl⟩
   rw[←eGwa14] at HNB⊢
   clear eGwa14
   refine Reg.both_all [4] (by kernel_rfl) (by simp) ?_
   intro j0 hj0
   obtain rfl:j0=4:=by simpa using hj0
   clear hj0
   left
   refine⟨_,_,_,_,_,_,vw,wa14,rfl,by rfl,(by have kw:=HN.out.c1;(go_simp<;>rfl)),(by rw[←EVS.out];exact HN.out.c0),?_⟩
   simp only[Act.put,Reg.s0,Reg.s1,Reg.s2]
   refine Reg.both_all [11] (by kernel_rfl) (by simp) ?_
   intro j0 hj0
   obtain rfl:j0=11:=by simpa using hj0
   clear hj0
   left
   obtain⟨v6,wa15,hrun,ho6,hg6,hv6⟩:=Wh.app_run (P:=Try.prog) iC 1 8 iC_length iC_one wa14 44 44 3 iI _ Try.underlying44 KI1.out KI2.out KI3.out KI4.out (by rfl) (by omega) B vw ws HN.out.way ns Gwa14 HNB.out (by have:=HL1.out;omega) (by omega) HN.out.big
   obtain⟨hn6,hc6,hq6⟩:=nt_way HN0.out HB.out HN.out ho6 hg6 hv6
   have hr6:=HN.out.blk.grown hg6 HN.out.wr
   have hpx:=HP.out.grown hg6 (fun x=>HNP.out (.inr (.inr x)))
   have c06:wa15.cell? ⟨r,0,none⟩=some vs:=hr6.cell 0
   refine⟨_,_,_,_,_,_,v6,wa15,rfl,by rfl,exec_app rfl rfl hrun,by rw[←EVS.out];exact c06,?_⟩
   simp only[Act.put,Reg.s0,Reg.s1,Reg.s2]
   refine Reg.tk 12 (v:=?va16) rfl (by rw[←EVS.out];exact c06) (fun w' hS=>?ha16) ?ra16
   case ha16=>go_simp<;>rfl
   simp only[Act.put,Reg.s0,Reg.s1,Reg.s2]
   refine Reg.tk 13 (v:=?va17) rfl (by rw[←EVS.out];exact c06) (fun w' hS=>?ha17) ?ra17
   case ha17=>go_simp<;>rfl
   simp only[Act.put,Reg.s0,Reg.s1,Reg.s2]
   obtain⟨A7,c7,e7,_⟩:=own_rdr iC_length ho6
   obtain⟨m7,em7⟩:∃m7,m7=(ws++[ns]).length:=⟨_,rfl⟩
   rw[←em7] at e7
   subst e7
   have f0:=hr6.frozen 1
   have k6:wa15.cell? ⟨r,1,none⟩=some vw:=hr6.cell 1
   refine Reg.any_store 14 (wa15.setCell ⟨r,1,none⟩ (.slice A7 m7 c7)) rfl (by kernel_rfl) (by rfl) (by go_simp) (by rw[←EVS.out];exact hn6.c0) ?_
   simp only[Act.put,Reg.s0,Reg.s1,Reg.s2]
   refine wpAnyH_done (by kernel_rfl) ?_ _
   go_wp2_with fail
   go_meet
   exact⟨_,by rw[ENS.out] at hn6;exact hn6,hc6.blk HP0.out HNP.out,hc6,fun q hq=>hq6 q hq⟩
 case rest=>
  obtain⟨v7,hn,hp,hc,hq⟩:=hcut
  have HR:=Lib.hid (HXP.out wc (HC0.out.trans hc (fun q _ x=>x)))
  have HTT:=Lib.hid (show ∀q,q<W.heap.size→NT r vs v7 q→NT r vs vw q from fun q hq' x=>by
   rcases x with x | x | x
   ·exact .inl x
   ·exact .inr (.inl x)
   ·rcases hq q (.inr (.inr (.inl x))) with k | k
    ·rcases k with k | k | k | ⟨y,hy,a,ha,k⟩
     ·exact .inl k
     ·exact .inr (.inl k)
     ·exact .inr (.inr k)
     ·exact absurd (k▸x) (hn.off y hy a ha).2.2.2.1
    ·omega)
  have HNP2:=Lib.hid (show ¬NT r vs v7 NP from fun x=>HNP.out (HTT.out NP (HP.out.lt) x))
  replace HN:=Lib.hid hn;replace HP:=Lib.hid hp;have HCW:=Lib.hid hc;have HQW:=Lib.hid hq
  replace HNP:=Lib.hid HNP2.out
  have HRN:=Lib.hid (show r≠NP from fun x=>HNP.out (.inl x.symm))
  have HN0:=Lib.hid HN.out
  have HB:=Lib.hid (Below.refl wc.heap.size wc)
  clear hn hp hc hq HXP HNP2
  go_upto_region 4 with fail
  have hb:Below wc.heap.size wc wc.drew:=below_drewN (Below.refl _ _) 1
  replace HN:=Lib.hid (HN.out.below hb)
  replace HP:=Lib.hid (HP.out.below hb)
  replace HB:=Lib.hid (HB.out.trans (hb.mono HB.out.size))
  replace HR:=Lib.hid ((HR.out.below hb).more hb.size)
  clear hb
  obtain⟨wdb,ewd⟩:∃z,z=wc.drew:=⟨_,rfl⟩
  refine Reg.any_begin (fun w'=>Blk w' NP 32 xs) 12 rfl (by kernel_rfl) HP.out ?_
  rw[←ewd] at HN HP HB HR⊢
  clear ewd
  refine Reg.tk 0 (v:=?vb18) rfl HP.out (fun w' hS=>?hb18) ?rb18
  case hb18=>go_simp<;>rfl
  simp only[Act.put,Reg.s0,Reg.s1,Reg.s2]
  refine Reg.tk 1 (v:=?vb19) rfl HP.out (fun w' hS=>?hb19) ?rb19
  case hb19=>go_simp<;>rfl
  simp only[Act.put,Reg.s0,Reg.s1,Reg.s2]
  refine Reg.tk 2 (v:=?vb20) rfl HP.out (fun w' hS=>?hb20) ?rb20
  case hb20=>go_simp<;>rfl
  simp only[Act.put,Reg.s0,Reg.s1,Reg.s2]
  refine Reg.tk 3 (v:=?vb21) rfl HP.out (fun w' hS=>?hb21) ?rb21
  case hb21=>go_simp<;>rfl
  simp only[Act.put,Reg.s0,Reg.s1,Reg.s2]
  refine Reg.tk 5 (v:=.agg xs) rfl HP.out (fun w' hS=>?hb22) ?rb22
  case hb22=>exact Wh.exec_load (.tmp 3) rfl rfl hS Try.underlying32 rfl HXI.out
  simp only[Act.put,Reg.s0,Reg.s1,Reg.s2]
  refine Reg.both_all [4,6] (by kernel_rfl) (by simp) ?_
  intro j0 hj0
  have hj0:j0=4∨j0=6:=by simpa using hj0
  rcases hj0 with rfl | rfl
  ·left
   refine⟨_,_,_,_,_,_,(.slice A0 ns c0),wdb,rfl,by rfl,(by have kw:(_:World).cell? ⟨r,0,none⟩=some (.slice A0 ns c0):=(EVS.out▸HN.out.c0);(go_simp<;>rfl)),HP.out,?_⟩
   simp only[Act.put,Reg.s0,Reg.s1,Reg.s2]
   refine Reg.both_all [6] (by kernel_rfl) (by simp) ?_
   intro j0 hj0
   obtain rfl:j0=6:=by simpa using hj0
   clear hj0
   right
   refine⟨_,_,_,_,_,_,23,#[.agg xs],rfl,by rfl,(by go_simp<;>first | rfl | exact⟨rfl,rfl⟩),?_⟩
   refine Calls.mono (CX.out _ HR.out) ?_
   rintro e wb23 ⟨A',c',rfl,ho,hb⟩
   have HO:=Lib.hid (ho.since HB.out.size)
   clear ho
   replace HN:=Lib.hid (HN.out.below hb)
   replace HP:=Lib.hid (HP.out.below hb)
   replace HB:=Lib.hid (HB.out.trans (hb.mono HB.out.size))
   replace HR:=Lib.hid ((HR.out.below hb).more hb.size)
   clear hb
   refine⟨_,rfl,HP.out,?_⟩
   simp only[Act.put,Reg.s0,Reg.s1,Reg.s2]
   refine Reg.both_all [7] (by kernel_rfl) (by simp) ?_
   intro j0 hj0
   obtain rfl:j0=7:=by simpa using hj0
   clear hj0
   left
   have hb:Below wb23.heap.size wb23 (wb23.alloc (.cells (pkA p A' c') 32)):=(Below.refl _ _).alloc (Nat.le_refl _) _
   refine⟨_,_,_,_,_,_,.slice (some ⟨wb23.heap.size,0,none⟩) 1 1,(wb23.alloc (.cells (pkA p A' c') 32)),rfl,by rfl,exec_slice rfl (SP.out _ A' c'),(HP.out.below hb),?_⟩
   simp only[Act.put,Reg.s0,Reg.s1,Reg.s2]
   have HNB:=Lib.hid (Blk.new wb23 32 (pkA p A' c'))
   replace HN:=Lib.hid (HN.out.below hb)
   replace HP:=Lib.hid (HP.out.below hb)
   replace HB:=Lib.hid (HB.out.trans (hb.mono HB.out.size))
   replace HR:=Lib.hid ((HR.out.below hb).more hb.size)
   replace HO:=Lib.hid (HO.out.below hb)
   clear hb
   obtain⟨wb24,ewb24⟩:∃z,z=(wb23.alloc (.cells (pkA p A' c') 32)):=⟨_,rfl⟩
   rw[←ewb24] at HN HP HB HR HO HNB⊢
   clear ewb24
   obtain⟨Gwb24,eGwb24⟩:∃z,z=wb23.heap.size:=⟨_,rfl⟩
   rw[←eGwb24] at HNB⊢
   clear eGwb24
   refine Reg.both_all [8] (by kernel_rfl) (by simp) ?_
   intro j0 hj0
   obtain rfl:j0=8:=by simpa using hj0
   clear hj0
   left
   obtain⟨v6,wb25,hrun,ho6,hg6,hv6⟩:=Wh.app_run (P:=Try.prog) enC 3 40 enC_length enC_one wb24 27 27 32 iP _ Try.underlying27 KP1.out KP2.out KP3.out KP4.out (by rfl) (by omega) B vs es HN.out.row (⟨p,A',c'⟩:En) Gwb24 HNB.out (by have:=HL4.out;omega) (by omega) HN.out.big
   obtain⟨hn6,hc6,hq6⟩:=nt_sent (e:=⟨p,A',c'⟩) HN0.out HB.out HN.out HO.out ho6 hg6 hv6
   have hr6:=HN.out.blk.grown hg6 HN.out.vr
   have hpx:=HP.out.grown hg6 (fun x=>HNP.out (.inr (.inl x)))
   refine⟨_,_,_,_,_,_,v6,wb25,rfl,by rfl,exec_app (by rw[EVS.out];rfl) rfl hrun,hpx,?_⟩
   simp only[Act.put,Reg.s0,Reg.s1,Reg.s2]
   refine Reg.tk 9 (v:=?vb26) rfl hpx (fun w' hS=>?hb26) ?rb26
   case hb26=>go_simp<;>rfl
   simp only[Act.put,Reg.s0,Reg.s1,Reg.s2]
   refine Reg.tk 10 (v:=?vb27) rfl hpx (fun w' hS=>?hb27) ?rb27
   case hb27=>go_simp<;>rfl
   simp only[Act.put,Reg.s0,Reg.s1,Reg.s2]
   obtain⟨A7,c7,e7,_⟩:=own_rdr enC_length ho6
   obtain⟨m7,em7⟩:∃m7,m7=(es++[(⟨p,A',c'⟩:En)]).length:=⟨_,rfl⟩
   rw[←em7] at e7
   subst e7
   have f0:=hr6.frozen 0
   have k6:wb25.cell? ⟨r,0,none⟩=some vs:=hr6.cell 0
   refine Reg.any_store 11 (wb25.setCell ⟨r,0,none⟩ (.slice A7 m7 c7)) rfl (by kernel_rfl) (by rfl) (by go_simp) (Si.Blk.far hpx _ _ HRN.out) ?_
   simp only[Act.put,Reg.s0,Reg.s1,Reg.s2]
   refine wpAnyH_done (by kernel_rfl) ?_ _
   have HFN:=Lib.hid hn6;have HFC:=Lib.hid hc6;have HFQ:=Lib.hid hq6
   clear f0 k6 hr6 ho6 hg6 hv6 hrun em7 hpx hn6 hc6 hq6
   go_wp2
   go_ret
   exact⟨rfl,_,_,A',c',HFN.out,HC0.out.trans (HCW.out.trans HFC.out (fun q hq x=>HTT.out q hq x)) (fun q _ x=>x),fun q hq=>by
    rcases HFQ.out q hq with k | k
    ·rcases HQW.out q k with k | k
     ·exact .inl k
     ·exact .inr (Nat.le_trans HC0.out.size k)
    ·exact .inr (Nat.le_trans HC0.out.size (Nat.le_trans HCW.out.size k))⟩
  ·right
   refine⟨_,_,_,_,_,_,23,#[.agg xs],rfl,by rfl,(by go_simp<;>first | rfl | exact⟨rfl,rfl⟩),?_⟩
   refine Calls.mono (CX.out _ HR.out) ?_
   rintro e wb28 ⟨A',c',rfl,ho,hb⟩
   have HO:=Lib.hid (ho.since HB.out.size)
   clear ho
   replace HN:=Lib.hid (HN.out.below hb)
   replace HP:=Lib.hid (HP.out.below hb)
   replace HB:=Lib.hid (HB.out.trans (hb.mono HB.out.size))
   replace HR:=Lib.hid ((HR.out.below hb).more hb.size)
   clear hb
   refine⟨_,rfl,HP.out,?_⟩
   simp only[Act.put,Reg.s0,Reg.s1,Reg.s2]
   refine Reg.both_all [4,7] (by kernel_rfl) (by simp) ?_
   intro j0 hj0
   have hj0:j0=4∨j0=7:=by simpa using hj0
   rcases hj0 with rfl | rfl
   ·left
    refine⟨_,_,_,_,_,_,(.slice A0 ns c0),wb28,rfl,by rfl,(by have kw:(_:World).cell? ⟨r,0,none⟩=some (.slice A0 ns c0):=(EVS.out▸HN.out.c0);(go_simp<;>rfl)),HP.out,?_⟩
    simp only[Act.put,Reg.s0,Reg.s1,Reg.s2]
    refine Reg.both_all [7] (by kernel_rfl) (by simp) ?_
    intro j0 hj0
    obtain rfl:j0=7:=by simpa using hj0
    clear hj0
    left
    have hb:Below wb28.heap.size wb28 (wb28.alloc (.cells (pkA p A' c') 32)):=(Below.refl _ _).alloc (Nat.le_refl _) _
    refine⟨_,_,_,_,_,_,.slice (some ⟨wb28.heap.size,0,none⟩) 1 1,(wb28.alloc (.cells (pkA p A' c') 32)),rfl,by rfl,exec_slice rfl (SP.out _ A' c'),(HP.out.below hb),?_⟩
    simp only[Act.put,Reg.s0,Reg.s1,Reg.s2]
    have HNB:=Lib.hid (Blk.new wb28 32 (pkA p A' c'))
    replace HN:=Lib.hid (HN.out.below hb)
    replace HP:=Lib.hid (HP.out.below hb)
    replace HB:=Lib.hid (HB.out.trans (hb.mono HB.out.size))
    replace HR:=Lib.hid ((HR.out.below hb).more hb.size)
    replace HO:=Lib.hid (HO.out.below hb)
    clear hb
    obtain⟨wb29,ewb29⟩:∃z,z=(wb28.alloc (.cells (pkA p A' c') 32)):=⟨_,rfl⟩
    rw[←ewb29] at HN HP HB HR HO HNB⊢
    clear ewb29
    obtain⟨Gwb29,eGwb29⟩:∃z,z=wb28.heap.size:=⟨_,rfl⟩
    rw[←eGwb29] at HNB⊢
    clear eGwb29
    refine Reg.both_all [8] (by kernel_rfl) (by simp) ?_
    intro j0 hj0
    obtain rfl:j0=8:=by simpa using hj0
    clear hj0
    left
    obtain⟨v6,wb30,hrun,ho6,hg6,hv6⟩:=Wh.app_run (P:=Try.prog) enC 3 40 enC_length enC_one wb29 27 27 32 iP _ Try.underlying27 KP1.out KP2.out KP3.out KP4.out (by rfl) (by omega) B vs es HN.out.row (⟨p,A',c'⟩:En) Gwb29 HNB.out (by have:=HL4.out;omega) (by omega) HN.out.big
    obtain⟨hn6,hc6,hq6⟩:=nt_sent (e:=⟨p,A',c'⟩) HN0.out HB.out HN.out HO.out ho6 hg6 hv6
    have hr6:=HN.out.blk.grown hg6 HN.out.vr
    have hpx:=HP.out.grown hg6 (fun x=>HNP.out (.inr (.inl x)))
    refine⟨_,_,_,_,_,_,v6,wb30,rfl,by rfl,exec_app (by rw[EVS.out];rfl) rfl hrun,hpx,?_⟩
    simp only[Act.put,Reg.s0,Reg.s1,Reg.s2]
    refine Reg.tk 9 (v:=?vb31) rfl hpx (fun w' hS=>?hb31) ?rb31
    case hb31=>go_simp<;>rfl
    simp only[Act.put,Reg.s0,Reg.s1,Reg.s2]
    refine Reg.tk 10 (v:=?vb32) rfl hpx (fun w' hS=>?hb32) ?rb32
    case hb32=>go_simp<;>rfl
    simp only[Act.put,Reg.s0,Reg.s1,Reg.s2]
    obtain⟨A7,c7,e7,_⟩:=own_rdr enC_length ho6
    obtain⟨m7,em7⟩:∃m7,m7=(es++[(⟨p,A',c'⟩:En)]).length:=⟨_,rfl⟩
    rw[←em7] at e7
    subst e7
    have f0:=hr6.frozen 0
    have k6:wb30.cell? ⟨r,0,none⟩=some vs:=hr6.cell 0
    refine Reg.any_store 11 (wb30.setCell ⟨r,0,none⟩ (.slice A7 m7 c7)) rfl (by kernel_rfl) (by rfl) (by go_simp) (Si.Blk.far hpx _ _ HRN.out) ?_
    simp only[Act.put,Reg.s0,Reg.s1,Reg.s2]
    refine wpAnyH_done (by kernel_rfl) ?_ _
    have HFN:=Lib.hid hn6;have HFC:=Lib.hid hc6;have HFQ:=Lib.hid hq6
    clear f0 k6 hr6 ho6 hg6 hv6 hrun em7 hpx hn6 hc6 hq6
    go_wp2
    go_ret
    exact⟨rfl,_,_,A',c',HFN.out,HC0.out.trans (HCW.out.trans HFC.out (fun q hq x=>HTT.out q hq x)) (fun q _ x=>x),fun q hq=>by
     rcases HFQ.out q hq with k | k
     ·rcases HQW.out q k with k | k
      ·exact .inl k
      ·exact .inr (Nat.le_trans HC0.out.size k)
     ·exact .inr (Nat.le_trans HC0.out.size (Nat.le_trans HCW.out.size k))⟩
   ·left
    have hb:Below wb28.heap.size wb28 (wb28.alloc (.cells (pkA p A' c') 32)):=(Below.refl _ _).alloc (Nat.le_refl _) _
    refine⟨_,_,_,_,_,_,.slice (some ⟨wb28.heap.size,0,none⟩) 1 1,(wb28.alloc (.cells (pkA p A' c') 32)),rfl,by rfl,exec_slice rfl (SP.out _ A' c'),(HP.out.below hb),?_⟩
    simp only[Act.put,Reg.s0,Reg.s1,Reg.s2]
    have HNB:=Lib.hid (Blk.new wb28 32 (pkA p A' c'))
    replace HN:=Lib.hid (HN.out.below hb)
    replace HP:=Lib.hid (HP.out.below hb)
    replace HB:=Lib.hid (HB.out.trans (hb.mono HB.out.size))
    replace HR:=Lib.hid ((HR.out.below hb).more hb.size)
    replace HO:=Lib.hid (HO.out.below hb)
    clear hb
    obtain⟨wb33,ewb33⟩:∃z,z=(wb28.alloc (.cells (pkA p A' c') 32)):=⟨_,rfl⟩
    rw[←ewb33] at HN HP HB HR HO HNB⊢
    clear ewb33
    obtain⟨Gwb33,eGwb33⟩:∃z,z=wb28.heap.size:=⟨_,rfl⟩
    rw[←eGwb33] at HNB⊢
    clear eGwb33
    refine Reg.both_all [4] (by kernel_rfl) (by simp) ?_
    intro j0 hj0
    obtain rfl:j0=4:=by simpa using hj0
    clear hj0
    left
    refine⟨_,_,_,_,_,_,(.slice A0 ns c0),wb33,rfl,by rfl,(by have kw:(_:World).cell? ⟨r,0,none⟩=some (.slice A0 ns c0):=(EVS.out▸HN.out.c0);(go_simp<;>rfl)),HP.out,?_⟩
    simp only[Act.put,Reg.s0,Reg.s1,Reg.s2]
    refine Reg.both_all [8] (by kernel_rfl) (by simp) ?_
    intro j0 hj0
    obtain rfl:j0=8:=by simpa using hj0
    clear hj0
    left
    obtain⟨v6,wb34,hrun,ho6,hg6,hv6⟩:=Wh.app_run (P:=Try.prog) enC 3 40 enC_length enC_one wb33 27 27 32 iP _ Try.underlying27 KP1.out KP2.out KP3.out KP4.out (by rfl) (by omega) B vs es HN.out.row (⟨p,A',c'⟩:En) Gwb33 HNB.out (by have:=HL4.out;omega) (by omega) HN.out.big
    obtain⟨hn6,hc6,hq6⟩:=nt_sent (e:=⟨p,A',c'⟩) HN0.out HB.out HN.out HO.out ho6 hg6 hv6
    have hr6:=HN.out.blk.grown hg6 HN.out.vr
    have hpx:=HP.out.grown hg6 (fun x=>HNP.out (.inr (.inl x)))
    refine⟨_,_,_,_,_,_,v6,wb34,rfl,by rfl,exec_app (by rw[EVS.out];rfl) rfl hrun,hpx,?_⟩
    simp only[Act.put,Reg.s0,Reg.s1,Reg.s2]
    refine Reg.tk 9 (v:=?vb35) rfl hpx (fun w' hS=>?hb35) ?rb35
    case hb35=>go_simp<;>rfl
    simp only[Act.put,Reg.s0,Reg.s1,Reg.s2]
    refine Reg.tk 10 (v:=?vb36) rfl hpx (fun w' hS=>?hb36) ?rb36
    case hb36=>go_simp<;>rfl
    simp only[Act.put,Reg.s0,Reg.s1,Reg.s2]
    obtain⟨A7,c7,e7,_⟩:=own_rdr enC_length ho6
    obtain⟨m7,em7⟩:∃m7,m7=(es++[(⟨p,A',c'⟩:En)]).length:=⟨_,rfl⟩
    rw[←em7] at e7
    subst e7
    have f0:=hr6.frozen 0
    have k6:wb34.cell? ⟨r,0,none⟩=some vs:=hr6.cell 0
    refine Reg.any_store 11 (wb34.setCell ⟨r,0,none⟩ (.slice A7 m7 c7)) rfl (by kernel_rfl) (by rfl) (by go_simp) (Si.Blk.far hpx _ _ HRN.out) ?_
    simp only[Act.put,Reg.s0,Reg.s1,Reg.s2]
    refine wpAnyH_done (by kernel_rfl) ?_ _
    have HFN:=Lib.hid hn6;have HFC:=Lib.hid hc6;have HFQ:=Lib.hid hq6
    clear f0 k6 hr6 ho6 hg6 hv6 hrun em7 hpx hn6 hc6 hq6
    go_wp2
    go_ret
    exact⟨rfl,_,_,A',c',HFN.out,HC0.out.trans (HCW.out.trans HFC.out (fun q hq x=>HTT.out q hq x)) (fun q _ x=>x),fun q hq=>by
     rcases HFQ.out q hq with k | k
     ·rcases HQW.out q k with k | k
      ·exact .inl k
      ·exact .inr (Nat.le_trans HC0.out.size k)
     ·exact .inr (Nat.le_trans HC0.out.size (Nat.le_trans HCW.out.size k))⟩
end Go.Proofs.Ytlihoeipmjbnbaa.Nt
end
