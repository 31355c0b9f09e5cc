import Derived.StillTailTactics
import Derived.Deep.CutBlock
import Derived.Deep.RegionHeld3
import Derived.Test.YtlacoakelliabaaProg
import Derived.Deep.LoopGhost
import Derived.DeepKeys
import Derived.Laws.StructEq
import Derived.Test.YtlacoakelliabaaZCachePlays1
import Derived.Test.YtlacoakelliabaaZCachePlays2
import Derived.Test.YtlacoakelliabaaZCachePlays3
import Derived.Test.YtlacoakelliabaaZCachePlays4
import Derived.Test.YtlacoakelliabaaZCachePlays5
section
set_option linter.unusedVariables false
set_option linter.unusedSimpArgs false
namespace Go.Proofs.Ytlacoakelliabaa.Ca
open Go.RowKit Go.Proofs.Ytlacoakelliabaa.Mem Go.Proofs.Ytlacoakelliabaa.Se
open Go.Proofs.Ytlacoakelliabaa.Nm (L)
open Go.Proofs.Ytlacoakelliabaa.Rg (Pr prV pr_info RdR own_rdr own_chg chg_row eql_pr_yes eql_pr_no)
set_option maxHeartbeats 6400000 in
set_option maxRecDepth 100000 in
theorem dget_any (N B q:Nat) (v:Value) (es:List En) (p:Pr) (t:Int) (w:World) (h:DCa w N B q v es) (hl:es.length≤1000) :
  Calls Try.prog 14 #[.pointer (some ⟨q,0,none⟩),prV p,.int .i64 t] w fun e w'=>∃A c,e = .returned (.tuple #[.agg (crA (getX (getO (its es) p t)) A c),.bool (getO (its es) p t).isSome])∧Rd w' N A (bvs (getX (getO (its es) p t)).b)∧Below w.heap.size w w':=by
 obtain⟨o,eo⟩:∃o,o=getO (its es) p t:=⟨_,rfl⟩
 rw[←eo]
 have EO:=Lib.hid eo
 obtain⟨A0,c0,rfl,_,_,hr⟩:=h.num
 have hb0:=h.blk
 obtain⟨n,en⟩:∃n,n=es.length:=⟨_,rfl⟩
 have EN:=Lib.hid en
 rw[←en] at hb0 hl
 have HL:=Lib.hid hl
 have HR:=Lib.hid hr
 have hql:=h.lt
 have hqc:=hb0.cell 0
 have HH:=Lib.hid h
 obtain⟨zs,ezs⟩:∃zs,zs=crA zeroX none 0:=⟨_,rfl⟩
 have EZ2:=Lib.hid (ezs.trans zero_cr)
 have HZS:=Lib.hid (show zs.size=37 by rw[ezs,crA_size])
 obtain⟨M,eM⟩:∃M,M=w.heap.size:=⟨_,rfl⟩
 obtain⟨W,eW⟩:∃W,W=(w.alloc (.cells #[.string ⟨p.1.toArray⟩,.string ⟨p.2.toArray⟩] 31)).alloc (.cells zs 38):=⟨_,rfl⟩
 have hb:Below w.heap.size w W:=eW▸((Below.refl _ _).alloc (Nat.le_refl _) _).alloc (by simp) _
 have hp:Blk W w.heap.size 31 #[.string ⟨p.1.toArray⟩,.string ⟨p.2.toArray⟩]:=eW▸(Blk.new w _ _).alloc _
 have hz:Blk W (w.heap.size+1) 38 zs:=by have:=Blk.new (w.alloc (.cells #[.string ⟨p.1.toArray⟩,.string ⟨p.2.toArray⟩] 31)) 38 zs;simp only[World.size_alloc] at this;exact eW▸this
 rw[←eM] at hb hp hz hr hql
 have HB:=Lib.hid hb
 have HP:=Lib.hid hp
 have HZ:=Lib.hid hz
 have EM:=Lib.hid eM
 have HM:=Lib.hid (show ∀w1:World,Below M w w1→M≤w1.heap.size from fun w1 h=>by rw[eM];exact h.size)
 have KQ:=Lib.hid (fun(w1:World) (hb:Below M w w1)=>((hb.cell (p:=⟨q,0,none⟩) hql).trans hqc:w1.cell? ⟨q,0,none⟩=some (.slice A0 n c0)))
 clear h hb hp hz hql hqc hr hb0 en eo ezs hl
 have k0:=KQ.out W HB.out
 go_enter Try.func14,Try.ntmps14
 go_upto_region 1 with fail
 rw[←EZ2.out,←eW,←eM]
 clear eW eM EZ2
 go_wp2
 go_loopw [8] (fun iv wr=>∃i:Nat,i≤n∧iv = .int .i64 (i:Int)∧Below M w wr∧Blk wr M 31 #[.string ⟨p.1.toArray⟩,.string ⟨p.2.toArray⟩]∧Blk wr (M+1) 38 zs∧∀j x,j<i→es[j]? = some x→hitG p t x.it=false) (fun iv _=>n - (intOf iv).toNat)
 case atStart=>exact⟨0,Nat.zero_le _,rfl,HB.out,HP.out,HZ.out,fun j x hj=>absurd hj (Nat.not_lt_zero _)⟩
 case round=>
  clear HB HP HZ k0
  obtain⟨i,hi,rfl,hb,hp,hz,hno⟩:=hrel
  have HB:=Lib.hid hb;have HP:=Lib.hid hp;have HZ:=Lib.hid hz;have HNO:=Lib.hid hno
  have k0:=KQ.out wr hb
  have kp0:wr.cell? ⟨M,0,none⟩=some (.string ⟨p.1.toArray⟩):=hp.cell 0
  have kp1:wr.cell? ⟨M,1,none⟩=some (.string ⟨p.2.toArray⟩):=hp.cell 1
  clear hb hp hz hno
  by_cases hlt:i<n
  ·have e1:(i:Int)<(n:Int):=by omega
   have e2:(0:Int)≤(i:Int):=by omega
   have e8:(i:Int)≤1000:=by have:=HL.out;omega
   obtain⟨x,hx⟩:∃x,es[i]? = some x:=⟨es[i]'(by rw[←EN.out];exact hlt),List.getElem?_eq_getElem _⟩
   obtain⟨g,rfl,hgM,hra⟩:=(HR.out.keep (EM.out▸HB.out)).at_ hx
   have kq0:wr.cell? ⟨g,i*39,none⟩=some (.string ⟨x.p.1.toArray⟩):=hra 0 _ rfl
   have kq1:wr.cell? ⟨g,i*39+1,none⟩=some (.string ⟨x.p.2.toArray⟩):=hra 1 _ rfl
   have ke:wr.cell? ⟨g,i*39+38,none⟩=some (.int .i64 x.x.e):=en_end hra
   have HRA:=Lib.hid (fun(w1:World) (h:Below wr.heap.size wr w1)=>(fun j v hv=>(h.cell (p:=⟨g,_,none⟩) (Nat.lt_of_lt_of_le hgM (by have:=HM.out _ HB.out;rw[EM.out] at this;exact this))).trans (hra j v hv):w1.rangeAt g (i*39) (enC x)))
   have HX:=Lib.hid hx
   have HMEM:=Lib.hid (List.mem_of_getElem? hx)
   have hhit:hitG p t x.it=(decide (x.p=p)&&decide (t≤x.x.e)):=rfl
   have HHIT:=Lib.hid hhit
   clear hra hx hhit
   by_cases hq:x.p=p
   ·have t1:=eql_pr_yes hq
    rw[decide_eq_true hq] at HHIT
    clear hq
    by_cases ht:t≤x.x.e
    ·have t2:decide (t≤x.x.e)=true:=decide_eq_true ht
     rw[t2] at HHIT
     clear ht
     go_upto_region 4 with fail
     go_quiet (fail)
     obtain⟨W7,eW7⟩:∃W7,W7=wr.drewN nq:=⟨_,rfl⟩
     have hb7:Below wr.heap.size wr W7:=eW7▸below_drewN (Below.refl _ _) _
     rw[←eW7]
     clear eW7 k0 kq0 kq1 kp0 kp1 ke
     replace HB:=Lib.hid (HB.out.trans (hb7.mono (HM.out _ HB.out)))
     replace HZ:=Lib.hid (HZ.out.below hb7)
     have k0:=KQ.out W7 HB.out
     have HRZ:=Lib.hid (en_cr (HRA.out W7 hb7))
     obtain⟨xs,exs⟩:∃xs,xs=crA x.x x.A x.c:=⟨_,rfl⟩
     have EXS:=Lib.hid exs
     have HXI:=Lib.hid (show(Try.prog.info? 38).map (·.size)=some xs.size by rw[exs,crA_size];exact cr_info)
     have HXS:=Lib.hid (show xs.size=37 by rw[exs,crA_size])
     have HX1:=Lib.hid (show xs.all (·.oneCell')=true by rw[exs];exact crA_one _ _ _)
     clear hb7 exs
     go_wp2_with (first
      |(refine Wh.load_g (by rfl) 38 (.tmp 47) (by rfl) g _ (by rfl) xs _ (by rw[EXS.out,crA_toList];exact HRZ.out) Try.underlying38 (by rfl) HXI.out ?_)
      |(refine Wh.store_over (by rfl) 38 (.tmp 6) (.tmp 48) (by rfl) (M+1) 38 _ HZ.out xs (by rfl) (by rfl) (by rw[HZS.out,HXS.out]) HXI.out HX1.out ?_;rintro V2 hV2 hg;have HV:=Lib.hid hV2;replace HB:=Lib.hid (below_g HB.out hg (HM.out _ HB.out) (by omega));clear hV2 hg)
      |fail)
     have ho:o=some x.it:=by
      rw[EO.out]
      refine getO_hit (its_at HX.out) (HHIT.out.trans rfl) (fun j y hj hy=>?_)
      obtain⟨e,he,rfl⟩:=its_of hy
      exact HNO.out j e hj he
     clear EO
     subst ho
     refine bodyPost_ret (v:=.tuple #[.agg xs,.bool true]) ?_ ?_ ?_
     ·exact results_pair 6 7 38 ⟨M+1,0,none⟩ Try.results14 (by rfl) (Wh.load_blk HV.out Try.underlying38 (by rfl) HXI.out) (by rfl)
     ·rfl
     ·exact⟨x.A,x.c,by rw[EXS.out];rfl,(HH.out.rd x HMEM.out).below (HB.out.mono (by rw[EM.out];exact Nat.le_trans HH.out.nb HH.out.big)),by rw[←EM.out];exact HB.out⟩
    ·have t2:decide (t≤x.x.e)=false:=decide_eq_false ht
     rw[t2] at HHIT
     clear ht
     go_upto_region 4 with fail
     go_quiet (fail)
     clear k0 kq0 kq1 kp0 kp1 ke
     have hb7:Below wr.heap.size wr (wr.drewN nq):=below_drewN (Below.refl _ _) _
     replace HB:=Lib.hid (HB.out.trans (hb7.mono (HM.out _ HB.out)))
     replace HP:=Lib.hid (HP.out.below hb7)
     replace HZ:=Lib.hid (HZ.out.below hb7)
     clear hb7
     go_wp2
     go_roundw
     case rel=>exact⟨i+1,by omega,by go_num,HB.out,HP.out,HZ.out,fun j y hj hy=>by
      rcases Nat.lt_or_eq_of_le (Nat.le_of_lt_succ hj) with g | g
      ·exact HNO.out j y g hy
      ·rw[g,HX.out] at hy
       injection hy with hy
       rw[←hy]
       exact HHIT.out.trans rfl⟩
     case measure=>simp [intOf];omega
   ·have t1:=eql_pr_no hq
    rw[decide_eq_false hq] at HHIT
    clear hq
    go_upto_region 4 with fail
    go_quiet (fail)
    clear k0 kq0 kq1 kp0 kp1 ke
    have hb7:Below wr.heap.size wr (wr.drewN nq):=below_drewN (Below.refl _ _) _
    replace HB:=Lib.hid (HB.out.trans (hb7.mono (HM.out _ HB.out)))
    replace HP:=Lib.hid (HP.out.below hb7)
    replace HZ:=Lib.hid (HZ.out.below hb7)
    clear hb7
    go_wp2
    go_roundw
    case rel=>exact⟨i+1,by omega,by go_num,HB.out,HP.out,HZ.out,fun j y hj hy=>by
     rcases Nat.lt_or_eq_of_le (Nat.le_of_lt_succ hj) with g | g
     ·exact HNO.out j y g hy
     ·rw[g,HX.out] at hy
      injection hy with hy
      rw[←hy]
      exact HHIT.out.trans rfl⟩
    case measure=>simp [intOf];omega
  ·have e1:¬(i:Int)<(n:Int):=by omega
   obtain rfl:n=i:=by omega
   have ho:o=none:=by
    rw[EO.out]
    refine getO_none (fun j y hj hy=>?_)
    rw[its_length,←EN.out] at hj
    obtain⟨e,he,rfl⟩:=its_of hy
    exact HNO.out j e hj he
   clear EO
   subst ho
   go_wp2_with (first
    |(refine Wh.store_over (by rfl) 38 (.tmp 6) (.tmp 49) (by rfl) (M+1) 38 zs HZ.out (crA zeroX none 0) (by rfl) (by rfl) (by rw[HZS.out,crA_size]) (by rw[crA_size];exact cr_info) (crA_one _ _ _) ?_;rintro V2 hV2 hg;have HV:=Lib.hid hV2;replace HB:=Lib.hid (below_g HB.out hg (HM.out _ HB.out) (by omega));clear hV2 hg)
    |fail)
   refine bodyPost_ret (v:=.tuple #[.agg (crA zeroX none 0),.bool false]) ?_ ?_ ?_
   ·exact results_pair 6 7 38 ⟨M+1,0,none⟩ Try.results14 (by rfl) (Wh.load_blk HV.out Try.underlying38 (by rfl) (by rw[crA_size];exact cr_info)) (by rfl)
   ·rfl
   ·first
    |exact⟨none,⟨0,rfl⟩,.inl rfl,by rw[←EM.out];exact HB.out⟩
    |exact⟨none,0,rfl,.inl rfl,by rw[←EM.out];exact HB.out⟩
end Go.Proofs.Ytlacoakelliabaa.Ca
end

section
set_option linter.unusedVariables false
set_option linter.unusedSimpArgs false
namespace Go.Proofs.Ytlacoakelliabaa.Ca
open Go.RowKit Go.Proofs.Ytlacoakelliabaa.Mem Go.Proofs.Ytlacoakelliabaa.Se
open Go.Proofs.Ytlacoakelliabaa.Nm (L)
open Go.Proofs.Ytlacoakelliabaa.Rg (Pr prV pr_info RdR own_rdr own_chg chg_row)
section
variable {a w w':World} {B r g:Nat} {v v':Value} {es es':List En} {t:TypeId} {cs:Array Value}
theorem blk_ca (h:Blk w g t cs) (hn:¬CO r v es g) (hc:Chg (PT r v) w w'):Blk w' g t cs:=hc.blk h (fun x=>hn (pt_co x))
theorem ca_below (h:Below B a w) (hr:Ca w B r v es) (hc:Chg (PT r v) w w'):Below B a w':=h.trans (hc.below hr.big (fun i _ hx=>hr.own_lo (pt_co hx)))
theorem nil_co (h:CO r (.slice none 0 0) [] g):g=r:=by
 rcases h with h | h | ⟨e,he,_⟩
 ·exact h
 ·cases h
 ·cases he
theorem old_co (h:Ca w B r v es) (hg:w.heap.size≤g):¬CO r v es g:=fun x=>by have:=h.own_lt x;omega
theorem low_co (h:Ca w B r v es) (hg:g<B):¬CO r v es g:=fun x=>by have:=h.own_lo x;omega
end
abbrev xE (e:Int):Cr:=⟨([],[]),0,[],zeroK,e⟩
theorem xE_lit (e:Int):crA (xE e) none 0=#[.string ⟨#[]⟩,.string ⟨#[]⟩,.int .i64 0,.slice none 0 0,.int .u8 0,.int .u8 0,.int .u8 0,.int .u8 0,.int .u8 0,.int .u8 0,.int .u8 0,.int .u8 0,.int .u8 0,.int .u8 0,.int .u8 0,.int .u8 0,.int .u8 0,.int .u8 0,.int .u8 0,.int .u8 0,.int .u8 0,.int .u8 0,.int .u8 0,.int .u8 0,.int .u8 0,.int .u8 0,.int .u8 0,.int .u8 0,.int .u8 0,.int .u8 0,.int .u8 0,.int .u8 0,.int .u8 0,.int .u8 0,.int .u8 0,.int .u8 0,.int .i64 e]:=by rfl
theorem fit_e (e:Int):Fit (xE e):=⟨by simp,by simp,by simp⟩
theorem fits_one {p:Pr} {x:Cr} (h:Fit x):Fits [(p,x)]:=fun i hi=>by rw[List.mem_singleton] at hi;subst hi;exact h
theorem get_one (p:Pr) (x:Cr) (t:Int):getO [(p,x)] p t=if t≤x.e then some (p,x) else none:=by
 unfold getO
 by_cases h:t≤x.e
 ·rw[if_pos h,List.find?_cons_of_pos (by simp [hitG,h])]
 ·rw[if_neg h,List.find?_cons_of_neg (by simp [hitG,h])];rfl
theorem put_one (p:Pr) (x:Cr) (t:Int):putL [] p x t = [(p,x)]:=rfl
def GotP (w:World) (o:Option It) (e:Ending) (w':World):Prop:=
 ∃A c rs,rs=crA (getX o) A c∧e = .returned (.tuple #[.agg rs,.bool o.isSome])∧rs.size=37∧(Try.prog.info? 38).map (·.size)=some rs.size∧rs.all (·.oneCell')=true∧Own1 w w' A (bvs (getX o).b)∧Below w.heap.size w w'
theorem get_b {B r:Nat} {v:Value} {es:List En} {w:World} (p:Pr) (t:Int) (h:Ca w B r v es) (hf:Fits (its es)) (hl:es.length≤1000) {o:Option It} (ho:getO (its es) p t=o) :
  Calls Try.prog 13 #[.pointer (some ⟨r,0,none⟩),prV p,.int .i64 t] w (GotP w o):=by
 refine(get_any B r v es p t w h hf hl).mono ?_
 rintro e w' ⟨A,c,rfl,h1,h2⟩
 rw[ho] at h1⊢
 exact⟨A,c,_,rfl,rfl,crA_size _ _ _,by rw[crA_size];exact cr_info,crA_one _ _ _,h1,h2⟩
def PutP (w:World) (B r:Nat) (v:Value) (es:List En) (l:List It) (z:Nat) (e:Ending) (w':World):Prop:=
 e = .returned (.int .i64 (z:Int))∧∃v' es',Ca w' B r v' es'∧its es'=l∧Chg (PT r v) w w'∧(∀q,CO r v' es' q→CO r v es q∨w.heap.size≤q)
theorem put_b {B r:Nat} {v:Value} {es:List En} {w:World} (p:Pr) (x:Cr) (A:Option Addr) (c:Nat) (t:Int) (h:Ca w B r v es) (hx:Rd w w.heap.size A (bvs x.b)) (hxo:∀a,A=some a→x.b≠[]→¬CO r v es a.block) (h1:p.1.length≤140737488351232) (h2:p.2.length≤140737488351232) (hf:Fit x)
  (hl:es.length≤1000) {l:List It} {z:Nat} (el:putL (its es) p x t=l) (ez:putE (its es) p t=z) :
  Calls Try.prog 11 #[.pointer (some ⟨r,0,none⟩),prV p,.agg (crA x A c),.int .i64 t] w (PutP w B r v es l z):=by
 have hxp:∀w',Chg (PT r v) w w'→Rd w' w'.heap.size A (bvs x.b):=fun w' hc=>by
  by_cases hn:x.b = []
  ·rw[hn];exact .inl rfl
  ·exact rd_chg hx hc (fun a ha q=>hxo a ha hn (pt_co q))
 refine(put_any B r v es p x A c t w h hxp h1 h2 hf.1 hf.2.1 hf.2.2 hl).mono ?_
 rintro e w' ⟨rfl,v',es',k1,k2,k3,k4⟩
 rw[el] at k2
 rw[ez]
 exact⟨rfl,v',es',k1,k2,k3,k4⟩
theorem its_len {es:List En} {l:List It} (h:its es=l):es.length=l.length:=by rw[←h,its_length]
abbrev p1:Pr:=([65],[120])
set_option maxRecDepth 100000 in
set_option maxHeartbeats 3200000 in
theorem cknown_any (w:World):Calls Try.prog 18 #[] w fun e w'=>e = .returned (.bool true)∧Below w.heap.size w w':=by
 obtain⟨B,eB⟩:∃B,B=w.heap.size:=⟨_,rfl⟩
 have c1:=ca_new B w (Nat.le_of_eq eB)
 rw[←eB] at c1
 have C2:=Lib.hid (fun(w1:World) (h:Ca w1 B B (.slice none 0 0) [])=>put_b p1 (xE 5) none 0 0 h (.inl rfl) (fun a ha=>by cases ha) (by decide) (by decide) (fit_e 5) (by decide) (put_one p1 (xE 5) 0) (show putE [] p1 0=0 from rfl))
 have C3:=Lib.hid (fun(w1:World) (v:Value) (es:List En) (h:Ca w1 B B v es) (hi:its es = [(p1,xE 5)])=>get_b p1 5 h (by rw[hi];exact fits_one (fit_e 5)) (by rw[its_len hi];decide) (show getO (its es) p1 5=some (p1,xE 5) by rw[hi,get_one];rfl))
 have C4:=Lib.hid (fun(w1:World) (v:Value) (es:List En) (h:Ca w1 B B v es) (hi:its es = [(p1,xE 5)])=>get_b p1 6 h (by rw[hi];exact fits_one (fit_e 5)) (by rw[its_len hi];decide) (show getO (its es) p1 6=none by rw[hi,get_one];rfl))
 have C5:=Lib.hid (fun(w1:World) (v:Value) (es:List En) (h:Ca w1 B B v es)=>ca_len B B v es w1 h)
 simp only[xE_lit] at C2
 have EB:=Lib.hid eB
 have HB:=Lib.hid (show Below B w w from eB▸Below.refl _ _)
 clear eB
 go_enter Try.func18,Try.ntmps18
 go_wp2_with (first
  |(go_at_call 10;refine Calls.mono c1 ?_;rintro e w1 ⟨rfl,hca,hb,hsz⟩;clear c1;have hal:=(Below.refl w1.heap.size w1).alloc (Nat.le_refl _) (.cells #[.string ⟨#[65]⟩,.string ⟨#[120]⟩] 31);have HCA:=Lib.hid (hca.below hal);have HP:=Lib.hid (Blk.new w1 31 #[.string ⟨#[65]⟩,.string ⟨#[120]⟩]);have HNP:=Lib.hid (old_co hca (Nat.le_refl _));replace HB:=Lib.hid ((hb.trans (hal.mono (Nat.le_trans (Nat.le_of_eq EB.out) hb.size)):Below B w _));have c2:=C2.out _ HCA.out;clear hb hca hal hsz)
  |(go_at_call 11;refine Calls.mono c2 ?_;rintro e w2 ⟨rfl,v2,es2,hca,hi,hc,hnw⟩;clear c2;replace HB:=Lib.hid (ca_below HB.out HCA.out hc);have HP2:=Lib.hid (blk_ca HP.out HNP.out hc);have HCA2:=Lib.hid hca;have HI:=Lib.hid hi;have k0:w2.cell? ⟨w1.heap.size,0,none⟩=some (.string ⟨#[65]⟩):=HP2.out.cell 0;have k1:w2.cell? ⟨w1.heap.size,1,none⟩=some (.string ⟨#[120]⟩):=HP2.out.cell 1;have c3:=C3.out _ _ _ HCA2.out HI.out;clear hca hi hc hnw)
  |(go_at_call 13;refine Calls.mono c3 ?_;rintro e w3 ⟨A3,d3,rs,hrx,rfl,hrs,hri,hr1,_,hb⟩;clear hrx c3 k0 k1;replace HB:=Lib.hid (HB.out.trans (hb.mono HCA2.out.big));have HP3:=Lib.hid (HP2.out.below hb);have HCA3:=Lib.hid (HCA2.out.below hb);have HRS:=Lib.hid hrs;have HRI:=Lib.hid hri;have HR1:=Lib.hid hr1;clear hrs hri hr1 hb)
  |(refine Wh.store_new (by rfl) 38 (.tmp 3) (.tmp 22) (by rfl) 38 rfl rs (by rfl) (by rfl) (by rw[HRS.out];rfl) HRI.out HR1.out ?_;rintro V hV hb;replace HB:=Lib.hid (HB.out.trans (hb.mono HCA3.out.big));have HP4:=Lib.hid (HP3.out.below hb);have HCA4:=Lib.hid (HCA3.out.below hb);have k0:V.cell? ⟨w1.heap.size,0,none⟩=some (.string ⟨#[65]⟩):=HP4.out.cell 0;have k1:V.cell? ⟨w1.heap.size,1,none⟩=some (.string ⟨#[120]⟩):=HP4.out.cell 1;have c4:=C4.out _ _ _ HCA4.out HI.out;clear hV hb HRS HRI HR1)
  |(go_at_call 13;refine Calls.mono c4 ?_;rintro e w5 ⟨A5,d5,ss,hrx,rfl,hrs,hri,hr1,_,hb⟩;clear hrx c4 k0 k1;replace HB:=Lib.hid (HB.out.trans (hb.mono HCA4.out.big));have HCA5:=Lib.hid (HCA4.out.below hb);have HSS:=Lib.hid hrs;have HSI:=Lib.hid hri;have HS1:=Lib.hid hr1;clear hrs hri hr1 hb)
  |(refine Wh.store_new (by rfl) 38 (.tmp 5) (.tmp 28) (by rfl) 38 rfl ss (by rfl) (by rfl) (by rw[HSS.out];rfl) HSI.out HS1.out ?_;rintro V2 hV hb;replace HB:=Lib.hid (HB.out.trans (hb.mono HCA5.out.big));have HCA6:=Lib.hid (HCA5.out.below hb);have c5:=C5.out _ _ _ HCA6.out;rw[its_len HI.out] at c5;clear hV hb)
  |(go_at_call 17;refine Calls.mono c5 ?_;rintro e w7 ⟨rfl,hw⟩;have hw:=hw.symm;subst hw;clear c5)
  |fail)
 go_ret
 exact⟨rfl,by rw[←EB.out];exact HB.out⟩
end Go.Proofs.Ytlacoakelliabaa.Ca
end

section
set_option linter.unusedVariables false
set_option linter.unusedSimpArgs false
namespace Go.Proofs.Ytlacoakelliabaa.Rg
open Go.RowKit Go.Proofs.Ytlacoakelliabaa.Mem Go.Proofs.Ytlacoakelliabaa.Se
abbrev p1:Pr:=([65],[120])
end Go.Proofs.Ytlacoakelliabaa.Rg
end

section
set_option linter.unusedVariables false
namespace Go.Proofs.Ytlacoakelliabaa.Rg
open Go.RowKit Go.Proofs.Ytlacoakelliabaa.Mem Go.Proofs.Ytlacoakelliabaa.Se
theorem mapM_each {α β:Type} (g:α→Option β) (h:α→β):∀l:List α,(∀i∈l,g i=some (h i))→l.mapM g=some (l.map h)
 | [],_=>rfl
 |a :: l,hh=>by
  rw[List.mapM_cons,hh a (by simp),mapM_each g h l (fun i hi=>hh i (by simp [hi]))]
  rfl
theorem flatten_one {α β:Type} (g:α→β):∀l:List α,(l.map fun i=>[g i]).flatten=l.map g
 | []=>rfl
 |a :: l=>by rw[List.map_cons,List.flatten_cons,flatten_one g l,List.map_cons];rfl
def klits (f:Nat→UInt8):List Lit:=(List.range 32).map fun i=>Lit.int .u8 ((f i).toNat:Int)
theorem klits_of (f:Nat→UInt8):Try.prog.keyLits 5 36 (key32 f).toList=some (klits f):=by
 have hu26:=Try.underlying36
 have hu5:=Try.underlying5
 have c26:Try.prog.cellsOf 36=32:=by kernel_rfl
 have c5:Try.prog.cellsOf 5=1:=by kernel_rfl
 have one:∀b:UInt8,Try.prog.keyLits 4 5 [bv b]=some [Lit.int .u8 (b.toNat:Int)]:=fun b=>by
  have hw:(Lit.int .u8 (b.toNat:Int)).wf=true:=by
   have:=b.toNat_lt
   simp [Lit.wf,IntKind.min,IntKind.max,IntKind.signed,IntKind.bits]
   omega
  unfold Program.keyLits bv
  simp only[hu5,hw,and_self,if_true]
 unfold Program.keyLits
 simp only[hu26]
 have hl:(key32 f).toList.length=Try.prog.cellsOf 36:=by rw[c26,Array.length_toList,key32_size]
 rw[if_pos hl]
 have hm:=mapM_each (fun i=>Try.prog.keyLits 4 5 (((key32 f).toList.drop (i*Try.prog.cellsOf 5)).take (Try.prog.cellsOf 5))) (fun i=>[Lit.int .u8 ((f i).toNat:Int)]) (List.range 32) (fun i hi=>by
  have h32:i<32:=List.mem_range.1 hi
  have hlt:i<(key32 f).toList.length:=by rw[Array.length_toList,key32_size];exact h32
  rw[c5,Nat.mul_one,List.drop_eq_getElem_cons hlt,List.take_succ_cons,List.take_zero]
  have e:(key32 f).toList[i]=bv (f i):=by simp [key32]
  rw[e]
  exact one (f i))
 rw[hm]
 show some ((List.range 32).map fun i=>[Lit.int .u8 ((f i).toNat:Int)]).flatten=_
 rw[flatten_one];rfl
theorem eql_key_same (f:Nat→UInt8) (w:World):(Op.equalIn 10000 36 (.agg (key32 f)) (.agg (key32 f))).run Try.prog w = .ok true w:=by
 have h:=run_equalIn_deep (P:=Try.prog) 9998 2 36 (by kernel_rfl)
 obtain⟨r,h1,h2⟩:=h w 5 5 (.agg (key32 f)) (.agg (key32 f)) (klits f) (klits f) (by kernel_rfl) (by kernel_rfl) (klits_of f) (klits_of f)
 rw[h1,h2.2 rfl]
theorem exec_load_mid {P:Program} {w':World} {a:Act} {o:Oper} {g off:Nat} {ty:TypeId} {cs:Array Value} {d:TypeDesc} (x:Operand) (ho:o.op = .load ty x) (hx:a.eval x = .pointer (some ⟨g,off,none⟩)) (h:w'.rangeAt g off cs.toList) (hu:P.underlying ty=some d) (hd:d.isRow=true) (hi:(P.info? ty).map (·.size)=some cs.size) :
  (execOp a.eval o).run P w' = .ok (.value (.agg cs)) w':=by
 have:=run_loadVar_mid (P:=P) w' g off ty cs.toList d h hu hd (by simpa using hi)
 simp only[Array.toArray_toList] at this
 unfold execOp
 simp only[ho,hx,Instr.loadAt,Instr.sureAddr,Sem.run_bind,Sem.run_pure,Result.andThen_ok,this]
end Go.Proofs.Ytlacoakelliabaa.Rg
end

section
set_option linter.unusedVariables false
set_option linter.unusedSimpArgs false
namespace Go.Proofs.Ytlacoakelliabaa.Ca
open Go.RowKit Go.Proofs.Ytlacoakelliabaa.Mem Go.Proofs.Ytlacoakelliabaa.Se
open Go.Proofs.Ytlacoakelliabaa.Nm (L)
open Go.Proofs.Ytlacoakelliabaa.Rg (Pr prV pr_info RdR own_rdr own_chg chg_row eql_pr_yes)
abbrev tkC (s:Pr) (n:Int) (b:L) (A:Option Addr) (c:Nat):Array Value:=#[.string ⟨s.1.toArray⟩,.string ⟨s.2.toArray⟩,.int .i64 n,.slice A b.length c]
theorem tk_info:(Try.prog.info? 34).map (·.size)=some 4:=by kernel_rfl
set_option maxHeartbeats 1600000 in
theorem samet_yes (s:Pr) (n:Int) (b:L) (A A2:Option Addr) (c c2 B:Nat) (w:World) (hr:Rd w B A (bvs b)) (hr2:Rd w B A2 (bvs b)) (hB:B≤w.heap.size):Calls Try.prog 27 #[.agg (tkC s n b A c),.agg (tkC s n b A2 c2)] w fun e w'=>e = .returned (.bool true)∧Below w.heap.size w w':=by
 have hb:=((Below.refl w.heap.size w).alloc (Nat.le_refl _) (.cells (tkC s n b A c) 34)).alloc (by simp) (.cells (tkC s n b A2 c2) 34)
 have HB:=Lib.hid hb
 have hcv1:=run_bytes_str (P:=Try.prog) ((w.alloc (.cells (tkC s n b A c) 34)).alloc (.cells (tkC s n b A2 c2) 34)) 32 5 Try.underlying32 Try.underlying5 (hr.below (hb.mono hB)) b.length c rfl 9 Try.underlying9
 have hcv2:=run_bytes_str (P:=Try.prog) ((w.alloc (.cells (tkC s n b A c) 34)).alloc (.cells (tkC s n b A2 c2) 34)) 32 5 Try.underlying32 Try.underlying5 (hr2.below (hb.mono hB)) b.length c2 rfl 9 Try.underlying9
 have t3:(n==n)=true:=by simp
 have t4:(b==b)=true:=by simp
 clear hr hr2 hB hb
 go_enter Try.func27,Try.ntmps27
 go_wp2
 go_ret
 exact⟨rfl,HB.out⟩
set_option maxHeartbeats 1600000 in
theorem samett_yes (s:Pr) (n:Int) (b:L) (A A2:Option Addr) (c c2 B:Nat) (w:World) (hr:Rd w B A (bvs b)) (hr2:Rd w B A2 (bvs b)) (hB:B≤w.heap.size):Calls Try.prog 23 #[.agg (tkC s n b A c),.agg (tkC s n b A2 c2)] w fun e w'=>e = .returned (.bool true)∧Below w.heap.size w w':=by
 have hb:=((Below.refl w.heap.size w).alloc (Nat.le_refl _) (.cells (tkC s n b A c) 34)).alloc (by simp) (.cells (tkC s n b A2 c2) 34)
 have HB:=Lib.hid hb
 have c1:=samet_yes s n b A A2 c c2 B ((w.alloc (.cells (tkC s n b A c) 34)).alloc (.cells (tkC s n b A2 c2) 34)) (hr.below (hb.mono hB)) (hr2.below (hb.mono hB)) (Nat.le_trans hB hb.size)
 clear hr hr2 hB hb
 go_enter Try.func23,Try.ntmps23
 go_wp2_with (first
  |(go_at_call 27;refine Calls.mono c1 ?_;rintro e w1 ⟨rfl,hb⟩;replace HB:=Lib.hid (HB.out.trans (hb.mono HB.out.size));clear c1 hb)
  |fail)
 go_ret
 exact⟨rfl,HB.out⟩
set_option maxHeartbeats 1600000 in
set_option maxRecDepth 100000 in
theorem same_yes (x:Cr) (A A2:Option Addr) (c c2 B:Nat) (w:World) (hr:Rd w B A (bvs x.b)) (hr2:Rd w B A2 (bvs x.b)) (hB:B≤w.heap.size):Calls Try.prog 15 #[.agg (crA x A c),.agg (crA x A2 c2)] w fun e w'=>e = .returned (.bool true)∧Below w.heap.size w w':=by
 have CS:=Lib.hid (fun(w1:World) (h:Below w.heap.size w w1)=>samett_yes x.s x.n x.b A A2 c c2 B w1 (hr.below (h.mono hB)) (hr2.below (h.mono hB)) (Nat.le_trans hB h.size))
 have QK:=Lib.hid (fun w1=>Rg.eql_key_same x.k w1)
 have KI:=Lib.hid (info32 x.k)
 obtain⟨ks,eks⟩:∃ks,ks=key32 x.k:=⟨_,rfl⟩
 rw[←eks] at QK KI
 obtain⟨xs,exs⟩:∃xs,xs=crA x A c:=⟨_,rfl⟩
 obtain⟨ys,eys⟩:∃ys,ys=crA x A2 c2:=⟨_,rfl⟩
 rw[←exs,←eys]
 obtain⟨W,eW⟩:∃W,W=(w.alloc (.cells xs 38)).alloc (.cells ys 38):=⟨_,rfl⟩
 have HB:=Lib.hid (show Below w.heap.size w W from eW▸((Below.refl _ _).alloc (Nat.le_refl _) _).alloc (by simp) _)
 have HX:=Lib.hid (show Blk W w.heap.size 38 (crA x A c) from eW▸exs▸(Blk.new w _ _).alloc _)
 have HY:=Lib.hid (show Blk W (w.heap.size+1) 38 (crA x A2 c2) by have:=Blk.new (w.alloc (.cells xs 38)) 38 ys;simp only[World.size_alloc] at this;rw[eW,←eys];exact this)
 have EKS:=Lib.hid eks
 have t3:(x.e==x.e)=true:=by simp
 clear hr hr2 hB eks exs eys
 go_enter Try.func15,Try.ntmps15
 go_upto_region 1 with fail
 rw[←eW]
 clear eW
 go_wp2_with (first
  |(refine Wh.load_g (by rfl) 34 (.tmp 5) (by rfl) _ 0 (by rfl) (tkC x.s x.n x.b A c) _ (cr_tk (blk_cr HX.out)) Try.underlying34 (by rfl) tk_info ?_)
  |(refine Wh.load_g (by rfl) 34 (.tmp 7) (by rfl) _ 0 (by rfl) (tkC x.s x.n x.b A2 c2) _ (cr_tk (blk_cr HY.out)) Try.underlying34 (by rfl) tk_info ?_)
  |(go_at_call 23;refine Calls.mono (CS.out _ HB.out) ?_;rintro e w1 ⟨rfl,hb⟩;replace HB:=Lib.hid (HB.out.trans (hb.mono HB.out.size));replace HX:=Lib.hid (HX.out.below hb);replace HY:=Lib.hid (HY.out.below hb);have kx:w1.cell? ⟨w.heap.size,36,none⟩=some (.int .i64 x.e):=cr_end (o:=0) (blk_cr HX.out);have ky:w1.cell? ⟨w.heap.size+1,36,none⟩=some (.int .i64 x.e):=cr_end (o:=0) (blk_cr HY.out);have qk:=QK.out;clear hb)
  |(refine Wh.load_g (by rfl) 36 (.tmp 11) (by rfl) _ 4 (by rfl) ks _ (by rw[EKS.out];exact cr_k (o:=0) (blk_cr HX.out)) Try.underlying36 (by rfl) KI.out ?_)
  |(refine Wh.load_g (by rfl) 36 (.tmp 13) (by rfl) _ 4 (by rfl) ks _ (by rw[EKS.out];exact cr_k (o:=0) (blk_cr HY.out)) Try.underlying36 (by rfl) KI.out ?_)
  |fail)
 go_ret
 exact⟨rfl,HB.out⟩
end Go.Proofs.Ytlacoakelliabaa.Ca
end
