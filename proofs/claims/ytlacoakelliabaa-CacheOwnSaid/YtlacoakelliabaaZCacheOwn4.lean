/-
  The statement of CacheOwn: the walk's contract carried to the row: for every input the call answers true, and each argument reads as it did.
-/
import Derived.Deep.RegionHeld3
import Derived.StillTailTactics
import Derived.Deep.CutBlock
import Derived.Test.YtlacoakelliabaaProg
import Derived.Deep.LoopGhost
import Derived.Test.YtlacoakelliabaaRows
import Derived.WalkKit
import Derived.ProofKit
import Derived.OpenShut
import Derived.ShutString
import Derived.ChangeOld
import Derived.Below
import Derived.SizedLaws
import Derived.Test.YtlacoakelliabaaZCacheOwn1
import Derived.Test.YtlacoakelliabaaZCacheOwn2
import Derived.Test.YtlacoakelliabaaZCacheOwn3
section
set_option linter.unusedVariables false
set_option linter.unusedSimpArgs false
namespace Go.Proofs.Ytlacoakelliabaa.Ca
open Go.RowKit Go.Proofs.Ytlacoakelliabaa.Mem Go.Proofs.Ytlacoakelliabaa.Se
open Go.Proofs.Ytlacoakelliabaa.Nm (L)
open Go.Proofs.Ytlacoakelliabaa.Rg (Pr prV pr_info RdR own_rdr own_chg chg_row eql_pr_yes eql_pr_no)
theorem results_pair {P:Program} {fn:Func} {tmps:Array Value} {w:World} {v u:Value} (t q:Nat) (ty:TypeId) (a:Addr) (hres:fn.results=#[.cell t ty,.tmp q]) (ht:tmps.getD t undef = .pointer (some a)) (hl:(loadVar ty a).run P w = .ok v w) (hq:tmps.getD q undef=u) :
  (results fn tmps).run P w = .ok (.tuple #[v,u]) w:=by
 have ht':tmps[t]?.getD undef = .pointer (some a):=by simpa using ht
 have hq':tmps[q]?.getD undef=u:=by simpa using hq
 simp [results,hres,ht',hq',asAddr,hl]
theorem ca_new (B:Nat) (w:World) (hB:B≤w.heap.size):Calls Try.prog 10 #[] w fun e w'=>e = .returned (.pointer (some ⟨w.heap.size,0,none⟩))∧Ca w' B w.heap.size (.slice none 0 0) []∧Below w.heap.size w w'∧w'.heap.size=w.heap.size+1:=by
 have h1:Ca (w.alloc (.cells #[.slice none 0 0] 57)) B w.heap.size (.slice none 0 0) []:=
  ⟨Blk.new _ _ _,World.ownsRow_nil _ _ _ _,hB,(fun h=>by cases h),(fun e he=>by cases he),(fun e he=>by cases he)⟩
 have H1:=Lib.hid h1
 have H2:=Lib.hid ((Below.refl w.heap.size w).alloc (Nat.le_refl _) (.cells #[.slice none 0 0] 57))
 clear h1
 go_enter Try.func10,Try.ntmps10
 go_wp2
 go_ret
 exact⟨rfl,H1.out,H2.out,by simp⟩
theorem ca_len (B r:Nat) (v:Value) (es:List En) (w:World) (h:Ca w B r v es):Calls Try.prog 17 #[.pointer (some ⟨r,0,none⟩)] w fun e w'=>e = .returned (.int .i64 (es.length:Int))∧w'=w:=by
 obtain⟨A,c,rfl,_⟩:=h.num
 obtain⟨n,en⟩:∃n,n=es.length:=⟨_,rfl⟩
 have hb0:=h.blk
 rw[←en] at hb0⊢
 have k0:w.cell? ⟨r,0,none⟩=some (.slice A n c):=hb0.cell 0
 clear h hb0 en
 go_enter Try.func17,Try.ntmps17
 go_wp2
 go_ret
 exact⟨rfl,rfl⟩
def Fit (x:Cr):Prop:=x.s.1.length≤140737488351232∧x.s.2.length≤140737488351232∧x.b.length≤100000000000
def Fits (l:List It):Prop:=∀i∈l,Fit i.2
def getX:Option It→Cr
 |none=>zeroX
 |some i=>i.2
theorem getO_hit {l:List It} {p:Pr} {t:Int} {i:Nat} {x:It} (hx:l[i]? = some x) (hh:hitG p t x=true) (hn:∀j y,j<i→l[j]? = some y→hitG p t y=false):getO l p t=some x:=by
 obtain⟨h1,h2⟩:=List.getElem?_eq_some_iff.1 hx
 unfold getO
 rw[List.find?_eq_some_iff_getElem]
 refine⟨hh,i,h1,h2,fun j hj=>?_⟩
 have:=hn j _ hj (List.getElem?_eq_getElem (by omega))
 simp [this]
theorem getO_none {l:List It} {p:Pr} {t:Int} (hn:∀j y,j<l.length→l[j]? = some y→hitG p t y=false):getO l p t=none:=by
 unfold getO
 rw[List.find?_eq_none]
 intro x hx
 obtain⟨j,hj1,hj2⟩:=List.getElem_of_mem hx
 have:=hn j x hj1 (by rw[←hj2];exact List.getElem?_eq_getElem hj1)
 simp [this]
theorem its_of {es:List En} {i:Nat} {x:It} (h:(its es)[i]? = some x):∃e,es[i]? = some e∧e.it=x:=by simpa [its] using h
theorem its_at {es:List En} {i:Nat} {e:En} (h:es[i]? = some e):(its es)[i]? = some e.it:=by simp [its,h]
set_option maxHeartbeats 3200000 in
set_option maxRecDepth 100000 in
theorem get_any (B r:Nat) (v:Value) (es:List En) (p:Pr) (t:Int) (w:World) (h:Ca w B r v es) (hf:Fits (its es)) (hl:es.length≤1000) :
  Calls Try.prog 13 #[.pointer (some ⟨r,0,none⟩),prV p,.int .i64 t] w fun e w'=>∃A c,e = .returned (.tuple #[.agg (crA (getX (getO (its es) p t)) A c),.bool (getO (its es) p t).isSome])∧Own1 w w' A (bvs (getX (getO (its es) p t)).b)∧Below w.heap.size w w':=by
 obtain⟨o,eo⟩:∃o,o=getO (its es) p t:=⟨_,rfl⟩
 rw[←eo]
 have EO:=Lib.hid eo
 obtain⟨A0,c0,rfl,_,_,hr⟩:=h.num
 have hb0:=h.blk
 obtain⟨n,en⟩:∃n,n=es.length:=⟨_,rfl⟩
 have EN:=Lib.hid en
 rw[←en] at hb0 hl
 have CX:=Lib.hid (fun(x:En) (hx:x∈es) (w1:World) (hb:Below w.heap.size w w1)=>have q:=hf x.it (List.mem_map.2 ⟨x,hx,rfl⟩);ccr_any x.x x.A x.c w1.heap.size w1 (((h.rd x hx).below hb).more hb.size) (Nat.le_refl _) q.1 q.2.1 q.2.2)
 have HR:=Lib.hid hr
 have hrl:=h.lt
 obtain⟨zs,ezs⟩:∃zs,zs=crA zeroX none 0:=⟨_,rfl⟩
 have EZS:=Lib.hid ezs
 have EZ2:=Lib.hid (ezs.trans zero_cr)
 have HZS:=Lib.hid (show zs.size=37 by rw[ezs,crA_size])
 have HZI:=Lib.hid (show(Try.prog.info? 38).map (·.size)=some zs.size by rw[ezs,crA_size];exact cr_info)
 have HZ1:=Lib.hid (show zs.all (·.oneCell')=true by rw[ezs];exact crA_one _ _ _)
 obtain⟨W,eW⟩:∃W,W=(w.alloc (.cells #[.string ⟨p.1.toArray⟩,.string ⟨p.2.toArray⟩] 31)).alloc (.cells zs 38):=⟨_,rfl⟩
 have hb:Below w.heap.size w W:=eW▸((Below.refl _ _).alloc (Nat.le_refl _) _).alloc (by simp) _
 have HP:=Lib.hid (show Blk W w.heap.size 31 #[.string ⟨p.1.toArray⟩,.string ⟨p.2.toArray⟩] from eW▸(Blk.new w _ _).alloc _)
 have HZ:=Lib.hid (show Blk W (w.heap.size+1) 38 zs by have:=Blk.new (w.alloc (.cells #[.string ⟨p.1.toArray⟩,.string ⟨p.2.toArray⟩] 31)) 38 zs;simp only[World.size_alloc] at this;exact eW▸this)
 have HB:=Lib.hid hb
 have k0:W.cell? ⟨r,0,none⟩=some (.slice A0 n c0):=(hb.cell (p:=⟨r,0,none⟩) hrl).trans (hb0.cell 0)
 clear h hf hb hb0 hr eo en ezs hrl
 go_enter Try.func13,Try.ntmps13
 go_upto_region 1 with fail
 rw[←EZ2.out,←eW]
 clear eW EZ2
 go_wp2
 go_loopw [18] (fun iv wr=>∃i:Nat,i≤n∧iv = .int .i64 (i:Int)∧Below w.heap.size w wr∧Blk wr w.heap.size 31 #[.string ⟨p.1.toArray⟩,.string ⟨p.2.toArray⟩]∧Blk wr (w.heap.size+1) 38 zs∧∀j x,j<i→es[j]? = some x→hitG p t x.it=false) (fun iv _=>n - (intOf iv).toNat)
 case atStart=>exact⟨0,Nat.zero_le _,rfl,HB.out,HP.out,HZ.out,fun j x hj=>absurd hj (Nat.not_lt_zero _)⟩
 case round=>
  clear HB HP HZ k0
  obtain⟨i,hi,rfl,hb,hp,hz,hno⟩:=hrel
  have HB:=Lib.hid hb;have HP:=Lib.hid hp;have HZ:=Lib.hid hz;have HNO:=Lib.hid hno
  have HRR:=Lib.hid (HR.out.keep hb)
  clear hb hp hz hno
  by_cases hlt:i<n
  ·have e1:(i:Int)<(n:Int):=by omega
   have e2:(0:Int)≤(i:Int):=by omega
   obtain⟨x,hx⟩:∃x,es[i]? = some x:=⟨es[i]'(by rw[←EN.out];exact hlt),List.getElem?_eq_getElem _⟩
   obtain⟨g,rfl,hgN,hra⟩:=HRR.out.at_ hx
   rw[←enA_toList] at hra
   have HRA:=Lib.hid hra
   have his:=en_info
   rw[←enA_size x] at his
   have HIS:=Lib.hid his
   have H1X:=Lib.hid (enA_one x)
   have HX:=Lib.hid hx
   have HM:=Lib.hid (List.mem_of_getElem? hx)
   have CC:=Lib.hid (CX.out x HM.out)
   obtain⟨xs,exs⟩:∃xs,xs=crA x.x x.A x.c:=⟨_,rfl⟩
   rw[←exs] at CC
   have HXI:=Lib.hid (show(Try.prog.info? 38).map (·.size)=some xs.size by rw[exs,crA_size];exact cr_info)
   have EXS:=Lib.hid exs
   obtain⟨ds,eds⟩:∃ds,ds=enA x:=⟨_,rfl⟩
   rw[←eds] at HRA HIS H1X
   have EDS:=Lib.hid eds
   have HDS:=Lib.hid (show #[Value.string ⟨#[]⟩].size=1 from rfl)
   clear hra his hx eds exs
   have hhit:hitG p t x.it=(decide (x.p=p)&&decide (t≤x.x.e)):=rfl
   have HHIT:=Lib.hid hhit
   clear hhit
   by_cases hq:x.p=p
   ·have t1:=eql_pr_yes hq
    rw[decide_eq_true hq] at HHIT
    clear hq
    by_cases ht:t≤x.x.e
    ·have t2:decide (t≤x.x.e)=true:=decide_eq_true ht
     rw[t2] at HHIT
     clear ht
     go_wp2_with (first
      |(refine Wh.load_g (by rfl) 60 (.tmp 20) (by rfl) g _ (by rfl) ds _ HRA.out Try.underlying60 (by rfl) HIS.out ?_)
      |(refine Wh.store_new (by rfl) 60 (.tmp 9) (.tmp 21) (by rfl) 60 rfl ds (by rfl) (by rfl) (by rw[EDS.out,enA_size];rfl) HIS.out H1X.out ?_;rintro V hV hb;replace HB:=Lib.hid (HB.out.trans (hb.mono HB.out.size));replace HP:=Lib.hid (HP.out.below hb);replace HZ:=Lib.hid (HZ.out.below hb);have hen:=blk_en (EDS.out▸hV);have HEN:=Lib.hid hen;have HPR:=Lib.hid (Wh.range_blk HP.out);have ke:V.cell? ⟨wr.heap.size,38,none⟩=some (.int .i64 x.x.e):=en_end (o:=0) hen;have HCRED:=Lib.hid (en_cr hen);clear hV hb hen)
      |(refine Wh.load_g (by rfl) 31 (.tmp 22) (by rfl) _ 0 (by rfl) _ _ (en_pr HEN.out) Try.underlying31 (by rfl) pr_info ?_)
      |(refine Wh.load_g (by rfl) 31 (.tmp 4) (by rfl) _ 0 (by rfl) _ _ HPR.out Try.underlying31 (by rfl) pr_info ?_)
      |(refine Wh.load_g (by rfl) 38 (.tmp 33) (by rfl) _ 2 (by rfl) xs _ (by rw[EXS.out,crA_toList];exact HCRED.out) Try.underlying38 (by rfl) HXI.out ?_)
      |(go_at_call 22;refine Calls.mono (CC.out _ HB.out) ?_;rintro e w2 ⟨A',c',rfl,ho,hb⟩;have HNE:=Lib.hid (show ∀p,A'=some p→p.block≠w.heap.size+1 from fun p hp=>by have:=HZ.out.lt;have:=(ho.2 p hp).1;omega);replace HZ:=Lib.hid (HZ.out.below hb);have HO:=Lib.hid (ho.since HB.out.size);replace HB:=Lib.hid (HB.out.trans (hb.mono HB.out.size));obtain⟨rs,ers⟩:∃rs,rs=crA x.x A' c':=⟨_,rfl⟩;rw[←ers];have ERS:=Lib.hid ers;have HRS:=Lib.hid (show rs.size=37 by rw[ers,crA_size]);have HRI:=Lib.hid (show(Try.prog.info? 38).map (·.size)=some rs.size by rw[ers,crA_size];exact cr_info);have HR1:=Lib.hid (show rs.all (·.oneCell')=true by rw[ers];exact crA_one _ _ _);clear ho hb ers ke)
      |(refine Wh.store_over (by rfl) 38 (.tmp 6) (.tmp 35) (by rfl) (w.heap.size+1) 38 _ HZ.out rs (by rfl) (by rfl) (by rw[HZS.out,HRS.out]) HRI.out HR1.out ?_;rintro V2 hV2 hg;have HV:=Lib.hid hV2;replace HB:=Lib.hid (btg HB.out hg (by omega));replace HO:=Lib.hid (HO.out.chg (Chg.of_grown (S:=fun k=>k=w.heap.size+1) hg rfl) (fun p hp=>HNE.out p hp));clear hV2 hg)
      |fail)
     have ho:o=some x.it:=by
      rw[EO.out]
      refine getO_hit (its_at HX.out) (HHIT.out.trans rfl) (fun j y hj hy=>?_)
      obtain⟨e,he,rfl⟩:=its_of hy
      exact HNO.out j e hj he
     clear EO
     subst ho
     refine bodyPost_ret (v:=.tuple #[.agg rs,.bool true]) ?_ ?_ ?_
     ·exact results_pair 6 7 38 ⟨w.heap.size+1,0,none⟩ Try.results13 (by rfl) (Wh.load_blk HV.out Try.underlying38 (by rfl) HRI.out) (by rfl)
     ·rfl
     ·exact⟨A',c',by rw[ERS.out];rfl,HO.out,HB.out⟩
    ·have t2:decide (t≤x.x.e)=false:=decide_eq_false ht
     rw[t2] at HHIT
     clear ht
     go_wp2_with (first
      |(refine Wh.load_g (by rfl) 60 (.tmp 20) (by rfl) g _ (by rfl) ds _ HRA.out Try.underlying60 (by rfl) HIS.out ?_)
      |(refine Wh.store_new (by rfl) 60 (.tmp 9) (.tmp 21) (by rfl) 60 rfl ds (by rfl) (by rfl) (by rw[EDS.out,enA_size];rfl) HIS.out H1X.out ?_;rintro V hV hb;replace HB:=Lib.hid (HB.out.trans (hb.mono HB.out.size));replace HP:=Lib.hid (HP.out.below hb);replace HZ:=Lib.hid (HZ.out.below hb);have hen:=blk_en (EDS.out▸hV);have HEN:=Lib.hid hen;have HPR:=Lib.hid (Wh.range_blk HP.out);have ke:V.cell? ⟨wr.heap.size,38,none⟩=some (.int .i64 x.x.e):=en_end (o:=0) hen;have HCRED:=Lib.hid (en_cr hen);clear hV hb hen)
      |(refine Wh.load_g (by rfl) 31 (.tmp 22) (by rfl) _ 0 (by rfl) _ _ (en_pr HEN.out) Try.underlying31 (by rfl) pr_info ?_)
      |(refine Wh.load_g (by rfl) 31 (.tmp 4) (by rfl) _ 0 (by rfl) _ _ HPR.out Try.underlying31 (by rfl) pr_info ?_)
      |fail)
     go_roundw
     case rel=>exact⟨i+1,by omega,by go_num,HB.out,HP.out,HZ.out,fun j y hj hy=>by
      rcases Nat.lt_or_eq_of_le (Nat.le_of_lt_succ hj) with g | g
      ·exact HNO.out j y g hy
      ·rw[g,HX.out] at hy
       injection hy with hy
       rw[←hy]
       exact HHIT.out.trans rfl⟩
     case measure=>simp [intOf];omega
   ·have t1:=eql_pr_no hq
    rw[decide_eq_false hq] at HHIT
    clear hq
    go_wp2_with (first
     |(refine Wh.load_g (by rfl) 60 (.tmp 20) (by rfl) g _ (by rfl) ds _ HRA.out Try.underlying60 (by rfl) HIS.out ?_)
     |(refine Wh.store_new (by rfl) 60 (.tmp 9) (.tmp 21) (by rfl) 60 rfl ds (by rfl) (by rfl) (by rw[EDS.out,enA_size];rfl) HIS.out H1X.out ?_;rintro V hV hb;replace HB:=Lib.hid (HB.out.trans (hb.mono HB.out.size));replace HP:=Lib.hid (HP.out.below hb);replace HZ:=Lib.hid (HZ.out.below hb);have hen:=blk_en (EDS.out▸hV);have HEN:=Lib.hid hen;have HPR:=Lib.hid (Wh.range_blk HP.out);have ke:V.cell? ⟨wr.heap.size,38,none⟩=some (.int .i64 x.x.e):=en_end (o:=0) hen;have HCRED:=Lib.hid (en_cr hen);clear hV hb hen)
     |(refine Wh.load_g (by rfl) 31 (.tmp 22) (by rfl) _ 0 (by rfl) _ _ (en_pr HEN.out) Try.underlying31 (by rfl) pr_info ?_)
     |(refine Wh.load_g (by rfl) 31 (.tmp 4) (by rfl) _ 0 (by rfl) _ _ HPR.out Try.underlying31 (by rfl) pr_info ?_)
     |fail)
    go_roundw
    case rel=>exact⟨i+1,by omega,by go_num,HB.out,HP.out,HZ.out,fun j y hj hy=>by
     rcases Nat.lt_or_eq_of_le (Nat.le_of_lt_succ hj) with g | g
     ·exact HNO.out j y g hy
     ·rw[g,HX.out] at hy
      injection hy with hy
      rw[←hy]
      exact HHIT.out.trans rfl⟩
    case measure=>simp [intOf];omega
  ·have e1:¬(i:Int)<(n:Int):=by omega
   obtain rfl:n=i:=by omega
   have ho:o=none:=by
    rw[EO.out]
    refine getO_none (fun j y hj hy=>?_)
    rw[its_length,←EN.out] at hj
    obtain⟨e,he,rfl⟩:=its_of hy
    exact HNO.out j e hj he
   clear EO
   subst ho
   go_wp2_with (first
    |(refine Wh.store_over (by rfl) 38 (.tmp 6) (.tmp 37) (by rfl) (w.heap.size+1) 38 zs HZ.out (crA zeroX none 0) (by rfl) (by rfl) (by rw[HZS.out,crA_size]) (by rw[crA_size];exact cr_info) (crA_one _ _ _) ?_;rintro V2 hV2 hg;have HV:=Lib.hid hV2;replace HB:=Lib.hid (btg HB.out hg (by omega));clear hV2 hg)
    |fail)
   refine bodyPost_ret (v:=.tuple #[.agg (crA zeroX none 0),.bool false]) ?_ ?_ ?_
   ·exact results_pair 6 7 38 ⟨w.heap.size+1,0,none⟩ Try.results13 (by rfl) (Wh.load_blk HV.out Try.underlying38 (by rfl) (by rw[crA_size];exact cr_info)) (by rfl)
   ·rfl
   ·first
    |exact⟨none,⟨0,rfl⟩,Own1.none _ _,HB.out⟩
    |exact⟨none,0,rfl,Own1.none _ _,HB.out⟩
end Go.Proofs.Ytlacoakelliabaa.Ca
end

section
set_option linter.unusedVariables false
set_option linter.unusedSimpArgs false
namespace Go.Proofs.Ytlacoakelliabaa.Ca
open Go.RowKit Go.Proofs.Ytlacoakelliabaa.Mem Go.Proofs.Ytlacoakelliabaa.Se
open Go.Proofs.Ytlacoakelliabaa.Nm (L)
open Go.Proofs.Ytlacoakelliabaa.Rg (Pr prV pr_info RdR own_rdr own_chg chg_row)
section
variable {a w w':World} {B r g:Nat} {v v':Value} {es es':List En} {t:TypeId} {cs:Array Value}
theorem blk_ca (h:Blk w g t cs) (hn:¬CO r v es g) (hc:Chg (PT r v) w w'):Blk w' g t cs:=hc.blk h (fun x=>hn (pt_co x))
theorem not_ca (hg:g<w.heap.size) (hn:¬CO r v es g) (hw:∀q,CO r v' es' q→CO r v es q∨w.heap.size≤q):¬CO r v' es' g:=fun x=>by
 rcases hw g x with h | h
 ·exact hn h
 ·omega
theorem ca_below (h:Below B a w) (hr:Ca w B r v es) (hc:Chg (PT r v) w w'):Below B a w':=h.trans (hc.below hr.big (fun i _ hx=>hr.own_lo (pt_co hx)))
theorem old_co (h:Ca w B r v es) (hg:w.heap.size≤g):¬CO r v es g:=fun x=>by have:=h.own_lt x;omega
end
abbrev xE (e:Int):Cr:=⟨([],[]),0,[],zeroK,e⟩
theorem xE_lit (e:Int):crA (xE e) none 0=#[.string ⟨#[]⟩,.string ⟨#[]⟩,.int .i64 0,.slice none 0 0,.int .u8 0,.int .u8 0,.int .u8 0,.int .u8 0,.int .u8 0,.int .u8 0,.int .u8 0,.int .u8 0,.int .u8 0,.int .u8 0,.int .u8 0,.int .u8 0,.int .u8 0,.int .u8 0,.int .u8 0,.int .u8 0,.int .u8 0,.int .u8 0,.int .u8 0,.int .u8 0,.int .u8 0,.int .u8 0,.int .u8 0,.int .u8 0,.int .u8 0,.int .u8 0,.int .u8 0,.int .u8 0,.int .u8 0,.int .u8 0,.int .u8 0,.int .u8 0,.int .i64 e]:=by rfl
theorem fit_e (e:Int):Fit (xE e):=⟨by simp,by simp,by simp⟩
theorem fits_one {p:Pr} {x:Cr} (h:Fit x):Fits [(p,x)]:=fun i hi=>by rw[List.mem_singleton] at hi;subst hi;exact h
theorem get_one (p:Pr) (x:Cr) (t:Int):getO [(p,x)] p t=if t≤x.e then some (p,x) else none:=by
 unfold getO
 by_cases h:t≤x.e
 ·rw[if_pos h,List.find?_cons_of_pos (by simp [hitG,h])]
 ·rw[if_neg h,List.find?_cons_of_neg (by simp [hitG,h])];rfl
theorem put_one (p:Pr) (x:Cr) (t:Int):putL [] p x t = [(p,x)]:=rfl
def GotP (w:World) (o:Option It) (e:Ending) (w':World):Prop:=
 ∃A c rs,rs=crA (getX o) A c∧e = .returned (.tuple #[.agg rs,.bool o.isSome])∧rs.size=37∧(Try.prog.info? 38).map (·.size)=some rs.size∧rs.all (·.oneCell')=true∧Own1 w w' A (bvs (getX o).b)∧Below w.heap.size w w'
theorem get_b {B r:Nat} {v:Value} {es:List En} {w:World} (p:Pr) (t:Int) (h:Ca w B r v es) (hf:Fits (its es)) (hl:es.length≤1000) {o:Option It} (ho:getO (its es) p t=o) :
  Calls Try.prog 13 #[.pointer (some ⟨r,0,none⟩),prV p,.int .i64 t] w (GotP w o):=by
 refine(get_any B r v es p t w h hf hl).mono ?_
 rintro e w' ⟨A,c,rfl,h1,h2⟩
 rw[ho] at h1⊢
 exact⟨A,c,_,rfl,rfl,crA_size _ _ _,by rw[crA_size];exact cr_info,crA_one _ _ _,h1,h2⟩
def PutP (w:World) (B r:Nat) (v:Value) (es:List En) (l:List It) (z:Nat) (e:Ending) (w':World):Prop:=
 e = .returned (.int .i64 (z:Int))∧∃v' es',Ca w' B r v' es'∧its es'=l∧Chg (PT r v) w w'∧(∀q,CO r v' es' q→CO r v es q∨w.heap.size≤q)
theorem put_b {B r:Nat} {v:Value} {es:List En} {w:World} (p:Pr) (x:Cr) (A:Option Addr) (c:Nat) (t:Int) (h:Ca w B r v es) (hx:Rd w w.heap.size A (bvs x.b)) (hxo:∀a,A=some a→x.b≠[]→¬CO r v es a.block) (h1:p.1.length≤140737488351232) (h2:p.2.length≤140737488351232) (hf:Fit x)
  (hl:es.length≤1000) {l:List It} {z:Nat} (el:putL (its es) p x t=l) (ez:putE (its es) p t=z) :
  Calls Try.prog 11 #[.pointer (some ⟨r,0,none⟩),prV p,.agg (crA x A c),.int .i64 t] w (PutP w B r v es l z):=by
 have hxp:∀w',Chg (PT r v) w w'→Rd w' w'.heap.size A (bvs x.b):=fun w' hc=>by
  by_cases hn:x.b = []
  ·rw[hn];exact .inl rfl
  ·exact rd_chg hx hc (fun a ha q=>hxo a ha hn (pt_co q))
 refine(put_any B r v es p x A c t w h hxp h1 h2 hf.1 hf.2.1 hf.2.2 hl).mono ?_
 rintro e w' ⟨rfl,v',es',k1,k2,k3,k4⟩
 rw[el] at k2
 rw[ez]
 exact⟨rfl,v',es',k1,k2,k3,k4⟩
theorem its_len {es:List En} {l:List It} (h:its es=l):es.length=l.length:=by rw[←h,its_length]
abbrev p1:Pr:=([65],[120])
set_option maxRecDepth 100000 in
set_option maxHeartbeats 3200000 in
theorem cknown_any (w:World):Calls Try.prog 18 #[] w fun e w'=>e = .returned (.bool true)∧Below w.heap.size w w':=by
 obtain⟨B,eB⟩:∃B,B=w.heap.size:=⟨_,rfl⟩
 have c1:=ca_new B w (Nat.le_of_eq eB)
 rw[←eB] at c1
 have C2:=Lib.hid (fun(w1:World) (h:Ca w1 B B (.slice none 0 0) [])=>put_b p1 (xE 5) none 0 0 h (.inl rfl) (fun a ha=>by cases ha) (by decide) (by decide) (fit_e 5) (by decide) (put_one p1 (xE 5) 0) (show putE [] p1 0=0 from rfl))
 have C3:=Lib.hid (fun(w1:World) (v:Value) (es:List En) (h:Ca w1 B B v es) (hi:its es = [(p1,xE 5)])=>get_b p1 5 h (by rw[hi];exact fits_one (fit_e 5)) (by rw[its_len hi];decide) (show getO (its es) p1 5=some (p1,xE 5) by rw[hi,get_one];rfl))
 have C4:=Lib.hid (fun(w1:World) (v:Value) (es:List En) (h:Ca w1 B B v es) (hi:its es = [(p1,xE 5)])=>get_b p1 6 h (by rw[hi];exact fits_one (fit_e 5)) (by rw[its_len hi];decide) (show getO (its es) p1 6=none by rw[hi,get_one];rfl))
 have C5:=Lib.hid (fun(w1:World) (v:Value) (es:List En) (h:Ca w1 B B v es)=>ca_len B B v es w1 h)
 simp only[xE_lit] at C2
 have EB:=Lib.hid eB
 have HB:=Lib.hid (show Below B w w from eB▸Below.refl _ _)
 clear eB
 go_enter Try.func18,Try.ntmps18
 go_wp2_with (first
  |(go_at_call 10;refine Calls.mono c1 ?_;rintro e w1 ⟨rfl,hca,hb,hsz⟩;clear c1;have hal:=(Below.refl w1.heap.size w1).alloc (Nat.le_refl _) (.cells #[.string ⟨#[65]⟩,.string ⟨#[120]⟩] 31);have HCA:=Lib.hid (hca.below hal);have HP:=Lib.hid (Blk.new w1 31 #[.string ⟨#[65]⟩,.string ⟨#[120]⟩]);have HNP:=Lib.hid (old_co hca (Nat.le_refl _));replace HB:=Lib.hid ((hb.trans (hal.mono (Nat.le_trans (Nat.le_of_eq EB.out) hb.size)):Below B w _));have c2:=C2.out _ HCA.out;clear hb hca hal hsz)
  |(go_at_call 11;refine Calls.mono c2 ?_;rintro e w2 ⟨rfl,v2,es2,hca,hi,hc,hnw⟩;clear c2;replace HB:=Lib.hid (ca_below HB.out HCA.out hc);have HP2:=Lib.hid (blk_ca HP.out HNP.out hc);have HCA2:=Lib.hid hca;have HI:=Lib.hid hi;have k0:w2.cell? ⟨w1.heap.size,0,none⟩=some (.string ⟨#[65]⟩):=HP2.out.cell 0;have k1:w2.cell? ⟨w1.heap.size,1,none⟩=some (.string ⟨#[120]⟩):=HP2.out.cell 1;have c3:=C3.out _ _ _ HCA2.out HI.out;clear hca hi hc hnw)
  |(go_at_call 13;refine Calls.mono c3 ?_;rintro e w3 ⟨A3,d3,rs,hrx,rfl,hrs,hri,hr1,_,hb⟩;clear hrx c3 k0 k1;replace HB:=Lib.hid (HB.out.trans (hb.mono HCA2.out.big));have HP3:=Lib.hid (HP2.out.below hb);have HCA3:=Lib.hid (HCA2.out.below hb);have HRS:=Lib.hid hrs;have HRI:=Lib.hid hri;have HR1:=Lib.hid hr1;clear hrs hri hr1 hb)
  |(refine Wh.store_new (by rfl) 38 (.tmp 3) (.tmp 22) (by rfl) 38 rfl rs (by rfl) (by rfl) (by rw[HRS.out];rfl) HRI.out HR1.out ?_;rintro V hV hb;replace HB:=Lib.hid (HB.out.trans (hb.mono HCA3.out.big));have HP4:=Lib.hid (HP3.out.below hb);have HCA4:=Lib.hid (HCA3.out.below hb);have k0:V.cell? ⟨w1.heap.size,0,none⟩=some (.string ⟨#[65]⟩):=HP4.out.cell 0;have k1:V.cell? ⟨w1.heap.size,1,none⟩=some (.string ⟨#[120]⟩):=HP4.out.cell 1;have c4:=C4.out _ _ _ HCA4.out HI.out;clear hV hb HRS HRI HR1)
  |(go_at_call 13;refine Calls.mono c4 ?_;rintro e w5 ⟨A5,d5,ss,hrx,rfl,hrs,hri,hr1,_,hb⟩;clear hrx c4 k0 k1;replace HB:=Lib.hid (HB.out.trans (hb.mono HCA4.out.big));have HCA5:=Lib.hid (HCA4.out.below hb);have HSS:=Lib.hid hrs;have HSI:=Lib.hid hri;have HS1:=Lib.hid hr1;clear hrs hri hr1 hb)
  |(refine Wh.store_new (by rfl) 38 (.tmp 5) (.tmp 28) (by rfl) 38 rfl ss (by rfl) (by rfl) (by rw[HSS.out];rfl) HSI.out HS1.out ?_;rintro V2 hV hb;replace HB:=Lib.hid (HB.out.trans (hb.mono HCA5.out.big));have HCA6:=Lib.hid (HCA5.out.below hb);have c5:=C5.out _ _ _ HCA6.out;rw[its_len HI.out] at c5;clear hV hb)
  |(go_at_call 17;refine Calls.mono c5 ?_;rintro e w7 ⟨rfl,hw⟩;have hw:=hw.symm;subst hw;clear c5)
  |fail)
 go_ret
 exact⟨rfl,by rw[←EB.out];exact HB.out⟩
end Go.Proofs.Ytlacoakelliabaa.Ca
end

section
set_option linter.unusedVariables false
set_option linter.unusedSimpArgs false
namespace Go.Proofs.Ytlacoakelliabaa.Ca
open Go.RowKit Go.Proofs.Ytlacoakelliabaa.Mem Go.Proofs.Ytlacoakelliabaa.Se
open Go.Proofs.Ytlacoakelliabaa.Nm (L)
open Go.Proofs.Ytlacoakelliabaa.Rg (Pr prV pr_info RdR own_rdr own_chg chg_row)
abbrev xO (l:L):Cr:=⟨p1,1,l,zeroK,9⟩
theorem xO_lit (l:L) (A:Option Addr) (c:Nat):crA (xO l) A c=#[.string ⟨#[65]⟩,.string ⟨#[120]⟩,.int .i64 1,.slice A l.length c,.int .u8 0,.int .u8 0,.int .u8 0,.int .u8 0,.int .u8 0,.int .u8 0,.int .u8 0,.int .u8 0,.int .u8 0,.int .u8 0,.int .u8 0,.int .u8 0,.int .u8 0,.int .u8 0,.int .u8 0,.int .u8 0,.int .u8 0,.int .u8 0,.int .u8 0,.int .u8 0,.int .u8 0,.int .u8 0,.int .u8 0,.int .u8 0,.int .u8 0,.int .u8 0,.int .u8 0,.int .u8 0,.int .u8 0,.int .u8 0,.int .u8 0,.int .u8 0,.int .i64 9]:=by rfl
theorem fit_o {l:L} (h:l.length≤500):Fit (xO l):=⟨by simp,by simp,by show l.length≤_;omega⟩
theorem own_first {a w:World} {A:Option Addr} {l:L} (h:Own1 a w A (bvs l)) (hl:1≤l.length):∃g o,A=some ⟨g,o,none⟩∧w.cell? ⟨g,o,none⟩=some (.int .u8 ((l[0]'hl).toNat:Int))∧w.frozen? ⟨g,o,none⟩=false∧a.heap.size≤g∧g<w.heap.size:=by
 obtain⟨g,o,rfl,h2,h3⟩:=h.1.at_ (i:=0) (u:=bv (l[0]'hl)) (bvs_at hl)
 obtain⟨t,cur,hb⟩:=h.3 _ rfl
 have:=h.2 _ rfl
 exact⟨g,o,rfl,h3,hb.frozen o,this.1,this.2⟩
theorem set_named {w:World} {p:Addr} {Q:World→Prop} (q:Value) (h:∀W,Chg (fun k=>k=p.block) w W→Q W):Q (w.setCell p q):=
 h _ (Chg.set (Chg.refl (fun k=>k=p.block) w) (.inl rfl) q)
set_option maxRecDepth 100000 in
set_option maxHeartbeats 6400000 in
theorem own_in (A:Option Addr) (l:L) (c:Nat) (w:World) (hr:Rd w w.heap.size A (bvs l)) (h1:1≤l.length) (h2:l.length≤500):Calls Try.prog 6 #[.slice A l.length c] w fun e w'=>e = .returned (.bool true)∧Below w.heap.size w w':=by
 obtain⟨B,eB⟩:∃B,B=w.heap.size:=⟨_,rfl⟩
 have c1:=ca_new B w (Nat.le_of_eq eB)
 rw[←eB] at c1
 have hcv0:=run_bytes_str (P:=Try.prog) w 32 5 Try.underlying32 Try.underlying5 hr l.length c rfl 9 Try.underlying9
 rw[←eB] at hr
 have C2:=Lib.hid (fun(w1:World) (A1:Option Addr) (d:Nat) (h:Ca w1 B B (.slice none 0 0) []) (hx:Rd w1 w1.heap.size A1 (bvs l)) (hxo:∀a,A1=some a→¬CO B (.slice none 0 0) [] a.block)=>put_b p1 (xO l) A1 d 0 h hx (fun a ha _=>hxo a ha) (by decide) (by decide) (fit_o h2) (by decide) (put_one p1 (xO l) 0) (show putE [] p1 0=0 from rfl))
 have C3:=Lib.hid (fun(w1:World) (v:Value) (es:List En) (h:Ca w1 B B v es) (hi:its es = [(p1,xO l)])=>get_b p1 0 h (by rw[hi];exact fits_one (fit_o h2)) (by rw[its_len hi];simp) (show getO (its es) p1 0=some (p1,xO l) by rw[hi,get_one];rfl))
 have CK:=Lib.hid (fun w1=>cknown_any w1)
 have CV:=Lib.hid (fun(w1:World) (A1:Option Addr) (d:Nat) (h:Rd w1 w1.heap.size A1 (bvs l))=>run_bytes_str (P:=Try.prog) w1 32 5 Try.underlying32 Try.underlying5 h l.length d rfl 9 Try.underlying9)
 have XBS:=Lib.hid (fun(w1:World) (g:Nat) (A1:Option Addr) (d:Nat) (rs:Array Value) (e:rs=crA (xO l) A1 d) (h:Blk w1 g 38 rs)=>(cr_b (o:=0) (blk_cr (show Blk w1 g 38 (crA (xO l) A1 d) by rw[←e];exact h)):w1.cell? ⟨g,3,none⟩=some (.slice A1 l.length d)))
 have OF:=Lib.hid (fun(a w1:World) (A1:Option Addr) (h:Own1 a w1 A1 (bvs l))=>own_first h h1)
 simp only[xO_lit] at C2
 have tl:(l==l)=true:=by simp
 have LB:=Lib.hid (bvs_length l)
 obtain⟨n,en⟩:∃n,n=l.length:=⟨_,rfl⟩
 rw[←en] at h1 h2 hcv0 C2 CV XBS LB⊢
 have EN:=Lib.hid en
 obtain⟨a0,ea0⟩:∃a0,a0=l[0]'(by omega):=⟨_,rfl⟩
 rw[←ea0] at OF
 obtain⟨iE,hiE,hzE,hsE,hbE⟩:=info_parts Nm.u8_row
 have KI1:=Lib.hid hiE;have KI2:=Lib.hid hzE;have KI3:=Lib.hid hsE;have KI4:=Lib.hid hbE
 have HR:=Lib.hid hr
 have EB:=Lib.hid eB
 have HB:=Lib.hid (show Below B w w from eB▸Below.refl _ _)
 have t1:decide ((n:Int)<1)=false:=by simp;omega
 have t2:decide ((500:Int)<(n:Int))=false:=by simp;omega
 have t3:(0:Int)<(n:Int):=by omega
 have HL:=Lib.hid h2
 have HAI:∀w:World,(0:Int)<(n:Int):=fun _=>t3
 clear eB h1 h2 en hr ea0 hiE hzE hsE hbE HAI
 go_enter Try.func6,Try.ntmps6
 go_upto_region 8 with(first
  |(go_at_call 10;refine Calls.mono c1 ?_;rintro e1 w1 ⟨rfl,hca,hb,hsz⟩;clear c1;have HCA:=Lib.hid hca;replace HB:=Lib.hid hb;clear hb hca hsz)
  |fail)
 have hal:=(Below.refl w1.heap.size w1).alloc (Nat.le_refl _) (.cells #[.string ⟨#[65]⟩,.string ⟨#[120]⟩] 31)
 have hp:=Blk.new w1 31 #[.string ⟨#[65]⟩,.string ⟨#[120]⟩]
 have HNP:=Lib.hid (old_co HCA.out (Nat.le_refl _))
 obtain⟨W0,eW0⟩:∃W0,W0=w1.alloc (.cells #[.string ⟨#[65]⟩,.string ⟨#[120]⟩] 31):=⟨_,rfl⟩
 rw[←eW0] at hal hp⊢
 replace HB:=Lib.hid (HB.out.trans (hal.mono HCA.out.big))
 replace HCA:=Lib.hid (HCA.out.below hal)
 obtain⟨N,eN⟩:∃N,N=w1.heap.size:=⟨_,rfl⟩
 rw[←eN] at hp HNP⊢
 have HP:=Lib.hid hp
 have HN0:=Lib.hid hp.lt
 have HBW:=Lib.hid HCA.out.big
 have hb2:=(Below.refl W0.heap.size W0).alloc (Nat.le_refl _) (.cells #[] 5)
 have HO:=Lib.hid (World.ownsRow_made (base:=W0.heap.size) W0 (e:=5) (size:=1) #[] 0 (Nat.le_refl _) (by decide) rfl)
 have HB2:=Lib.hid hb2
 clear hal hp eW0 eN hb2 hcv0 t1 t2
 go_upto_region 10 with(first
  |(refine wpList_append_rd _ rfl (.tmp 25) (.tmp 26) 32 rfl W0.heap.size 5 iE _ 1 Try.underlying32 KI1.out KI2.out KI3.out KI4.out rfl _ 0 [] rfl HO.out B _ n c (bvs l) rfl (LB.out.symm) (HR.out.below (HB.out.trans (HB2.out.mono HCA.out.big))) (bvs_one _) (by have:=HL.out;unfold maxLen;omega) (by have:=HL.out;omega) HB2.out.size ?_;intro v' w' ho hg hv;rw[Nat.zero_add,List.nil_append] at ho;have hbg:=below_g HB2.out hg HB2.out.size (Nat.le_refl _);obtain⟨A1,d1,rfl,ho1⟩:=Own1.of_own ho;replace HB:=Lib.hid (HB.out.trans (hbg.mono HCA.out.big));have HIN:=Lib.hid ho1;replace HP:=Lib.hid (HP.out.below hbg);have hxo:∀a,A1=some a→¬CO B (.slice none 0 0) [] a.block:=fun a ha x=>by{have:=(ho1.2 a ha).1;have:=HCA.out.own_lt x;omega};have HXO:=Lib.hid hxo;replace HCA:=Lib.hid (HCA.out.below hbg);have kp0:w'.cell? ⟨N,0,none⟩=some (.string ⟨#[65]⟩):=HP.out.cell 0;have kp1:w'.cell? ⟨N,1,none⟩=some (.string ⟨#[120]⟩):=HP.out.cell 1;have c2:=C2.out _ A1 d1 HCA.out ho1.1 hxo;clear ho hg hv hbg ho1 hxo HO)
  |(go_at_call 11;refine Calls.mono c2 ?_;rintro e2 w2 ⟨rfl,v2,es2,hca,hi,hc,hnw⟩;clear c2 kp0 kp1;replace HB:=Lib.hid (ca_below HB.out HCA.out hc);have hnp2:=not_ca HP.out.lt HNP.out hnw;replace HP:=Lib.hid (blk_ca HP.out HNP.out hc);replace HNP:=Lib.hid hnp2;have HX2:=Lib.hid (fun a ha=>not_ca (HIN.out.2 a ha).2 (HXO.out a ha) hnw);replace HIN:=Lib.hid (HIN.out.chg hc (fun a ha x=>HXO.out a ha (pt_co x)));have HCA2:=Lib.hid hca;have HI:=Lib.hid hi;clear hca hi hc hnw hnp2)
  |fail)
 obtain⟨g1,o1,rfl,kc,fc,hg1,hg1l⟩:=OF.out W0 w2 A1 HIN.out
 have HG1:=Lib.hid hg1
 clear hg1 hg1l
 go_upto_region 11 with fail
 refine set_named (w:=w2) (p:=⟨g1,o1,none⟩) (Q:=fun W=>Code.wp ?P1 ?c1 ?Q1 ?a1 W) _ ?_
 intro W3 hc3
 simp only at hc3
 have HCA3:=Lib.hid (HCA2.out.chg hc3 (fun k hk e=>HX2.out _ rfl (e▸hk)))
 replace HP:=Lib.hid (hc3.blk HP.out (fun e=>by have:=HN0.out;have:=HG1.out;omega))
 replace HB:=Lib.hid (HB.out.trans (hc3.below HCA2.out.big (fun i _ e=>by have:=HBW.out;have:=HG1.out;omega)))
 have kp0:W3.cell? ⟨N,0,none⟩=some (.string ⟨#[65]⟩):=HP.out.cell 0
 have kp1:W3.cell? ⟨N,1,none⟩=some (.string ⟨#[120]⟩):=HP.out.cell 1
 have c3:=C3.out W3 v2 es2 HCA3.out HI.out
 have HNL3:=Lib.hid HP.out.lt
 clear hc3 kc fc HIN HX2 HXO
 go_upto_region 14 with(first
  |(go_at_call 13;refine Calls.mono c3 ?_;rintro e3 w4 ⟨A3,d3,rs,hrx,rfl,hrs,hri,hr1,ho,hb⟩;clear c3 kp0 kp1;have HRX:=Lib.hid hrx;replace HB:=Lib.hid (HB.out.trans (hb.mono HCA3.out.big));replace HP:=Lib.hid (HP.out.below hb);have HCA4:=Lib.hid (HCA3.out.below hb);have HO3:=Lib.hid ho;have HRS:=Lib.hid hrs;have HRI:=Lib.hid hri;have HR1:=Lib.hid hr1;clear hrx hrs hri hr1 hb ho)
  |(refine Wh.store_new (by rfl) 38 (.tmp 7) (.tmp 44) (by rfl) 38 rfl rs (by rfl) (by rfl) (by rw[HRS.out];rfl) HRI.out HR1.out ?_;rintro V hV hb;replace HB:=Lib.hid (HB.out.trans (hb.mono HCA4.out.big));replace HP:=Lib.hid (HP.out.below hb);replace HCA4:=Lib.hid (HCA4.out.below hb);replace HO3:=Lib.hid (HO3.out.below hb);have k3:V.cell? ⟨w4.heap.size,3,none⟩=some (.slice A3 n d3):=XBS.out _ _ _ _ _ HRX.out hV;have hcv3:=CV.out V A3 d3 HO3.out.1;clear hV hb)
  |fail)
 obtain⟨g3,o3,rfl,kc,fc,hg3,hg3l⟩:=OF.out W3 V A3 HO3.out
 have HG3:=Lib.hid hg3
 clear hg3 hg3l hcv3
 go_upto_region 15 with fail
 refine set_named (w:=V) (p:=⟨g3,o3,none⟩) (Q:=fun W=>Code.wp ?P2 ?c2 ?Q2 ?a2 W) _ ?_
 intro W5 hc5
 simp only at hc5
 have HCA5:=Lib.hid (HCA4.out.chg hc5 (fun k hk e=>by have:=HCA3.out.own_lt hk;have:=HG3.out;omega))
 replace HP:=Lib.hid (hc5.blk HP.out (fun e=>by have:=HN0.out;have:=HG3.out;have:=HNL3.out;omega))
 replace HB:=Lib.hid (HB.out.trans (hc5.below HCA4.out.big (fun i _ e=>by have:=HCA3.out.big;have:=HG3.out;omega)))
 have kp0:W5.cell? ⟨N,0,none⟩=some (.string ⟨#[65]⟩):=HP.out.cell 0
 have kp1:W5.cell? ⟨N,1,none⟩=some (.string ⟨#[120]⟩):=HP.out.cell 1
 have c5:=C3.out W5 v2 es2 HCA5.out HI.out
 clear hc5 kc fc k3 HO3 HRX HRS HRI HR1
 go_wp2_with (first
  |(go_at_call 13;refine Calls.mono c5 ?_;rintro e5 w6 ⟨A6,d6,ss,hrx,rfl,hrs,hri,hr1,ho,hb⟩;clear c5 kp0 kp1;have HRX:=Lib.hid hrx;replace HB:=Lib.hid (HB.out.trans (hb.mono HCA5.out.big));have HCA6:=Lib.hid (HCA5.out.below hb);have HO6:=Lib.hid ho;have HRS:=Lib.hid hrs;have HRI:=Lib.hid hri;have HR1:=Lib.hid hr1;clear hrx hrs hri hr1 hb ho)
  |(refine Wh.store_new (by rfl) 38 (.tmp 9) (.tmp 67) (by rfl) 38 rfl ss (by rfl) (by rfl) (by rw[HRS.out];rfl) HRI.out HR1.out ?_;rintro V6 hV hb;replace HB:=Lib.hid (HB.out.trans (hb.mono HCA6.out.big));replace HCA6:=Lib.hid (HCA6.out.below hb);replace HO6:=Lib.hid (HO6.out.below hb);have k6:V6.cell? ⟨w6.heap.size,3,none⟩=some (.slice A6 n d6):=XBS.out _ _ _ _ _ HRX.out hV;have hcv6:=CV.out V6 A6 d6 HO6.out.1;clear hV hb)
  |(go_at_call 18;refine Calls.mono (CK.out _) ?_;rintro e8 w8 ⟨rfl,hb⟩;replace HB:=Lib.hid (HB.out.trans (hb.mono HCA6.out.big));clear hb)
  |fail)
 go_ret
 exact⟨rfl,by rw[←EB.out];exact HB.out⟩
set_option maxHeartbeats 1600000 in
theorem own_no (A:Option Addr) (n c:Nat) (w:World) (h:¬(1≤n∧n≤500)):Calls Try.prog 6 #[.slice A n c] w fun e w'=>e = .returned (.bool true)∧Below w.heap.size w w':=by
 by_cases h1:(n:Int)<1
 ·have t1:decide ((n:Int)<1)=true:=decide_eq_true h1
  clear h h1
  go_enter Try.func6,Try.ntmps6
  go_wp2
  go_ret
  exact⟨rfl,Below.refl _ _⟩
 have t1:decide ((n:Int)<1)=false:=decide_eq_false h1
 by_cases h2:(500:Int)<(n:Int)
 ·have t2:decide ((500:Int)<(n:Int))=true:=decide_eq_true h2
  clear h h1 h2
  go_enter Try.func6,Try.ntmps6
  go_wp2
  go_ret
  exact⟨rfl,Below.refl _ _⟩
 ·exact absurd ⟨by omega,by omega⟩ h
theorem own_any (A:Option Addr) (l:L) (c:Nat) (w:World) (hr:Rd w w.heap.size A (bvs l)):Calls Try.prog 6 #[.slice A l.length c] w fun e w'=>e = .returned (.bool true)∧Below w.heap.size w w':=by
 by_cases h:1≤l.length∧l.length≤500
 ·exact own_in A l c w hr h.1 h.2
 ·exact own_no A l.length c w h
end Go.Proofs.Ytlacoakelliabaa.Ca
end

section
namespace Go.Proofs.Ytlacoakelliabaa.cacheOwn
open Go.ChangeShapes Go.WideShapes Go.ChangeAt Go.RowKit Go.Proofs.Ytlacoakelliabaa
open Go.ChangeMaps (open_string shut_string)
theorem own:ownKnob Try.prog.godebug=none:=by kernel_rfl
theorem laidOut:laidOutB Try.prog=true:=by kernel_rfl
set_option maxRecDepth 100000 in
theorem lifted (os:Os) (started:os.Started) (H:Type) (enc:TypeId×Value→H) :
  ReturnsInHanded {} Try.checked os 6 .any (Rows.cacheOwnSpec.pre6 enc Try.prog Try.f6 Rows.cacheOwnRow.domain false) (Rows.cacheOwnSpec.post enc Try.prog Try.f6 false true false false):=by
 refine returnsInHanded_of_change (C:=Try.checked) own started (by kernel_rfl) Try.func6
  (ChangeSpec.witness6 (enc:=enc) (C:=Try.checked) false ⟨#[],#[.slice none 0 0],[]⟩ 8 (by kernel_rfl) (by kernel_rfl) (by kernel_rfl) (by kernel_rfl)) ?_
 intro W base args ds gs before hval0 hW hcnd _
 have hval:∀(j:Nat) t v,Try.f6.params[j]? = some t→args[j]? = some v→Value.okWide Try.prog W .any base t v:=hval0
 have hW':=hW
 obtain⟨p,q,hA0,hV,rfl,hfz,hnd⟩:=hW
 have hA:DataW.TrodAll enc Try.prog W 0 (fun _=>true) true Try.f6.params.toList args.toList ds p:=hA0
 rw[Try.params6] at hA hval
 obtain⟨v0,vs0,d0,ds0,p0,q0,hargs,rfl,rfl,h0,r0⟩:=trodAll_cons hA
 obtain⟨rfl,rfl,rfl⟩:=trodAll_nil r0
 obtain rfl:args=#[v0]:=by cases args;simp_all
 obtain⟨rfl,rfl⟩:=trodVars_none hV
 have k0:=h0
 have lt0:∀x∈p0,x.block<W.heap.size:=by obtain⟨m,hm⟩:=k0;exact DataW.trod_lt m _ _ _ hm
 obtain⟨A0,l0,c0,rfl,w0,x0,y0⟩:=Open.open_bytes Try.underlying32 Try.underlying5 (by kernel_rfl) (okWide_slice Try.underlying32 (hval 0 32 v0 rfl rfl)) h0
 clear hA0 hval0
 refine(Ca.own_any A0 l0 c0 W w0).mono fun e W' ⟨he,bel⟩=>?_
 subst he
 exact⟨_,rfl,_,_,_,[],_,[],hW',trodAll_mk1 (shut_bool Try.underlying4 _),(trodAll_cons_mk (Below.trod laidOut (by kernel_rfl) (of_decide_eq_true (by kernel_rfl)) k0 bel lt0) trodAll_mk0),rfl,bel.frame _,fun h=>by cases h⟩
theorem over:Rows.cacheOwnRow.holds Try.pinned (OpenSpec.ofChange Rows.cacheOwnSpec):=
 OpenClaim.holds_of_wide 6 Try.f6 rfl rfl rfl rfl rfl rfl rfl ⟨rfl,rfl,rfl,rfl,rfl⟩ rfl rfl rfl rfl rfl (by kernel_rfl) Try.func6 (by kernel_rfl)
  (of_decide_eq_true (by kernel_rfl)) (by unfold Func.isWrapper;first | (rw[if_pos (by decide +kernel)];kernel_rfl) | (rw[if_neg (by decide +kernel)];exact⟨rfl,rfl⟩))
  (fun os started H enc _=>lifted os started H enc)
theorem proved:Rows.CacheOwnSaid:=over
end Go.Proofs.Ytlacoakelliabaa.cacheOwn
end
