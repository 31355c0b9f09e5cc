import Derived.Test.YtnmeicnppablkaaProg
import Derived.Deep.LoopGhost
import Derived.StillTailTactics
import Derived.Deep.CutBlock
import Derived.Laws.StructEq
import Derived.BigQuiet
import Derived.Lib.SliceRun
import Derived.Deep.RegionHeld3
import Derived.Test.YtnmeicnppablkaaZReplayOnce1
section
set_option linter.unusedVariables false
set_option linter.unusedSimpArgs false
namespace Go.Proofs.Ytnmeicnppablkaa.Rp
open Go.RowKit Go.Proofs.Ytnmeicnppablkaa.Mem Go.Proofs.Ytnmeicnppablkaa.Se
open Go.Proofs.Ytnmeicnppablkaa.Ms (An)
open Go.Proofs.Ytnmeicnppablkaa.Rg (RdR own_rdr own_chg)
open Go.Proofs.Ytnmeicnppablkaa.Ca (row_set row_cut row_there run_clear)
theorem anA_toList (x:An):(anA x).toList=anC x:=rfl
def goI (t:Int) (es:List An):Option Nat:=es.findIdx? (fun e=>old t e.t)
def goN (o:Option Nat):Int:=match o with
 |none=>-1
 |some i=>(i:Int)
theorem goI_some {t:Int} {es:List An} {i:Nat} {x:An} (hx:es[i]? = some x) (hd:old t x.t=true) (hn:∀j y,j<i→es[j]? = some y→old t y.t=false):goI t es=some i:=by
 obtain⟨h1,h2⟩:=List.getElem?_eq_some_iff.1 hx
 refine List.findIdx?_eq_some_iff_getElem.2 ⟨h1,by rw[h2];exact hd,fun j hj=>?_⟩
 rw[hn j _ hj (List.getElem?_eq_getElem (by omega))]
 simp
theorem goI_none {t:Int} {es:List An} (hn:∀j y,j<es.length→es[j]? = some y→old t y.t=false):goI t es=none:=by
 refine List.findIdx?_eq_none_iff.2 fun x hx=>?_
 obtain⟨j,hj1,hj2⟩:=List.getElem_of_mem hx
 exact hn j x hj1 (by rw[←hj2];exact List.getElem?_eq_getElem hj1)
set_option maxHeartbeats 1600000 in
set_option maxRecDepth 100000 in
theorem idx_any (es:List An) (t:Int) (bt:Nat) (A:Option Addr) (c B:Nat) (w:World) (hr:RdR w B A anC 4 es) (hB:B≤w.heap.size) (ht:w.cell? ⟨bt,0,none⟩=some (.int .i64 t)) (htm:Tm t∧∀a∈es,Tm a.t) (hl:es.length≤1000) :
  Calls Try.prog 25 #[.slice A es.length c,.func (.func 21) #[] #[.pointer (some ⟨bt,0,none⟩)]] w fun e w'=>e = .returned (.int .i64 (goN (goI t es)))∧Below w.heap.size w w':=by
 obtain⟨n,en⟩:∃n,n=es.length:=⟨_,rfl⟩
 have EN:=Lib.hid en
 rw[←en] at hl⊢
 have htl:bt<w.heap.size:=World.block_lt_of_cell? w _ ht
 have CD:=Lib.hid (fun(x:An) (w1:World) (h:Below w.heap.size w w1) (hx:Tm x.t)=>del_fn x t bt w1 ((h.cell (p:=⟨bt,0,none⟩) htl).trans ht) htm.1 hx)
 have HR:=Lib.hid hr
 have HBB:=Lib.hid hB
 have HB:=Lib.hid (Below.refl w.heap.size w)
 have HTM:=Lib.hid htm.2
 clear hr ht htl en hB htm
 go_enter Try.func25,Try.ntmps25
 go_wp2
 go_loopw [8] (fun iv wr=>∃i:Nat,i≤n∧iv = .int .i64 (i:Int)∧Below w.heap.size w wr∧∀j x,j<i→es[j]? = some x→old t x.t=false) (fun iv _=>n - (intOf iv).toNat)
 case atStart=>exact⟨0,Nat.zero_le _,rfl,HB.out,fun j x hj=>absurd hj (Nat.not_lt_zero _)⟩
 case round=>
  clear HB
  obtain⟨i,hi,rfl,hb,hno⟩:=hrel
  have HB:=Lib.hid hb;have HNO:=Lib.hid hno
  have HRR:=Lib.hid (HR.out.keep (hb.mono HBB.out))
  clear hb hno
  by_cases hlt:i<n
  ·have e1:(i:Int)<(n:Int):=by omega
   have e2:(0:Int)≤(i:Int):=by omega
   obtain⟨x,hx⟩:∃x,es[i]? = some x:=⟨es[i]'(by rw[←EN.out];exact hlt),List.getElem?_eq_getElem _⟩
   obtain⟨g,rfl,hgN,hra⟩:=HRR.out.at_ hx
   rw[←anA_toList] at hra
   have HRA:=Lib.hid hra
   have his:=an_info
   rw[←anA_size x] at his
   have HIS:=Lib.hid his
   have HX:=Lib.hid hx
   have CX:=Lib.hid (fun w1 h=>CD.out x w1 h (HTM.out x (List.mem_of_getElem? hx)))
   obtain⟨cs,ecs⟩:∃cs,cs=anA x:=⟨_,rfl⟩
   rw[←ecs] at HRA HIS CX
   clear hra his hx ecs
   obtain⟨b,eb⟩:∃b,b=old t x.t:=⟨_,rfl⟩
   rw[←eb] at CX
   have EB:=Lib.hid eb
   clear eb
   cases b with
   |true=>
    go_wp2_with (first
     |(refine Wh.load_g (by rfl) 31 (.tmp 14) (by rfl) g _ (by rfl) cs _ HRA.out Try.underlying31 (by rfl) HIS.out ?_)
     |(go_at_call 21;refine Calls.mono (CX.out _ HB.out) ?_;rintro e w1 ⟨rfl,hb⟩;replace HB:=Lib.hid (HB.out.trans (hb.mono HB.out.size));clear hb)
     |fail)
    go_ret
    exact⟨by rw[goI_some HX.out EB.out.symm HNO.out];rfl,HB.out⟩
   |false=>
    go_wp2_with (first
     |(refine Wh.load_g (by rfl) 31 (.tmp 14) (by rfl) g _ (by rfl) cs _ HRA.out Try.underlying31 (by rfl) HIS.out ?_)
     |(go_at_call 21;refine Calls.mono (CX.out _ HB.out) ?_;rintro e w1 ⟨rfl,hb⟩;replace HB:=Lib.hid (HB.out.trans (hb.mono HB.out.size));clear hb)
     |fail)
    go_roundw
    case rel=>exact⟨i+1,by omega,by go_num,HB.out,fun j y hj hy=>by
     rcases Nat.lt_or_eq_of_le (Nat.le_of_lt_succ hj) with g | g
     ·exact HNO.out j y g hy
     ·rw[g,HX.out] at hy
      injection hy with hy
      rw[←hy]
      exact EB.out.symm⟩
    case measure=>simp [intOf];omega
  ·have e1:¬(i:Int)<(n:Int):=by omega
   obtain rfl:n=i:=by omega
   go_wp2
   go_ret
   exact⟨by rw[goI_none (fun j y hj hy=>HNO.out j y (by rw[EN.out];exact hj) hy)];rfl,HB.out⟩
theorem goI_spec {t:Int} {es:List An} {i:Nat} (h:goI t es=some i):∃x,es[i]? = some x∧old t x.t=true∧∀j y,j<i→es[j]? = some y→old t y.t=false:=by
 obtain⟨h1,h2,h3⟩:=List.findIdx?_eq_some_iff_getElem.1 h
 refine⟨es[i],List.getElem?_eq_getElem h1,h2,fun j y hj hy=>?_⟩
 have:=h3 j hj
 obtain⟨k1,k2⟩:=List.getElem?_eq_some_iff.1 hy
 rw[k2] at this
 simpa using this
theorem restE_none {t:Int} {es:List An} (h:goI t es=none):keepL t es=es:=by
 rw[keepL,List.filter_eq_self]
 intro x hx
 have:=List.findIdx?_eq_none_iff.1 h x hx
 simpa using this
theorem restE_take {t:Int} {es:List An} {i:Nat} {x:An} (hx:es[i]? = some x):keepL t (es.take (i+1))=if old t x.t=true then keepL t (es.take i) else keepL t (es.take i)++[x]:=by
 rw[List.take_add_one,hx,keepL,List.filter_append]
 cases h:old t x.t<;>simp [keepL,h]
theorem restE_first {t:Int} {es:List An} {i:Nat} (h:goI t es=some i):keepL t (es.take (i+1))=es.take i:=by
 obtain⟨x,h1,h2,h3⟩:=goI_spec h
 rw[restE_take h1,if_pos h2,keepL,List.filter_eq_self]
 intro y hy
 obtain⟨j,hj1,hj2⟩:=List.getElem_of_mem hy
 have hji:j<i:=by simp at hj1;omega
 have:=h3 j y hji (by rw[←hj2,List.getElem_take];exact List.getElem?_eq_getElem _)
 rw[this];rfl
theorem set_take {α:Type} (l:List α) (i:Nat) (x:α) (h:i<l.length):(l.set i x).take (i+1)=l.take i++[x]:=by
 rw[List.take_add_one,List.take_set_of_le (Nat.le_refl _),List.getElem?_set_self h]
 rfl
set_option maxHeartbeats 3200000 in
set_option maxRecDepth 100000 in
theorem delf_some (es:List An) (t:Int) (bn g cap B i0:Nat) (w:World) (ho:w.ownsRow B 31 4 (.slice (some ⟨g,0,none⟩) es.length cap) es.length (es.flatMap anC)) (hB:B≤w.heap.size) (ht:w.cell? ⟨bn,0,none⟩=some (.int .i64 t)) (htm:Tm t∧∀a∈es,Tm a.t)
  (hbn:bn≠g) (hl:es.length≤1000) (hi0:goI t es=some i0) :
  Calls Try.prog 20 #[.slice (some ⟨g,0,none⟩) es.length cap,.func (.func 21) #[] #[.pointer (some ⟨bn,0,none⟩)]] w fun e w'=>e = .returned (.slice (some ⟨g,0,none⟩) (keepL t es).length cap)∧
   w'.ownsRow B 31 4 (.slice (some ⟨g,0,none⟩) (keepL t es).length cap) (keepL t es).length ((keepL t es).flatMap anC)∧w.grownBy w' (some g):=by
 obtain⟨x0,hx0,hd0,hn0⟩:=goI_spec hi0
 have hi0l:i0<es.length:=(List.getElem?_eq_some_iff.1 hx0).1
 obtain⟨A1,c1,e1,hcap,hcm,hr0⟩:=own_rdr anC_length ho
 injection e1 with e1 _ e2
 subst e1 e2
 have hgl:g<w.heap.size:=(World.ownsRow.lt ho g rfl).2
 have hgB:B≤g:=(World.ownsRow.lt ho g rfl).1
 have CI:=idx_any es t bn (some ⟨g,0,none⟩) cap w.heap.size w hr0 (Nat.le_refl _) ht htm hl
 rw[hi0,show goN (some i0)=(i0:Int) from rfl] at CI
 obtain⟨n,en⟩:∃n,n=es.length:=⟨_,rfl⟩
 have EN:=Lib.hid en
 rw[←en] at CI hl hi0l hcap⊢
 have hbnl:bn<w.heap.size:=World.block_lt_of_cell? w _ ht
 have CD:=Lib.hid (fun(x:An) (w1:World) (h:w.grownBy w1 (some g)) (hx:Tm x.t)=>del_fn x t bn w1 (h.cell ht (by intro e;injection e with e;exact hbn e)) htm.1 hx)
 have HO:=Lib.hid ho
 have HI0:=Lib.hid hi0l
 have HF:=Lib.hid (restE_first hi0)
 have HL:=Lib.hid hl;have HCAP:=Lib.hid hcap;have HGL:=Lib.hid hgl;have HGB:=Lib.hid hgB;have HCM:=Lib.hid hcm
 have t0:((i0:Int) == -1)=false:=by simp
 obtain⟨iE,hiE,hzE,hsE,hbE⟩:=info_parts an_all
 have hzs:(Value.agg (anA ⟨([],[]),0,0⟩)).cells.size=4:=anA_size _
 have hz1:∀u∈(Value.agg (anA ⟨([],[]),0,0⟩)).cells.toList,u.oneCell'=true:=by
  intro u hu
  rw[show(Value.agg (anA ⟨([],[]),0,0⟩)).cells=anA ⟨([],[]),0,0⟩ from rfl,anA_toList] at hu
  exact anC_one _ u hu
 have HCL:=Lib.hid (fun(w1:World) (ty:TypeId) (o m c:Nat) (h:w1.there g o (m*4))=>run_clear Try.prog w1 39 31 ty iE _ 4 Try.underlying39 hiE hzE hzs hz1 (by decide) g o m c h)
 have HTM:=Lib.hid htm.2
 clear ho hr0 ht htm hbnl en hd0 hn0 hx0 x0 hi0 hgl hgB hbn hcm hcap hiE hzE hsE hbE hzs hz1 hB
 go_enter Try.func20,Try.ntmps20
 go_wp2_with (first
  |(go_at_call 25;refine Calls.mono CI ?_;rintro e w1 ⟨rfl,hb⟩;have HG:=Lib.hid (g_of_below hb (some g));replace HO:=Lib.hid (own_kept HO.out hb);clear hb CI)
  |fail)
 go_loopw [5,6] (fun iv jv wr=>∃(i j:Nat) (cs:List An),iv = .int .i64 (i:Int)∧jv = .int .i64 (j:Int)∧i<j∧j≤n∧cs.length=n∧cs.take i=keepL t (es.take j)∧(∀q,j≤q→cs[q]? = es[q]?)∧wr.ownsRow B 31 4 (.slice (some ⟨g,0,none⟩) cs.length cap) cs.length (cs.flatMap anC)∧w.grownBy wr (some g)) (fun _ jv _=>n - (intOf jv).toNat)
 case atStart=>exact⟨i0,i0+1,es,rfl,by go_num,by omega,HI0.out,EN.out.symm,HF.out.symm,fun q _=>rfl,HO.out,HG.out⟩
 case round=>
  clear HO HG HF HI0
  obtain⟨i,j,cs,rfl,rfl,hij,hj,hcl,htk,hsame,ho,hg⟩:=hrel
  have HO:=Lib.hid ho;have HG:=Lib.hid hg;have HTK:=Lib.hid htk;have HSM:=Lib.hid hsame;have HCS:=Lib.hid hcl
  clear ho hg htk hsame hcl
  by_cases hlt:j<n
  ·have e1:(j:Int)<(n:Int):=by omega
   have e2:(0:Int)≤(j:Int):=by omega
   have e3:(i:Int)<(n:Int):=by omega
   have e4:(0:Int)≤(i:Int):=by omega
   obtain⟨x,hx⟩:∃x,es[j]? = some x:=⟨es[j]'(by rw[←EN.out];exact hlt),List.getElem?_eq_getElem _⟩
   obtain⟨A1,c1,q1,_,_,hr⟩:=own_rdr anC_length HO.out
   injection q1 with q1 _ q2
   subst q1 q2
   have hx2:cs[j]? = some x:=(HSM.out j (Nat.le_refl _)).trans hx
   obtain⟨g2,q3,_,hra⟩:=hr.at_ hx2
   injection q3 with q3
   injection q3 with q3
   subst q3
   rw[←anA_toList] at hra
   have HRA:=Lib.hid hra
   have his:=an_info
   rw[←anA_size x] at his
   have HIS:=Lib.hid his
   have H1X:=Lib.hid (anA_one x)
   have HX:=Lib.hid hx
   have CX:=Lib.hid (fun w1 h=>CD.out x w1 h (HTM.out x (List.mem_of_getElem? hx)))
   obtain⟨ds,eds⟩:∃ds,ds=anA x:=⟨_,rfl⟩
   rw[←eds] at HRA HIS CX H1X
   have EDS:=Lib.hid eds
   have hrt:=restE_take (t:=t) hx
   obtain⟨b,eb⟩:∃b,b=old t x.t:=⟨_,rfl⟩
   rw[←eb] at CX hrt
   have HRT:=Lib.hid hrt
   obtain⟨m,em⟩:∃m,m=cs.length:=⟨_,rfl⟩
   have EM:=Lib.hid em
   clear hra his hx eds eb hr hx2 hrt
   cases b with
   |true=>
    go_wp2_with (first
     |(refine Wh.load_g (by rfl) 31 (.tmp 24) (by rfl) g _ (by rfl) ds _ HRA.out Try.underlying31 (by rfl) HIS.out ?_)
     |(refine Wh.store_new (by rfl) 31 (.tmp 7) (.tmp 25) (by rfl) 31 rfl ds (by rfl) (by rfl) (by rw[EDS.out,anA_size];rfl) HIS.out H1X.out ?_;rintro V hV hb;have HV:=Lib.hid hV;replace HO:=Lib.hid (own_kept HO.out hb);replace HG:=Lib.hid (g_then HG.out hb);clear hV hb)
     |(refine Wh.load_g (by rfl) 31 (.tmp 7) (by rfl) _ 0 (by rfl) ds _ (Wh.range_blk HV.out) Try.underlying31 (by rfl) HIS.out ?_)
     |(go_at_call 21;refine Calls.mono (CX.out _ HG.out) ?_;rintro e w1 ⟨rfl,hb⟩;replace HO:=Lib.hid (own_kept HO.out hb);replace HG:=Lib.hid (g_then HG.out hb);clear hb)
     |fail)
    go_roundw
    case rel=>exact⟨i,j+1,cs,rfl,by go_num,by omega,by omega,HCS.out,by rw[HRT.out];simpa using HTK.out,fun q hq=>HSM.out q (by omega),HO.out,HG.out⟩
    case measure=>simp [intOf];omega
   |false=>
    have HTH:=Lib.hid (fun(w1:World) (h:w1.ownsRow B 31 4 (.slice (some ⟨g,0,none⟩) cs.length cap) cs.length (cs.flatMap anC))=>row_there h (i*4) 4 (by have:=HCS.out;omega))
    have HRS:=Lib.hid (fun(w1:World) (h:w1.ownsRow B 31 4 (.slice (some ⟨g,0,none⟩) cs.length cap) cs.length (cs.flatMap anC))=>row_set anC_length h (show i<cs.length by have:=HCS.out;omega) x)
    rw[←anA_toList,←EDS.out] at HRS
    go_wp2_with (first
     |(refine Wh.load_g (by rfl) 31 (.tmp 24) (by rfl) g _ (by rfl) ds _ HRA.out Try.underlying31 (by rfl) HIS.out ?_)
     |(refine Wh.store_new (by rfl) 31 (.tmp 7) (.tmp 25) (by rfl) 31 rfl ds (by rfl) (by rfl) (by rw[EDS.out,anA_size];rfl) HIS.out H1X.out ?_;rintro V hV hb;have HV:=Lib.hid hV;replace HO:=Lib.hid (own_kept HO.out hb);replace HG:=Lib.hid (g_then HG.out hb);clear hV hb)
     |(refine Wh.load_g (by rfl) 31 (.tmp 7) (by rfl) _ 0 (by rfl) ds _ (Wh.range_blk HV.out) Try.underlying31 (by rfl) HIS.out ?_)
     |(go_at_call 21;refine Calls.mono (CX.out _ HG.out) ?_;rintro e w1 ⟨rfl,hb⟩;replace HV:=Lib.hid (HV.out.below hb);replace HO:=Lib.hid (own_kept HO.out hb);replace HG:=Lib.hid (g_then HG.out hb);clear hb)
     |(refine wpList_store_mid (by rfl) 31 (.tmp 33) (.tmp 32) (by rfl) g (i*4) ds (by rfl) (by rfl) (by rw[EDS.out,anA_size];exact HTH.out _ HO.out) HIS.out H1X.out ?_;replace HO:=Lib.hid (HRS.out _ HO.out);replace HG:=Lib.hid (Wh.g_cells (.inl rfl) ds.toList (i*4) _ HG.out))
     |fail)
    go_roundw
    case rel=>exact⟨i+1,j+1,cs.set i x,by go_num,by go_num,by omega,by omega,by rw[List.length_set];exact HCS.out,by rw[HRT.out,set_take _ _ _ (by have:=HCS.out;omega),HTK.out];simp,fun q hq=>by rw[List.getElem?_set_ne (by omega)];exact HSM.out q (by omega),by rw[List.length_set];exact HO.out,HG.out⟩
    case measure=>simp [intOf];omega
  ·have e1:¬(j:Int)<(n:Int):=by omega
   obtain rfl:n=j:=by omega
   have e4:(0:Int)≤(i:Int):=by omega
   have hcut:=fun(vs:List Value) (h:vs.length=(n - i)*4)=>row_cut anC_length HO.out (show i≤cs.length by have:=HCS.out;omega) vs (by have:=HCS.out;omega)
   obtain⟨vs,hvs,hcl⟩:=HCL.out wr 0 (i*4) (n - i) (cap - i) (row_there HO.out _ _ (by have:=HCS.out;omega))
   have ho2:=hcut vs hvs
   have hg2:=Wh.g_cells (row:=some g) (g:=g) (.inl rfl) vs (i*4) _ HG.out
   have hrow:List.take i cs=keepL t es:=by rw[HTK.out,List.take_of_length_le (by rw[←EN.out];exact Nat.le_refl _)]
   have hrl:(keepL t es).length=i:=by rw[←hrow,List.length_take];have:=HCS.out;omega
   rw[hrow] at ho2
   have e5:(i:Int)≤(n:Int):=by omega
   have e6:(n:Int)≤(cap:Int):=by have:=HCAP.out;omega
   have hcl2:∀ty,(Builtin.clear_ #[39] ty #[.slice (some ⟨g,i*4,none⟩) (n - i) (cap - i)]).run Try.prog wr = .ok (.tuple #[]) (wr.setCells g (i*4) vs):=fun _=>hcl
   have H1:=Lib.hid ho2;have H2:=Lib.hid hg2;have H3:=Lib.hid hrl
   clear ho2 hg2 hrow hrl hcl hcut hvs HO HG HTK HSM
   go_wp2
   go_ret
   exact⟨by rw[H3.out];rfl,by rw[H3.out];exact H1.out,H2.out⟩
theorem delf_any (es:List An) (t:Int) (bn B:Nat) (v:Value) (w:World) (ho:w.ownsRow B 31 4 v es.length (es.flatMap anC)) (hB:B≤w.heap.size) (ht:w.cell? ⟨bn,0,none⟩=some (.int .i64 t)) (htm:Tm t∧∀a∈es,Tm a.t)
  (hbn:v.ownBlock≠some bn) (hl:es.length≤1000) :
  Calls Try.prog 20 #[v,.func (.func 21) #[] #[.pointer (some ⟨bn,0,none⟩)]] w fun e w'=>∃v',e = .returned v'∧
   w'.ownsRow B 31 4 v' (keepL t es).length ((keepL t es).flatMap anC)∧w.grownBy w' v.ownBlock∧v'.ownBlock=v.ownBlock:=by
 cases hi:goI t es with
 |none=>
  have he:=restE_none hi
  obtain⟨A,c,rfl,_,_,hr⟩:=own_rdr anC_length ho
  have CI:=idx_any es t bn A c w.heap.size w hr (Nat.le_refl _) ht htm hl
  rw[hi,show goN none = -1 from rfl] at CI
  have HO:=Lib.hid ho
  rw[he]
  obtain⟨n,en⟩:∃n,n=es.length:=⟨_,rfl⟩
  rw[←en] at CI HO⊢
  clear hi ht htm hbn hl hr he en ho
  go_enter Try.func20,Try.ntmps20
  go_wp2_with (first
   |(go_at_call 25;refine Calls.mono CI ?_;rintro e w1 ⟨rfl,hb⟩;have HB:=Lib.hid hb;clear hb CI)
   |fail)
  go_ret
  exact⟨_,rfl,own_kept HO.out HB.out,g_of_below HB.out _,rfl⟩
 |some i0=>
  rcases ho.2 with⟨rfl,h2⟩ | ⟨g,cap,cur,rfl,_⟩
  ·obtain⟨x,hx,_⟩:=goI_spec hi
   have:=(List.getElem?_eq_some_iff.1 hx).1
   omega
  ·refine(delf_some es t bn g cap B i0 w ho hB ht htm (fun e=>hbn (e▸rfl)) hl hi).mono ?_
   rintro e w' ⟨rfl,h1,h2⟩
   exact⟨_,rfl,h1,h2,rfl⟩
end Go.Proofs.Ytnmeicnppablkaa.Rp
end

section
set_option linter.unusedVariables false
set_option linter.unusedSimpArgs false
namespace Go.Proofs.Ytnmeicnppablkaa.Rp
open Go.RowKit Go.Proofs.Ytnmeicnppablkaa.Mem Go.Proofs.Ytnmeicnppablkaa.Se
open Go.Proofs.Ytnmeicnppablkaa.Ms (An)
open Go.Proofs.Ytnmeicnppablkaa.Rg (RdR own_rdr own_chg)
theorem eql_an (x y:An) (w:World):(Op.equalIn 10000 31 (.agg (anA x)) (.agg (anA y))).run Try.prog w = .ok (decide (x=y)) w:=by
 obtain⟨⟨a,b⟩,c,d⟩:=x
 obtain⟨⟨a',b'⟩,c',d'⟩:=y
 by_cases h0:a=a'
 ·subst h0
  by_cases h1:b=b'
  ·subst h1
   by_cases h2:c=c'
   ·subst h2
    by_cases h3:d=d'
    ·subst h3
     rw[decide_eq_true rfl]
     go_simp
    ·rw[decide_eq_false (fun h=>h3 (congrArg (fun z=>z.q) h))]
     go_simp
   ·rw[decide_eq_false (fun h=>h2 (congrArg (fun z=>z.t) h))]
    go_simp
  ·rw[decide_eq_false (fun h=>h1 (congrArg (fun z=>z.c.2) h))]
   go_simp
 ·rw[decide_eq_false (fun h=>h0 (congrArg (fun z=>z.c.1) h))]
  go_simp
def ixA (a:An) (l:List An):Int:=match l.findIdx? (fun x=>decide (a=x)) with
 |none=>-1
 |some i=>(i:Int)
theorem ixA_ge (a:An) (l:List An):decide (0≤ixA a l)=decide (a∈l):=by
 unfold ixA
 refine decide_eq_decide.2 ?_
 cases h:l.findIdx? (fun x=>decide (a=x)) with
 |none=>
  refine⟨fun x=>by simp at x,fun x=>?_⟩
  have:=List.findIdx?_eq_none_iff.1 h a x
  simp at this
 |some i=>
  obtain⟨h1,h2,_⟩:=List.findIdx?_eq_some_iff_getElem.1 h
  refine⟨fun _=>?_,fun _=>by simp⟩
  rw[of_decide_eq_true h2]
  exact List.getElem_mem _
theorem ixA_some {a:An} {l:List An} {i:Nat} {x:An} (hx:l[i]? = some x) (hd:decide (a=x)=true) (hn:∀j y,j<i→l[j]? = some y→decide (a=y)=false):ixA a l=(i:Int):=by
 obtain⟨h1,h2⟩:=List.getElem?_eq_some_iff.1 hx
 rw[ixA,List.findIdx?_eq_some_iff_getElem.2 ⟨h1,by rw[h2];exact hd,fun j hj=>by
  rw[hn j _ hj (List.getElem?_eq_getElem (by omega))]
  simp⟩]
theorem ixA_none {a:An} {l:List An} (hn:∀j y,j<l.length→l[j]? = some y→decide (a=y)=false):ixA a l = -1:=by
 rw[ixA,List.findIdx?_eq_none_iff.2 fun x hx=>?_]
 obtain⟨j,hj1,hj2⟩:=List.getElem_of_mem hx
 exact hn j x hj1 (by rw[←hj2];exact List.getElem?_eq_getElem hj1)
set_option maxHeartbeats 1600000 in
set_option maxRecDepth 100000 in
theorem aidx_any (l:List An) (a:An) (A:Option Addr) (c B:Nat) (w:World) (hr:RdR w B A anC 4 l) (hB:B≤w.heap.size) (hl:l.length≤1000) :
  Calls Try.prog 26 #[.slice A l.length c,.agg (anA a)] w fun e w'=>e = .returned (.int .i64 (ixA a l))∧Below w.heap.size w w':=by
 obtain⟨n,en⟩:∃n,n=l.length:=⟨_,rfl⟩
 have EN:=Lib.hid en
 rw[←en] at hl⊢
 obtain⟨W,eW⟩:∃W,W=w.alloc (.cells (anA a) 31):=⟨_,rfl⟩
 have hb:Below w.heap.size w W:=eW▸(Below.refl _ _).alloc (Nat.le_refl _) _
 have HK:=Lib.hid (show Blk W w.heap.size 31 (anA a) by rw[eW];exact Blk.new _ _ _)
 have HB:=Lib.hid hb
 have HR:=Lib.hid (hr.keep (hb.mono hB))
 have HBB:=Lib.hid hB
 clear hr en hB hb
 go_enter Try.func26,Try.ntmps26
 go_upto_region 1 with fail
 rw[←eW]
 clear eW
 go_wp2
 go_loopw [8] (fun iv wr=>∃i:Nat,i≤n∧iv = .int .i64 (i:Int)∧Below w.heap.size w wr∧RdR wr B A anC 4 l∧Blk wr w.heap.size 31 (anA a)∧∀j x,j<i→l[j]? = some x→decide (a=x)=false) (fun iv _=>n - (intOf iv).toNat)
 case atStart=>exact⟨0,Nat.zero_le _,rfl,HB.out,HR.out,HK.out,fun j x hj=>absurd hj (Nat.not_lt_zero _)⟩
 case round=>
  clear HB HR HK
  obtain⟨i,hi,rfl,hb,hr,hk,hno⟩:=hrel
  have HB:=Lib.hid hb;have HNO:=Lib.hid hno;have HR:=Lib.hid hr;have HK:=Lib.hid hk
  clear hb hno hr hk
  by_cases hlt:i<n
  ·have e1:(i:Int)<(n:Int):=by omega
   have e2:(0:Int)≤(i:Int):=by omega
   obtain⟨x,hx⟩:∃x,l[i]? = some x:=⟨l[i]'(by rw[←EN.out];exact hlt),List.getElem?_eq_getElem _⟩
   obtain⟨g,rfl,hgN,hra⟩:=HR.out.at_ hx
   have HX:=Lib.hid hx
   have HRA:=Lib.hid hra
   have q:=eql_an a x
   obtain⟨b,eb⟩:∃b,b=decide (a=x):=⟨_,rfl⟩
   rw[←eb] at q
   have EB:=Lib.hid eb
   have k0:=HK.out.cell 0;have k1:=HK.out.cell 1;have k2:=HK.out.cell 2;have k3:=HK.out.cell 3
   have x0:wr.cell? ⟨g,i*4,none⟩=some _:=hra 0 _ rfl;have x1:=hra 1 _ rfl;have x2:=hra 2 _ rfl;have x3:=hra 3 _ rfl
   clear hra hx eb
   cases b with
   |true=>
    go_wp2
    go_quiet (fail)
    go_wp2
    go_ret
    exact⟨by rw[ixA_some HX.out EB.out.symm HNO.out];rfl,below_drewN HB.out _⟩
   |false=>
    go_wp2
    go_quiet (fail)
    go_wp2
    go_roundw
    case rel=>exact⟨i+1,by omega,by go_num,below_drewN HB.out _,HR.out.keep (below_drewN (Below.refl _ _) _),HK.out.below (below_drewN (Below.refl _ _) _),fun j y hj hy=>by
     rcases Nat.lt_or_eq_of_le (Nat.le_of_lt_succ hj) with g | g
     ·exact HNO.out j y g hy
     ·rw[g,HX.out] at hy
      injection hy with hy
      rw[←hy]
      exact EB.out.symm⟩
    case measure=>simp [intOf];omega
  ·have e1:¬(i:Int)<(n:Int):=by omega
   obtain rfl:n=i:=by omega
   go_wp2
   go_ret
   exact⟨by rw[ixA_none (fun j y hj hy=>HNO.out j y (by rw[EN.out];exact hj) hy)];rfl,HB.out⟩
set_option maxRecDepth 100000 in
theorem acontains_any (l:List An) (a:An) (A:Option Addr) (c B:Nat) (w:World) (hr:RdR w B A anC 4 l) (hB:B≤w.heap.size) (hl:l.length≤1000) :
  Calls Try.prog 23 #[.slice A l.length c,.agg (anA a)] w fun e w'=>e = .returned (.bool (decide (a∈l)))∧Below w.heap.size w w':=by
 have E:=Lib.hid (ixA_ge a l)
 obtain⟨W,eW⟩:∃W,W=w.alloc (.cells (anA a) 31):=⟨_,rfl⟩
 have hb:Below w.heap.size w W:=eW▸(Below.refl _ _).alloc (Nat.le_refl _) _
 have hk:Blk W w.heap.size 31 (anA a):=by rw[eW];exact Blk.new _ _ _
 have c1:=aidx_any l a A c B W (hr.keep (hb.mono hB)) (Nat.le_trans hB hb.size) hl
 obtain⟨z,ez⟩:∃z,z=ixA a l:=⟨_,rfl⟩
 rw[←ez] at c1
 have EZ:=Lib.hid ez
 have HB:=Lib.hid hb
 have k0:=hk.cell 0;have k1:=hk.cell 1;have k2:=hk.cell 2;have k3:=hk.cell 3
 clear ez hr hb hk
 go_enter Try.func23,Try.ntmps23
 go_upto_region 1 with fail
 rw[←eW]
 clear eW
 go_wp2_with (go_at_call 26;refine Calls.mono c1 ?_;rintro e w1 ⟨rfl,hb⟩;replace HB:=Lib.hid (HB.out.trans (hb.mono HB.out.size));clear hb)
 go_ret
 exact⟨by rw[←E.out,←EZ.out];rfl,HB.out⟩
end Go.Proofs.Ytnmeicnppablkaa.Rp
end

section
set_option linter.unusedVariables false
set_option linter.unusedSimpArgs false
namespace Go.Proofs.Ytnmeicnppablkaa.Ca
open Go.RowKit Go.Proofs.Ytnmeicnppablkaa.Mem Go.Proofs.Ytnmeicnppablkaa.Se
open Go.Proofs.Ytnmeicnppablkaa.Nm (L)
open Go.Proofs.Ytnmeicnppablkaa.Rg (Pr)
theorem room_big (n:Nat) (hn:n≤140737488351232) (w:World):(Instr.makeSlice 58 (.int .i64 (n:Int)) (.int .i64 (n:Int))).run Try.prog w = .ok (.slice (some ⟨w.heap.size,0,none⟩) n n) (w.alloc (.cells (zeros n) 5)):=by
 obtain⟨i0,hi,hz,hs,hb⟩:=info_parts Nm.u8_row
 have h:=run_make (P:=Try.prog) w 58 5 i0 _ Try.underlying58 hi hz .i64 .i64 (n:Int) (n:Int) (by omega) (by omega) (by rw[hb];omega) (by omega)
 have e:madeCells (Value.int .u8 0).cells (((n:Int)).toNat*i0.size)=zeros n:=by
  rw[hs,Nat.mul_one,Int.toNat_natCast]
  refine Array.toList_inj.1 ?_
  show(madeCells #[Value.int .u8 0] n).toList=_
  rw[toList_madeCells_one];simp [zeros,bv]
 rw[e] at h
 simpa using h
theorem told_big (s:L) (h0:s≠[]) (hs:s.length≤140737488351232) (w:World):(Builtin.unsafeString_ #[59,3] 9 #[.pointer (some ⟨w.heap.size,0,none⟩),.int .i64 (s.length:Int)]).run Try.prog (w.alloc (.cells (bvs s).toArray 5)) = .ok (.string ⟨s.toArray⟩) ((w.alloc (.cells (bvs s).toArray 5)).freeze ⟨w.heap.size,0,none⟩ s.length):=by
 obtain⟨i0,hi,_,hz,_⟩:=info_parts Nm.u8_row
 have hk:=Blk.new w 5 (bvs s).toArray
 refine Lib.run_unsafeString_row (P:=Try.prog) _ _ _ _ 5 Try.underlying59 (by simp [Program.cellsOf,hi,hz]) w.heap.size s.length ?_ s h0 (Nat.le_refl _) (by omega) fun j x hx=>?_
 ·unfold World.shape?
  rw[show(w.alloc (.cells (bvs s).toArray 5)).heap[w.heap.size]? = _ from hk]
  simp [bvs_length]
 ·obtain⟨hj,e⟩:=List.getElem?_eq_some_iff.1 hx
  rw[addr_add,Nat.zero_add,hk.cell,List.getElem?_toArray,bvs_at hj,e];rfl
set_option maxHeartbeats 800000 in
set_option maxRecDepth 100000 in
theorem lclone_big (s:L) (w:World) (hlim:s.length≤140737488351232):Calls Try.prog 27 #[.string ⟨s.toArray⟩] w fun e w'=>e = .returned (.string ⟨s.toArray⟩)∧Below w.heap.size w w':=by
 by_cases h0:s = []
 ·subst h0
  go_enter Try.func27,Try.ntmps27
  go_wp2
  go_ret
  exact⟨rfl,Below.refl _ _⟩
 ·have hmk:=room_big s.length hlim w
  have hcp:=Nm.laid_any s w
  have hus:=told_big s h0 hlim w
  have hl:1≤s.length:=by
   cases s with
   |nil=>exact absurd rfl h0
   |cons a r=>simp
  have t0:((s.length:Int)==0)=false:=by simp;omega
  have HB:=Lib.hid (Lib.below_freeze ((Below.refl w.heap.size w).alloc (Nat.le_refl _) (.cells (bvs s).toArray 5)) (p:=⟨w.heap.size,0,none⟩) (Nat.le_refl _) s.length)
  clear h0
  go_enter Try.func27,Try.ntmps27
  go_wp2
  go_ret
  exact⟨rfl,HB.out⟩
theorem sclone_big (s:L) (w:World) (hlim:s.length≤140737488351232):Calls Try.prog 24 #[.string ⟨s.toArray⟩] w fun e w'=>e = .returned (.string ⟨s.toArray⟩)∧Below w.heap.size w w':=by
 have c1:=lclone_big s w hlim
 go_enter Try.func24,Try.ntmps24
 go_wp2_with (go_at_call 27;refine Calls.mono c1 ?_;rintro e w' ⟨rfl,hb⟩)
 go_ret
 exact⟨rfl,hb⟩
structure Own1 (a w:World) (A:Option Addr) (xs:List Value):Prop where
 rd:Rd w w.heap.size A xs
 lo:∀p,A=some p→a.heap.size≤p.block∧p.block<w.heap.size
 bk:∀p,A=some p→∃t cur,Blk w p.block t cur
theorem Own1.below {a w w':World} {A:Option Addr} {xs:List Value} (h:Own1 a w A xs) (hb:Below w.heap.size w w'):Own1 a w' A xs:=
 ⟨(h.1.below hb).more hb.size,fun p hp=>have q:=h.2 p hp;⟨q.1,Nat.lt_of_lt_of_le q.2 hb.size⟩,fun p hp=>by obtain⟨t,cur,q⟩:=h.3 p hp;exact⟨t,cur,q.below hb⟩⟩
theorem Own1.chg {S:Nat→Prop} {a w w':World} {A:Option Addr} {xs:List Value} (h:Own1 a w A xs) (hc:Chg S w w') (hs:∀p,A=some p→¬S p.block):Own1 a w' A xs:=
 ⟨rd_chg h.1 hc hs,fun p hp=>have q:=h.2 p hp;⟨q.1,Nat.lt_of_lt_of_le q.2 hc.size⟩,fun p hp=>by obtain⟨t,cur,q⟩:=h.3 p hp;exact⟨t,cur,hc.blk q (hs p hp)⟩⟩
theorem Own1.none (a w:World):Own1 a w .none []:=⟨.inl rfl,(fun p hp=>by cases hp),(fun p hp=>by cases hp)⟩
end Go.Proofs.Ytnmeicnppablkaa.Ca
end

section
set_option linter.unusedVariables false
namespace Go.Proofs.Ytnmeicnppablkaa.Reg
open Go.RowKit Go.Proofs.Ytnmeicnppablkaa.Mem
section
variable {P:Program} {ops:Array Oper} {Q:Exit→Act→World→Prop} {md:Region.Mode}
def Eff (P:Program) (md:Region.Mode) (ops:Array Oper) (Q:Exit→Act→World→Prop) (S:World→Prop) (fuel:Nat) (listed:Array Bool) (a:Act) (w:World) (i:Nat):Prop:=
 ∃(dst:Option Tmp) (op:Op) (ty:TypeId) (pos:String) (after:Array _) (guard:Option (Nat×Bool)) (v:Value) (w':World),ops[i]? = some ⟨dst,op,ty,pos,after,guard⟩∧Region.wanted ⟨dst,op,ty,pos,after,guard⟩ (yielded ops a.tmps)=true∧(execOp a.eval ⟨dst,op,ty,pos,after,guard⟩).run P w = .ok (.value v) w'∧S w'∧wpAnyH P md ops Q S fuel (listed.setIfInBounds i true) (a.put dst v) w'
end
end Go.Proofs.Ytnmeicnppablkaa.Reg
end

section
set_option linter.unusedVariables false
namespace Go.Proofs.Ytnmeicnppablkaa.Reg
open Go.RowKit Go.Proofs.Ytnmeicnppablkaa.Mem
section
variable {P:Program} {ops:Array Oper} {Q:Exit→Act→World→Prop} {md:Region.Mode} {S:World→Prop}
theorem any_begin (S:World→Prop) (n:Nat) {id:Nat} {a:Act} {w:World} (hn:ops.size=n) (hm:P.follows .mixedOrders=true) (hS:S w.drew) (h:wpAnyH P .any ops Q S n (Array.replicate n false) a w.drew):(Code.region id ops true).wp P Q a w:=by
 subst hn
 exact wp_region_held_drew hm hS (fun _=>h)
theorem any_take (i:Nat) {dst:Option Tmp} {op:Op} {ty:TypeId} {pos:String} {after:Array _} {guard:Option (Nat×Bool)} {v:Value} {fuel:Nat} {listed:Array Bool} {a:Act} {w:World} (hi:ops[i]? = some ⟨dst,op,ty,pos,after,guard⟩)
  (hs:Region.noSelect ops=true) (hf:Region.free md ops listed i=true) (hr:(Region.ready md ops listed).contains i=true)
  (hQ:∀c a w,Q (.panic c) (a.put dst v) w→Q (.panic c) a w) (hS:S w)
  (hw:Region.wanted ⟨dst,op,ty,pos,after,guard⟩ (yielded ops a.tmps)=true) (hy:∀w',S w'→(execOp a.eval ⟨dst,op,ty,pos,after,guard⟩).run P w' = .ok (.value v) w')
  (h:wpAnyH P md ops Q S fuel (listed.setIfInBounds i true) (a.put dst v) w):wpAnyH P md ops Q S (fuel+1) listed a w:=
 wpAnyH_take hi hs hf hr hQ (.inl ⟨hw,hy⟩) hS h
theorem any_store (i:Nat) {dst:Option Tmp} {op:Op} {ty:TypeId} {pos:String} {after:Array _} {guard:Option (Nat×Bool)} {fuel:Nat} {listed:Array Bool} {a:Act} {w:World} (w':World) (hi:ops[i]? = some ⟨dst,op,ty,pos,after,guard⟩)
  (hr:Region.ready md ops listed = [i]) (hw:Region.wanted ⟨dst,op,ty,pos,after,guard⟩ (yielded ops a.tmps)=true) (hx:(execOp a.eval ⟨dst,op,ty,pos,after,guard⟩).run P w = .ok .skip w') (hS:S w')
  (h:wpAnyH P md ops Q S fuel (listed.setIfInBounds i true) (a.put dst undef) w'):wpAnyH P md ops Q S (fuel+1) listed a w:=by
 refine wpAnyH_all hr (by simp) fun j hj=>?_
 obtain rfl:j=i:=by simpa using hj
 unfold wpOp
 simp only[hi]
 rw[if_pos hw]
 left
 unfold Oper.wp
 rw[hx]
 exact⟨hS,h⟩
end
end Go.Proofs.Ytnmeicnppablkaa.Reg
end

section
set_option linter.unusedVariables false
namespace Go.Proofs.Ytnmeicnppablkaa.Reg
open Go.RowKit Go.Proofs.Ytnmeicnppablkaa.Mem
section
variable {P:Program} {ops:Array Oper} {Q:Exit→Act→World→Prop} {md:Region.Mode}
def Ent (P:Program) (md:Region.Mode) (ops:Array Oper) (Q:Exit→Act→World→Prop) (S:World→Prop) (fuel:Nat) (listed:Array Bool) (a:Act) (w:World) (i:Nat):Prop:=
 ∃(dst:Option Tmp) (op:Op) (ty:TypeId) (pos:String) (after:Array _) (guard:Option (Nat×Bool)) (f:FuncId) (args:Array Value),ops[i]? = some ⟨dst,op,ty,pos,after,guard⟩∧Region.wanted ⟨dst,op,ty,pos,after,guard⟩ (yielded ops a.tmps)=true∧(execOp a.eval ⟨dst,op,ty,pos,after,guard⟩).run P w = .ok (.enter f args) w∧
  Calls P f args w fun e w'=>∃v,e = .returned v∧S w'∧wpAnyH P md ops Q S fuel (listed.setIfInBounds i true) (a.put dst v) w'
theorem both_all (is:List Nat) {S:World→Prop} {fuel:Nat} {listed:Array Bool} {a:Act} {w:World} (hr:Region.ready md ops listed=is) (hne:is≠[]) (h:∀j∈is,Eff P md ops Q S fuel listed a w j∨Ent P md ops Q S fuel listed a w j):wpAnyH P md ops Q S (fuel+1) listed a w:=by
 refine wpAnyH_all hr hne fun j hj=>?_
 rcases h j hj with⟨dst,op,ty,pos,after,guard,v,w',hi,hw,hx,hs,hh⟩ | ⟨dst,op,ty,pos,after,guard,f,args,hi,hw,hx,hh⟩
 ·unfold wpOp
  simp only[hi]
  rw[if_pos hw]
  left
  unfold Oper.wp
  rw[hx]
  exact⟨hs,hh⟩
 ·unfold wpOp
  simp only[hi]
  rw[if_pos hw]
  left
  unfold Oper.wp
  rw[hx]
  refine hh.mono ?_
  rintro e w' ⟨v,rfl,hs,hh⟩
  exact⟨hs,hh⟩
end
end Go.Proofs.Ytnmeicnppablkaa.Reg
end

section
set_option linter.unusedVariables false
namespace Go.Proofs.Ytnmeicnppablkaa.Reg
open Go.RowKit Go.Proofs.Ytnmeicnppablkaa.Mem
section
variable {P:Program} {ops:Array Oper} {Q:Exit→Act→World→Prop} {md:Region.Mode} {S:World→Prop}
theorem tk (i:Nat) {dst:Option Tmp} {op:Op} {ty:TypeId} {pos:String} {after:Array _} {guard:Option (Nat×Bool)} {v:Value} {fuel:Nat} {listed:Array Bool} {a:Act} {w:World} (hi:ops[i]? = some ⟨dst,op,ty,pos,after,guard⟩) (hS:S w)
  (hy:∀w',S w'→(execOp a.eval ⟨dst,op,ty,pos,after,guard⟩).run P w' = .ok (.value v) w')
  (h:wpAnyH P md ops Q S fuel (listed.setIfInBounds i true) (a.put dst v) w)
  (hs:Region.noSelect ops=true:=by kernel_rfl) (hf:Region.free md ops listed i=true:=by kernel_rfl) (hr:(Region.ready md ops listed).contains i=true:=by kernel_rfl)
  (hQ:∀c a w,Q (.panic c) (a.put dst v) w→Q (.panic c) a w:=by exact fun _ _ _ h=>h) (hw:Region.wanted ⟨dst,op,ty,pos,after,guard⟩ (yielded ops a.tmps)=true:=by rfl):wpAnyH P md ops Q S (fuel+1) listed a w:=
 any_take i hi hs hf hr hQ hS hw hy h
theorem s0 {α:Type} (l:List α) (i:Nat) (a:α):l.toArray.setIfInBounds i a=(l.set i a).toArray:=List.setIfInBounds_toArray ..
theorem s1 {α:Type} {x:α} {xs:List α} {a:α}:(x :: xs).set 0 a=a :: xs:=rfl
theorem s2 {α:Type} {x:α} {xs:List α} {n:Nat} {a:α}:(x :: xs).set (n+1) a=x :: xs.set n a:=rfl
end
end Go.Proofs.Ytnmeicnppablkaa.Reg
end
