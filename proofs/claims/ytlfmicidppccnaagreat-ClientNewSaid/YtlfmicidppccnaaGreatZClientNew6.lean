import Derived.Test.YtlfmicidppccnaaGreatZClientNew5
set_option maxHeartbeats 25600000
set_option maxRecDepth 100000
set_option linter.unusedVariables false
set_option linter.unusedSimpArgs false
namespace Go.Proofs.YtlfmicidppccnaaGreat
namespace Reg
open Go.RowKit Ad
section
variable {P:Program} {ops:Array Oper} {Q:Exit→Act→World→Prop} {md:Region.Mode} {S:World→Prop}
theorem Ay (i:Nat) {dst:Option Tmp} {sty:TypeId} {x y:Operand} {ty:TypeId} {pos:String} {after:Array _} {guard:Option (Nat×Bool)} {fuel:Nat} {listed:Array Bool} {a:Act} {w:World} (hi:ops[i]? = some ⟨dst,.store sty x y,ty,pos,after,guard⟩)
  (hr:Region.ready md ops listed = [i]) (hw:Region.wanted ⟨dst,.store sty x y,ty,pos,after,guard⟩ (yielded ops a.tmps)=true) (g:Nat) (t:TypeId) (old cells:Array Value) (hb:Blk w g t old) (hx:a.eval x = .pointer (some ⟨g,0,none⟩)) (hy:a.eval y = .agg cells) (hs:old.size=cells.size)
  (hI:(P.info? sty).map (·.size)=some cells.size) (h1:cells.all (·.oneCell')=true)
  (h:∀V,Blk V g t cells→w.grownBy V (some g)→S V∧wpAnyH P md ops Q S fuel (listed.setIfInBounds i true) (a.put dst undef) V):wpAnyH P md ops Q S (fuel+1) listed a w:=by
 have ht:w.there g 0 cells.size:=Wh.AU hb 0 _ (by omega);have hrun:(execOp a.eval ⟨dst,.store sty x y,ty,pos,after,guard⟩).run P w = .ok .skip (w.setCells g 0 cells.toList):=by
  unfold execOp;simp only[hx,hy,Instr.storeAt,Instr.sureAddr,Sem.run_bind,Sem.run_pure,Result.andThen_ok,run_storeVar_mid w g 0 sty cells ht hI h1]
 obtain⟨h2,h3⟩:=h _ (Wh.AN hb hs) (Wh.By _ _ _ _);exact Gi i _ hi hr hw hrun h2 h3
theorem tk (i:Nat) {dst:Option Tmp} {op:Op} {ty:TypeId} {pos:String} {after:Array _} {guard:Option (Nat×Bool)} {v:Value} {fuel:Nat} {listed:Array Bool} {a:Act} {w:World} (hi:ops[i]? = some ⟨dst,op,ty,pos,after,guard⟩) (hS:S w)
  (hy:∀w',S w'→(execOp a.eval ⟨dst,op,ty,pos,after,guard⟩).run P w' = .ok (.value v) w')
  (h:wpAnyH P md ops Q S fuel (listed.setIfInBounds i true) (a.put dst v) w)
  (hs:Region.noSelect ops=true:=by kernel_rfl) (hf:Region.free md ops listed i=true:=by kernel_rfl) (hr:(Region.ready md ops listed).contains i=true:=by kernel_rfl)
  (hQ:∀c a w,Q (.panic c) (a.put dst v) w→Q (.panic c) a w:=by exact fun _ _ _ h=>h) (hw:Region.wanted ⟨dst,op,ty,pos,after,guard⟩ (yielded ops a.tmps)=true:=by rfl):wpAnyH P md ops Q S (fuel+1) listed a w:=
 EZ i hi hs hf hr hQ hS hw hy h
theorem s0 {α:Type} (l:List α) (i:Nat) (a:α):l.toArray.setIfInBounds i a=(l.set i a).toArray:=List.setIfInBounds_toArray ..
theorem s1 {α:Type} {x:α} {xs:List α} {a:α}:(x :: xs).set 0 a=a :: xs:=rfl
theorem s2 {α:Type} {x:α} {xs:List α} {n:Nat} {a:α}:(x :: xs).set (n+1) a=x :: xs.set n a:=rfl
end
end Reg
namespace Ca
open Go.RowKit Ad Se
open Nm (L)
open Rg (Pr prC prV AD RdR CH BV Bl BF)
theorem Bw {P:Program} {fn:Func} {tmps:Array Value} {w:World} {v u:Value} (t q:Nat) (ty:TypeId) (a:Addr) (hres:fn.results=#[.cell t ty,.tmp q]) (ht:tmps.getD t undef = .pointer (some a)) (hl:(loadVar ty a).run P w = .ok v w) (hq:tmps.getD q undef=u) :
  (results fn tmps).run P w = .ok (.tuple #[v,u]) w:=by
 have ht':tmps[t]?.getD undef = .pointer (some a):=by simpa using ht
 have hq':tmps[q]?.getD undef=u:=by simpa using hq
 simp [results,hres,ht',hq',asAddr,hl]
theorem Ke (B:Nat) (w:World) (hB:B≤w.heap.size):Calls Tryz.prog 68 #[] w fun e w'=>e = .returned (.pointer (some ⟨w.heap.size,0,none⟩))∧Ca w' B w.heap.size (.slice none 0 0) []∧Below w.heap.size w w'∧w'.heap.size=w.heap.size+1:=by
 have h1:Ca (w.alloc (.cells #[.slice none 0 0] 168)) B w.heap.size (.slice none 0 0) []:=
  ⟨Blk.new _ _ _,World.ownsRow_nil _ _ _ _,hB,(fun h=>by cases h),(fun e he=>by cases he),(fun e he=>by cases he)⟩
 have H1:=I h1;have H2:=I ((Below.refl w.heap.size w).alloc Ae (.cells #[.slice none 0 0] 168));clear h1;go_enter Tryz.func68,Tryz.ntmps68
 go_wp2
 go_ret;exact⟨rfl,H1.o,H2.o,by simp⟩
def Fit (x:Cr):Prop:=x.s.1.length≤140737488351232∧x.s.2.length≤140737488351232∧x.b.length≤100000000000
def Fits (l:List It):Prop:=∀i∈l,Fit i.2
def getX:Option It→Cr
 |none=>Bz
 |some i=>i.2
theorem Hp {l:List It} {p:Pr} {t:Int} {i:Nat} {x:It} (hx:l[i]? = some x) (hh:hitG p t x=true) (hn:∀j y,j<i→l[j]? = some y→hitG p t y=false):getO l p t=some x:=by
 obtain⟨h1,h2⟩:=List.getElem?_eq_some_iff.1 hx;unfold getO;rw[List.find?_eq_some_iff_getElem];refine⟨hh,i,h1,h2,fun j hj=>?_⟩;have:=hn j _ hj (List.getElem?_eq_getElem (by omega));simp [this]
theorem Gn {l:List It} {p:Pr} {t:Int} (hn:∀j y,j<l.length→l[j]? = some y→hitG p t y=false):getO l p t=none:=by
 unfold getO;rw[List.find?_eq_none];intro x hx;obtain⟨j,hj1,hj2⟩:=List.getElem_of_mem hx;have:=hn j x hj1 (by rw[←hj2];exact List.getElem?_eq_getElem hj1);simp [this]
theorem IA {es:List En} {i:Nat} {x:It} (h:(its es)[i]? = some x):∃e,es[i]? = some e∧e.it=x:=by simpa [its] using h
theorem Kf {es:List En} {i:Nat} {e:En} (h:es[i]? = some e):(its es)[i]? = some e.it:=by simp [its,h]
theorem Jn (B r:Nat) (v:Value) (es:List En) (p:Pr) (t:Int) (w:World) (h:Ca w B r v es) (hf:Fits (its es)) (hl:es.length≤1000) :
  Calls Tryz.prog 41 #[.pointer (some ⟨r,0,none⟩),prV p,.int .i64 t] w fun e w'=>∃A c,e = .returned (.tuple #[.agg (crA (getX (getO (its es) p t)) A c),.bool (getO (its es) p t).isSome])∧Own1 w w' A (bvs (getX (getO (its es) p t)).b)∧Below w.heap.size w w'∧(getX (getO (its es) p t)).b.length≤c:=by
 obtain⟨o,eo⟩:∃o,o=getO (its es) p t:=⟨_,rfl⟩;rw[←eo];have EO:=I eo;obtain⟨A0,c0,rfl,_,_,hr⟩:=h.num;have hb0:=h.blk;obtain⟨n,en⟩:∃n,n=es.length:=⟨_,rfl⟩;have EN:=I en;rw[←en] at hb0 hl;have CX:=I (fun(x:En) (hx:x∈es) (w1:World) (hb:Below w.heap.size w w1)=>have q:=hf x.it (List.mem_map.2 ⟨x,hx,rfl⟩);Jm x.x x.A x.c w1.heap.size w1 (((h.rd x hx).below hb).more hb.size) Ae q.1 q.2.1 q.2.2);have HR:=I hr;have hrl:=h.lt;obtain⟨zs,ezs⟩:∃zs,zs=crA Bz none 0:=⟨_,rfl⟩;have EZS:=I ezs;have EZ2:=I (ezs.trans Ez);have HZS:=I (show zs.size=37 by rw[ezs,Ag]);have HZI:=I (show(Tryz.prog.info? 44).map (·.size)=some zs.size by rw[ezs,Ag];exact AJ);have HZ1:=I (show zs.all (·.oneCell')=true by rw[ezs];exact AX _ _ _);obtain⟨W,eW⟩:∃W,W=(w.alloc (.cells #[.string ⟨p.1.toArray⟩,.string ⟨p.2.toArray⟩] 40)).alloc (.cells zs 44):=⟨_,rfl⟩;have hb:Below w.heap.size w W:=eW▸(Af.alloc Ae _).alloc (by simp) _;have HP:=I (show Blk W w.heap.size 40 #[.string ⟨p.1.toArray⟩,.string ⟨p.2.toArray⟩] from eW▸(Blk.new w _ _).alloc _);have HZ:=I (show Blk W (w.heap.size+1) 44 zs by have:=Blk.new (w.alloc (.cells #[.string ⟨p.1.toArray⟩,.string ⟨p.2.toArray⟩] 40)) 44 zs;simp only[World.size_alloc] at this;exact eW▸this);have HB:=I hb;have k0:W.cell? ⟨r,0,none⟩=some (.slice A0 n c0):=(hb.cell (p:=⟨r,0,none⟩) hrl).trans (hb0.cell 0);clear h hf hb hb0 hr eo en ezs hrl;go_enter Tryz.func41,Tryz.ntmps41
 go_upto_region 1 with fail
 rw[←EZ2.o,←eW];clear eW EZ2
 go_wp2
 go_loopw [18] (fun iv wr=>∃i:Nat,i≤n∧iv = .int .i64 (i:Int)∧Below w.heap.size w wr∧Blk wr w.heap.size 40 #[.string ⟨p.1.toArray⟩,.string ⟨p.2.toArray⟩]∧Blk wr (w.heap.size+1) 44 zs∧∀j x,j<i→es[j]? = some x→hitG p t x.it=false) (fun iv _=>n - (intOf iv).toNat)
 case atStart=>exact⟨0,Nat.zero_le _,rfl,HB.o,HP.o,HZ.o,fun j x hj=>absurd hj (Nat.not_lt_zero _)⟩
 case round=>
  clear HB HP HZ k0;obtain⟨i,hi,rfl,hb,hp,hz,hno⟩:=hrel;have HB:=I hb;have HP:=I hp;have HZ:=I hz;have HNO:=I hno;have HRR:=I (HR.o.keep hb);clear hb hp hz hno
  by_cases hlt:i<n
  ·have e1:(i:Int)<(n:Int):=by omega
   have e2:(0:Int)≤(i:Int):=by omega
   obtain⟨x,hx⟩:∃x,es[i]? = some x:=⟨es[i]'(by rw[←EN.o];exact hlt),List.getElem?_eq_getElem _⟩;obtain⟨g,rfl,hgN,hra⟩:=HRR.o.at_ hx;rw[←Dx] at hra;have HRA:=I hra;have his:=Jk;rw[←Da x] at his;have HIS:=I his;have H1X:=I (Ji x);have HX:=I hx;have HM:=I (List.mem_of_getElem? hx);have CC:=I (CX.o x HM.o);obtain⟨xs,exs⟩:∃xs,xs=crA x.x x.A x.c:=⟨_,rfl⟩;rw[←exs] at CC;have HXI:=I (show(Tryz.prog.info? 44).map (·.size)=some xs.size by rw[exs,Ag];exact AJ);have EXS:=I exs;obtain⟨ds,eds⟩:∃ds,ds=enA x:=⟨_,rfl⟩;rw[←eds] at HRA HIS H1X;have EDS:=I eds;have HDS:=I (show #[Value.string ⟨#[]⟩].size=1 from rfl);clear hra his hx eds exs;have hhit:hitG p t x.it=(decide (x.p=p)&&decide (t≤x.x.e)):=rfl;have HHIT:=I hhit;clear hhit
   by_cases hq:x.p=p
   ·have t1:=Bl hq
    rw[decide_eq_true hq] at HHIT;clear hq
    by_cases ht:t≤x.x.e
    ·have t2:decide (t≤x.x.e)=true:=decide_eq_true ht
     rw[t2] at HHIT;clear ht
     go_wp2_with (first
      |(refine Wh.Ab (by rfl) 170 (.tmp 20) (by rfl) g _ (by rfl) ds _ HRA.o Tryz.underlying170 (by rfl) HIS.o ?_)
      |(refine Wh.AG (by rfl) 170 (.tmp 9) (.tmp 21) (by rfl) 170 rfl ds (by rfl) (by rfl) (by rw[EDS.o,Da];rfl) HIS.o H1X.o ?_;rintro V hV hb;replace HB:=HB.t hb;replace HP:=I (HP.o.below hb);replace HZ:=I (HZ.o.below hb);have hen:=Gm (EDS.o▸hV);have HEN:=I hen;have HPR:=I (Wh.Ak HP.o);have ke:V.cell? ⟨wr.heap.size,38,none⟩=some (.int .i64 x.x.e):=Gl (o:=0) hen;have HCRED:=I (Hk hen);clear hV hb hen)
      |(refine Wh.Ab (by rfl) 40 (.tmp 22) (by rfl) _ 0 (by rfl) _ _ (Jj HEN.o) Tryz.underlying40 (by rfl) AD ?_)
      |(refine Wh.Ab (by rfl) 40 (.tmp 4) (by rfl) _ 0 (by rfl) _ _ HPR.o Tryz.underlying40 (by rfl) AD ?_)
      |(refine Wh.Ab (by rfl) 44 (.tmp 33) (by rfl) _ 2 (by rfl) xs _ (by rw[EXS.o,Dy];exact HCRED.o) Tryz.underlying44 (by rfl) HXI.o ?_)
      |(go_at_call 84;refine Calls.mono (CC.o _ HB.o) ?_;rintro e w2 ⟨A',c',rfl,ho,hb,hcap⟩;have HCAP:=I hcap;clear hcap;have HNE:=I (show ∀p,A'=some p→p.block≠w.heap.size+1 from fun p hp=>by have:=HZ.o.lt;have:=(ho.2 p hp).1;omega);replace HZ:=I (HZ.o.below hb);have HO:=I (ho.since HB.o.size);replace HB:=HB.t hb;obtain⟨rs,ers⟩:∃rs,rs=crA x.x A' c':=⟨_,rfl⟩;rw[←ers];have ERS:=I ers;have HRS:=I (show rs.size=37 by rw[ers,Ag]);have HRI:=I (show(Tryz.prog.info? 44).map (·.size)=some rs.size by rw[ers,Ag];exact AJ);have HR1:=I (show rs.all (·.oneCell')=true by rw[ers];exact AX _ _ _);clear ho hb ers ke)
      |(refine Wh.BZ (by rfl) 44 (.tmp 6) (.tmp 35) (by rfl) (w.heap.size+1) 44 _ HZ.o rs (by rfl) (by rfl) (by rw[HZS.o,HRS.o]) HRI.o HR1.o ?_;rintro V2 hV2 hg;have HV:=I hV2;replace HB:=I (btg HB.o hg (by omega));replace HO:=I (HO.o.chg (Chg.of_grown (S:=fun k=>k=w.heap.size+1) hg rfl) (fun p hp=>HNE.o p hp));clear hV2 hg)
      |fail)
     have ho:o=some x.it:=by
      rw[EO.o];refine Hp (Kf HX.o) (HHIT.o.trans rfl) (fun j y hj hy=>?_);obtain⟨e,he,rfl⟩:=IA hy;exact HNO.o j e hj he
     clear EO;subst ho;refine bodyPost_ret (v:=.tuple #[.agg rs,.bool true]) ?_ ?_ ?_
     ·exact Bw 6 7 44 ⟨w.heap.size+1,0,none⟩ Tryz.results41 (by rfl) (Wh.Ar HV.o Tryz.underlying44 (by rfl) HRI.o) (by rfl)
     ·rfl
     ·exact⟨A',c',by rw[ERS.o];rfl,HO.o,HB.o,HCAP.o⟩
    ·have t2:decide (t≤x.x.e)=false:=decide_eq_false ht
     rw[t2] at HHIT;clear ht
     go_wp2_with (first
      |(refine Wh.Ab (by rfl) 170 (.tmp 20) (by rfl) g _ (by rfl) ds _ HRA.o Tryz.underlying170 (by rfl) HIS.o ?_)
      |(refine Wh.AG (by rfl) 170 (.tmp 9) (.tmp 21) (by rfl) 170 rfl ds (by rfl) (by rfl) (by rw[EDS.o,Da];rfl) HIS.o H1X.o ?_;rintro V hV hb;replace HB:=HB.t hb;replace HP:=I (HP.o.below hb);replace HZ:=I (HZ.o.below hb);have hen:=Gm (EDS.o▸hV);have HEN:=I hen;have HPR:=I (Wh.Ak HP.o);have ke:V.cell? ⟨wr.heap.size,38,none⟩=some (.int .i64 x.x.e):=Gl (o:=0) hen;have HCRED:=I (Hk hen);clear hV hb hen)
      |(refine Wh.Ab (by rfl) 40 (.tmp 22) (by rfl) _ 0 (by rfl) _ _ (Jj HEN.o) Tryz.underlying40 (by rfl) AD ?_)
      |(refine Wh.Ab (by rfl) 40 (.tmp 4) (by rfl) _ 0 (by rfl) _ _ HPR.o Tryz.underlying40 (by rfl) AD ?_)
      |fail)
     go_roundw
     case rel=>exact⟨i+1,by omega,by go_num,HB.o,HP.o,HZ.o,fun j y hj hy=>by
      rcases Nat.lt_or_eq_of_le (Nat.le_of_lt_succ hj) with g | g
      ·exact HNO.o j y g hy
      ·rw[g,HX.o] at hy
       injection hy with hy;rw[←hy];exact HHIT.o.trans rfl⟩
     case measure=>simp [intOf];omega
   ·have t1:=BF hq
    rw[decide_eq_false hq] at HHIT;clear hq
    go_wp2_with (first
     |(refine Wh.Ab (by rfl) 170 (.tmp 20) (by rfl) g _ (by rfl) ds _ HRA.o Tryz.underlying170 (by rfl) HIS.o ?_)
     |(refine Wh.AG (by rfl) 170 (.tmp 9) (.tmp 21) (by rfl) 170 rfl ds (by rfl) (by rfl) (by rw[EDS.o,Da];rfl) HIS.o H1X.o ?_;rintro V hV hb;replace HB:=HB.t hb;replace HP:=I (HP.o.below hb);replace HZ:=I (HZ.o.below hb);have hen:=Gm (EDS.o▸hV);have HEN:=I hen;have HPR:=I (Wh.Ak HP.o);have ke:V.cell? ⟨wr.heap.size,38,none⟩=some (.int .i64 x.x.e):=Gl (o:=0) hen;have HCRED:=I (Hk hen);clear hV hb hen)
     |(refine Wh.Ab (by rfl) 40 (.tmp 22) (by rfl) _ 0 (by rfl) _ _ (Jj HEN.o) Tryz.underlying40 (by rfl) AD ?_)
     |(refine Wh.Ab (by rfl) 40 (.tmp 4) (by rfl) _ 0 (by rfl) _ _ HPR.o Tryz.underlying40 (by rfl) AD ?_)
     |fail)
    go_roundw
    case rel=>exact⟨i+1,by omega,by go_num,HB.o,HP.o,HZ.o,fun j y hj hy=>by
     rcases Nat.lt_or_eq_of_le (Nat.le_of_lt_succ hj) with g | g
     ·exact HNO.o j y g hy
     ·rw[g,HX.o] at hy
      injection hy with hy;rw[←hy];exact HHIT.o.trans rfl⟩
    case measure=>simp [intOf];omega
  ·have e1:¬(i:Int)<(n:Int):=by omega
   obtain rfl:n=i:=by omega
   have ho:o=none:=by
    rw[EO.o];refine Gn (fun j y hj hy=>?_);rw[CJ,←EN.o] at hj;obtain⟨e,he,rfl⟩:=IA hy;exact HNO.o j e hj he
   clear EO;subst ho
   go_wp2_with (first
    |(refine Wh.BZ (by rfl) 44 (.tmp 6) (.tmp 37) (by rfl) (w.heap.size+1) 44 zs HZ.o (crA Bz none 0) (by rfl) (by rfl) (by rw[HZS.o,Ag]) (by rw[Ag];exact AJ) (AX _ _ _) ?_;rintro V2 hV2 hg;have HV:=I hV2;replace HB:=I (btg HB.o hg (by omega));clear hV2 hg)
    |fail)
   refine bodyPost_ret (v:=.tuple #[.agg (crA Bz none 0),.bool false]) ?_ ?_ ?_
   ·exact Bw 6 7 44 ⟨w.heap.size+1,0,none⟩ Tryz.results41 (by rfl) (Wh.Ar HV.o Tryz.underlying44 (by rfl) (by rw[Ag];exact AJ)) (by rfl)
   ·rfl
   ·first
    |exact⟨none,0,rfl,Own1.none _ _,HB.o,Nat.le_refl _⟩
end Ca
namespace Ca
open Go.RowKit Ad Se
open Nm (L)
open Rg (Pr prC prV AD RdR CH BV)
section
variable {a w w':World} {B r g:Nat} {v v':Value} {es es':List En} {t:TypeId} {cs:Array Value}
theorem Kg (h:CO r (.slice none 0 0) [] g):g=r:=by
 rcases h with h | h | ⟨e,he,_⟩
 ·exact h
 ·cases h
 ·cases he
end
abbrev p1:Pr:=([65],[120])
open Rg (Bl BF)
structure DCa (w:World) (N B q:Nat) (v:Value) (es:List En):Prop where
 blk:Blk w q 50 #[v]
 row:w.ownsRow B 118 39 v es.length (es.flatMap enC)
 lo:B≤q
 vq:v.ownBlock≠some q
 nb:N≤B
 rd:∀e∈es,Rd w N e.A (bvs e.x.b)
section
variable {w w':World} {N B q:Nat} {v v':Value} {es es':List En} {S:Nat→Prop}
theorem DCa.lt (h:DCa w N B q v es):q<w.heap.size:=h.blk.lt
theorem DCa.big (h:DCa w N B q v es):B≤w.heap.size:=by have:=h.lo;have:=h.lt;omega
theorem DCa.own_lt (h:DCa w N B q v es) {k:Nat} (hk:PT q v k):k<w.heap.size:=by
 rcases hk with hk | hk
 ·subst hk;exact h.lt
 ·exact(World.ownsRow.lt h.row k hk).2
theorem Hq {t:TypeId} {n m:Nat} {xs:List Value} {B':Nat} (h:w.ownsRow B' t n v m xs) (hB:B≤B'):w.ownsRow B t n v m xs:=by
 refine⟨h.1,?_⟩;rcases h.2 with h2 | ⟨g,cap,cur,h2,h3,h4⟩
 ·exact .inl h2
 ·exact .inr ⟨g,cap,cur,h2,Nat.le_trans hB h3,h4⟩
end
end Ca
namespace DerC
open Go.RowKit Ad DerP
attribute [local go_sem] CW List.getElem_cons_zero List.getElem_cons_succ Bu Bv Cv
def BS (w w':World):Prop:=∃n,w'=w.drewN n
def Hr:Option L→Array Value
 |none=>#[.string ⟨([]:List UInt8).toArray⟩,.bool true]
 |some s=>#[.string ⟨s.toArray⟩,.bool false]
def Cur (w:World) (g:Nat) (c:Option L):Prop:=Blk w g 258 (Hr c)
theorem Hs (w:World):Calls Tryz.prog 201 #[.pointer none] w fun e w'=>e = .returned (.bool false)∧w=w':=by
 go_enter Tryz.func201,Tryz.ntmps201
 go_wp2
 go_ret;exact⟨rfl,rfl⟩
def splitV (o:Option (L×L)):Value:=.tuple #[.string ⟨((o.map (·.1)).getD []).toArray⟩,.string ⟨((o.map (·.2)).getD []).toArray⟩,.bool o.isSome]
theorem take_nil (t:UInt8) (w:World):Calls Tryz.prog 168 #[.pointer none,.int .u8 t.toNat] w fun e w'=>
  e = .returned (.tuple #[.string ⟨([]:List UInt8).toArray⟩,.bool false])∧w=w':=by
 go_enter Tryz.func168,Tryz.ntmps168
 go_wp2_with (go_at_call 201;refine(Hs _).mono ?_;rintro e w' ⟨rfl,rfl⟩)
 go_ret2
 exact⟨rfl,rfl⟩
end DerC
namespace DerC
open Go.RowKit Ad DerP
attribute [local go_sem] CW List.getElem_cons_zero List.getElem_cons_succ Bu Bv Cv
def numV (p:Nat×Bool):Value:=.tuple #[.int .i64 (p.1:Int),.bool p.2]
end DerC
namespace DerC
open Go.RowKit Ad DerP
attribute [local go_sem] CW List.getElem_cons_zero List.getElem_cons_succ Bu Bv Cv
end DerC
namespace DerLib
open Go.RowKit Ad
theorem CV:(⟨((([0,1,2,2,3,3,3,3,4,4,4,4,4,4,4,4,5,5,5,5,5,5,5,5,5,5,5,5,5,5,5,5,6,6,6,6,6,6,6,6,6,6,6,6,6,6,6,6,6,6,6,6,6,6,6,6,6,6,6,6,6,6,6,6]:List UInt8).append [7,7,7,7,7,7,7,7,7,7,7,7,7,7,7,7,7,7,7,7,7,7,7,7,7,7,7,7,7,7,7,7,7,7,7,7,7,7,7,7,7,7,7,7,7,7,7,7,7,7,7,7,7,7,7,7,7,7,7,7,7,7,7,7]).append (([8,8,8,8,8,8,8,8,8,8,8,8,8,8,8,8,8,8,8,8,8,8,8,8,8,8,8,8,8,8,8,8,8,8,8,8,8,8,8,8,8,8,8,8,8,8,8,8,8,8,8,8,8,8,8,8,8,8,8,8,8,8,8,8]:List UInt8).append [8,8,8,8,8,8,8,8,8,8,8,8,8,8,8,8,8,8,8,8,8,8,8,8,8,8,8,8,8,8,8,8,8,8,8,8,8,8,8,8,8,8,8,8,8,8,8,8,8,8,8,8,8,8,8,8,8,8,8,8,8,8,8,8])).toArray⟩:ByteArray)=Lib.len8tab:=by kernel_rfl
theorem BW (m k p:Nat) (x:Int) (hp:p=2 ^ k) (hx:x=((m / p:Nat):Int)) (hs:m / p<256) (hlo:p≤m∨k=0) (hm:m<18446744073709551616) :
  Lib.len8 x+(k:Int)=(Lib.bitLen m:Int)∧Lib.len8 x≤8∧0≤Lib.len8 x:=by
 have l:=Lib.bitLen_le8 ⟨m / p,hs⟩;have v:=Lib.len8_eq ⟨m / p,hs⟩;simp only at l v;rw[hx,v];have hb:Lib.bitLen m=k+Lib.bitLen (m / p):=by
  rcases hlo with h | h
  ·rw[hp] at h⊢;exact Lib.bitLen_shift k m h hm
  ·subst h;rw[hp];simp
 omega
theorem Gp (m:Nat) (w:World) (hm:m<9223372036854775808):Calls Tryz.prog 247 #[.int .u64 (m:Int)] w fun e w'=>e = .returned (.int .i64 (Lib.bitLen m:Int))∧w=w':=by
 by_cases h1:4294967296≤m
 ·by_cases h2:65536≤m / 4294967296
  ·by_cases h3:256≤m / 4294967296 / 65536
   ·have t1:decide ((4294967296:Int)≤(m:Int))=true:=decide_eq_true (by omega)
    have t2:decide ((65536:Int)≤(m:Int) / 4294967296)=true:=decide_eq_true (by omega);have t3:decide ((256:Int)≤(m:Int) / 4294967296 / 65536)=true:=decide_eq_true (by omega);have AL:=BW m 56 72057594037927936 ((m:Int) / 4294967296 / 65536 / 256 % 256) rfl (by omega) (by omega) (by omega) (by omega);have AH:=I AL;clear AL hm h1 h2 h3;go_enter Tryz.func247,Tryz.ntmps247;rw[CV]
    go_wp2
    go_ret;have AL:=AH.o;refine⟨congrArg Ending.returned (congrArg (Value.int IntKind.i64) ?_),rfl⟩
    (first | (unfold wrap64;omega) | omega | skip)
   ·have t1:decide ((4294967296:Int)≤(m:Int))=true:=decide_eq_true (by omega)
    have t2:decide ((65536:Int)≤(m:Int) / 4294967296)=true:=decide_eq_true (by omega);have t3:decide ((256:Int)≤(m:Int) / 4294967296 / 65536)=false:=decide_eq_false (by omega);have AL:=BW m 48 281474976710656 ((m:Int) / 4294967296 / 65536 % 256) rfl (by omega) (by omega) (by omega) (by omega);have AH:=I AL;clear AL hm h1 h2 h3;go_enter Tryz.func247,Tryz.ntmps247;rw[CV]
    go_wp2
    go_ret;have AL:=AH.o;refine⟨congrArg Ending.returned (congrArg (Value.int IntKind.i64) ?_),rfl⟩
    (first | (unfold wrap64;omega) | omega | skip)
  ·by_cases h3:256≤m / 4294967296
   ·have t1:decide ((4294967296:Int)≤(m:Int))=true:=decide_eq_true (by omega)
    have t2:decide ((65536:Int)≤(m:Int) / 4294967296)=false:=decide_eq_false (by omega);have t3:decide ((256:Int)≤(m:Int) / 4294967296)=true:=decide_eq_true (by omega);have AL:=BW m 40 1099511627776 ((m:Int) / 4294967296 / 256 % 256) rfl (by omega) (by omega) (by omega) (by omega);have AH:=I AL;clear AL hm h1 h2 h3;go_enter Tryz.func247,Tryz.ntmps247;rw[CV]
    go_wp2
    go_ret;have AL:=AH.o;refine⟨congrArg Ending.returned (congrArg (Value.int IntKind.i64) ?_),rfl⟩
    (first | (unfold wrap64;omega) | omega | skip)
   ·have t1:decide ((4294967296:Int)≤(m:Int))=true:=decide_eq_true (by omega)
    have t2:decide ((65536:Int)≤(m:Int) / 4294967296)=false:=decide_eq_false (by omega);have t3:decide ((256:Int)≤(m:Int) / 4294967296)=false:=decide_eq_false (by omega);have AL:=BW m 32 4294967296 ((m:Int) / 4294967296 % 256) rfl (by omega) (by omega) (by omega) (by omega);have AH:=I AL;clear AL hm h1 h2 h3;go_enter Tryz.func247,Tryz.ntmps247;rw[CV]
    go_wp2
    go_ret;have AL:=AH.o;refine⟨congrArg Ending.returned (congrArg (Value.int IntKind.i64) ?_),rfl⟩
    (first | (unfold wrap64;omega) | omega | skip)
 ·by_cases h2:65536≤m
  ·by_cases h3:256≤m / 65536
   ·have t1:decide ((4294967296:Int)≤(m:Int))=false:=decide_eq_false (by omega)
    have t2:decide ((65536:Int)≤(m:Int))=true:=decide_eq_true (by omega);have t3:decide ((256:Int)≤(m:Int) / 65536)=true:=decide_eq_true (by omega);have AL:=BW m 24 16777216 ((m:Int) / 65536 / 256 % 256) rfl (by omega) (by omega) (by omega) (by omega);have AH:=I AL;clear AL hm h1 h2 h3;go_enter Tryz.func247,Tryz.ntmps247;rw[CV]
    go_wp2
    go_ret;have AL:=AH.o;refine⟨congrArg Ending.returned (congrArg (Value.int IntKind.i64) ?_),rfl⟩
    (first | (unfold wrap64;omega) | omega | skip)
   ·have t1:decide ((4294967296:Int)≤(m:Int))=false:=decide_eq_false (by omega)
    have t2:decide ((65536:Int)≤(m:Int))=true:=decide_eq_true (by omega);have t3:decide ((256:Int)≤(m:Int) / 65536)=false:=decide_eq_false (by omega);have AL:=BW m 16 65536 ((m:Int) / 65536 % 256) rfl (by omega) (by omega) (by omega) (by omega);have AH:=I AL;clear AL hm h1 h2 h3;go_enter Tryz.func247,Tryz.ntmps247;rw[CV]
    go_wp2
    go_ret;have AL:=AH.o;refine⟨congrArg Ending.returned (congrArg (Value.int IntKind.i64) ?_),rfl⟩
    (first | (unfold wrap64;omega) | omega | skip)
  ·by_cases h3:256≤m
   ·have t1:decide ((4294967296:Int)≤(m:Int))=false:=decide_eq_false (by omega)
    have t2:decide ((65536:Int)≤(m:Int))=false:=decide_eq_false (by omega);have t3:decide ((256:Int)≤(m:Int))=true:=decide_eq_true (by omega);have AL:=BW m 8 256 ((m:Int) / 256 % 256) rfl (by omega) (by omega) (by omega) (by omega);have AH:=I AL;clear AL hm h1 h2 h3;go_enter Tryz.func247,Tryz.ntmps247;rw[CV]
    go_wp2
    go_ret;have AL:=AH.o;refine⟨congrArg Ending.returned (congrArg (Value.int IntKind.i64) ?_),rfl⟩
    (first | (unfold wrap64;omega) | omega | skip)
   ·have t1:decide ((4294967296:Int)≤(m:Int))=false:=decide_eq_false (by omega)
    have t2:decide ((65536:Int)≤(m:Int))=false:=decide_eq_false (by omega);have t3:decide ((256:Int)≤(m:Int))=false:=decide_eq_false (by omega);have AL:=BW m 0 1 ((m:Int) % 256) rfl (by omega) (by omega) (by omega) (by omega);have AH:=I AL;clear AL hm h1 h2 h3;go_enter Tryz.func247,Tryz.ntmps247;rw[CV]
    go_wp2
    go_ret;have AL:=AH.o;refine⟨congrArg Ending.returned (congrArg (Value.int IntKind.i64) ?_),rfl⟩
    (first | (unfold wrap64;omega) | omega | skip)
theorem Ht (m:Nat) (w:World) (hm:m<9223372036854775808):Calls Tryz.prog 235 #[.int .u64 (m:Int)] w fun e w'=>e = .returned (.int .i64 (Lib.bitLen m:Int))∧w=w':=by
 have c1:=Gp m w hm;clear hm;go_enter Tryz.func235,Tryz.ntmps235
 go_wp2_with (go_at_call 247;refine Calls.mono c1 ?_;rintro e w' ⟨rfl,rfl⟩)
 go_ret;exact⟨rfl,rfl⟩
end DerLib
namespace DerW
open Go.RowKit Ad DerP
theorem Dl:(Tryz.prog.info? 5).map (fun i=>(i.zero,i.size,i.bytes))=some (some (.int .u8 0),1,1):=by kernel_rfl
def filled (K m j:Nat):Array Value:=(List.replicate j (bv 0)++bvs ((digK K m).drop j)).toArray
theorem Ed (K m:Nat):filled K m K=Be K:=by
 rw[filled,List.drop_of_length_le (by rw[Bc];exact Nat.le_refl _)];simp [Be,bvs]
theorem Fx (K m:Nat):filled K m 0=(bvs (digK K m)).toArray:=by simp [filled]
theorem Fy (K m j:Nat) (hj:j<K):(filled K m (j+1)).setIfInBounds j (bv (UInt8.ofNat (m / 256 ^ (K - 1 - j))))=filled K m j:=by
 have h:=FH (digK K m) j _ (IC K m j hj);apply Array.toList_inj.1;simp only[filled,Array.toList_setIfInBounds];rw[h];rw[List.set_append_left _ _ (by simp)];rw[List.replicate_succ',List.set_append_right _ _ (by simp)];simp [bvs]
theorem Fz (m:Nat) (hm:m≤4611686018427387904) (w:World):Calls Tryz.prog 221 #[.int .i64 (m:Int)] w fun e w'=>
  ∃g,e = .returned (.slice (some ⟨g,0,none⟩) (dig m).length (dig m).length)∧w.heap.size≤g∧Blk w' g 5 (bvs (dig m)).toArray∧Below w.heap.size w w':=by
 obtain⟨i0,hi0,hz0,hs0,hb0⟩:=info_parts Dl;have hbl:=De m hm;have hL:(dig m).length=Lib.bitLen m / 8+1:=Cu m;have hD:dig m=digK (Lib.bitLen m / 8+1) m:=rfl;rw[hL,hD];have hc:∀W,Calls Tryz.prog 235 #[.int .u64 (m:Int)] W fun e w'=>e = .returned (.int .i64 (Lib.bitLen m:Int))∧W=w':=by
  intro W;exact DerLib.Ht m W (by omega)
 clear hL hD;generalize hq:Lib.bitLen m=q at *;have hmk:=Dp (P:=Tryz.prog) Tryz.underlying27 hi0 hz0 hs0 hb0 ((q:Int) / 8+1) (q / 8+1) (by omega) (by omega);have HC:=I hc;clear hc;have HQ:=I hq;clear hq;have hm':(m:Int)≤4611686018427387904:=by omega
 have hq':(q:Int)≤63:=by omega
 clear hm hbl hi0 hz0 hs0 hb0;go_enter Tryz.func221,Tryz.ntmps221
 go_wp2_with (go_at_call 235;refine(HC.o _).mono ?_;rintro e w' ⟨rfl,rfl⟩)
 go_loopw [0,4] (fun n i wr=>∃j:Nat,j≤q / 8+1∧i = .int .i64 ((j:Int) - 1)∧n = .int .i64 ((m / 256 ^ (q / 8+1 - j):Nat):Int)∧Blk wr w.heap.size 5 (filled (q / 8+1) m j)∧Below w.heap.size w wr) (fun _ i _=>(intOf i+1).toNat)
 case atStart=>
  refine⟨q / 8+1,Nat.le_refl _,by congr 1;omega,by simp,?_,Af.alloc Ae _⟩;rw[Ed];exact Blk.new _ _ _
 case round=>
  obtain⟨j,hj,rfl,rfl,hB,hbel⟩:=hrel;cases j with
  |zero=>
   have e:((0:Nat):Int) - 1 = -1:=rfl;rw[e]
   go_wp2
   go_ret;rw[Fx] at hB;exact⟨_,rfl,Nat.le_refl _,hB,hbel⟩
  |succ j=>
   have e:((j+1:Nat):Int) - 1=(j:Int):=by omega
   rw[e];clear e;have hf:=hB.frozen j;have hset:=hB.set j (bv (UInt8.ofNat (m / 256 ^ (q / 8+1 - 1 - j))));rw[Fy _ _ _ (by omega)] at hset;have hcell:∃u,(filled (q / 8+1) m (j+1))[j]? = some u:=by
    have:j<(filled (q / 8+1) m (j+1)).size:=by simp [filled,bvs,Bc];omega
    exact⟨_,Array.getElem?_eq_getElem this⟩
   obtain⟨u,hu⟩:=hcell;have hcu:=(hB.cell j).trans hu;have hdiv:m / 256 ^ (q / 8+1 - (j+1))≤m:=Nat.div_le_self _ _;have hdiv':((m / 256 ^ (q / 8+1 - (j+1)):Nat):Int)≤4611686018427387904:=by omega
   have hnx:=I (show m / 256 ^ (q / 8+1 - (j+1)) / 256=m / 256 ^ (q / 8+1 - j) by
    rw[Nat.div_div_eq_div_mul,←Nat.pow_succ];congr 2;omega)
   have hpw:=I (show q / 8+1 - 1 - j=q / 8+1 - (j+1) by omega);rw[hpw.o] at hset;generalize m / 256 ^ (q / 8+1 - (j+1))=y at *;have HS:=I hset;clear hset hu
   go_wp2
   refine⟨⟨j,by omega,rfl,?_,?_,hbel.setCell Ae _⟩,by simp [intOf]⟩
   ·rw[←hnx.o];rfl
   ·have e:bv (UInt8.ofNat y) = .int .u8 ((y:Int) % 256):=by simp [bv]
    rw[←e];exact HS.o
theorem ml (n:Nat) (h:n≤1000000):n≤maxLen:=by unfold maxLen;omega
theorem Dz (w:World) (t:TypeId) (cs:Array Value) (l:L) (h:cs.toList=bvs l) (N:Nat) (hN:w.heap.size=N):Rd (w.alloc (.cells cs t)) (N+1) (some ⟨N,0,none⟩) (bvs l):=by
 subst hN;refine .inr ⟨w.heap.size,0,rfl,by omega,fun i u hu=>?_⟩;rw[Nat.zero_add,(Blk.new w t cs).cell i];rw[←h] at hu
 simpa using hu
theorem Fb (n:Nat) (h:n<256):bv (UInt8.ofNat n) = .int .u8 (n:Int):=by simp [bv];omega
theorem FA (t : UInt8) (n : Nat) (h1 : n < 128) (w : World) : Calls Tryz.prog 219 #[.int .u8 t.toNat, .int .i64 (n : Int)] w fun e w' =>
    ∃v,e = .returned v∧w'.ownsRow w.heap.size 5 1 v (1+(szL n).length) (bvs (t :: szL n))∧Below w.heap.size w w':=by
  obtain⟨i0,hi0,hz0,hs0,hb0⟩:=info_parts Dl;have hmk:=BI (P:=Tryz.prog) Tryz.underlying27 hi0 hz0 hs0 hb0 ((n:Int)+4) (n+4) (by omega) (by omega);have E:=I (show szL n = [UInt8.ofNat n] by simp [szL,h1]);have g1:decide ((n:Int)<128)=true:=by simp;omega
  have hn:(n:Int)≤127:=by omega
  have hown0:Hid (∀o,(World.alloc (World.alloc w (.cells (Be (n+4)) 5)) o).ownsRow w.heap.size 5 1 (.slice (some ⟨w.heap.size,0,none⟩) 0 (n+4)) 0 []):=fun o=>(World.ownsRow_made w (Be (n+4)) (n+4) Ae (ml _ (by omega)) (by rw[BE];omega)).alloc o
  have hm1:=I (ml 1 (by omega));have hm2:=I (ml 2 (by omega));have hbn:=I (Fb n (by omega));clear h1;go_enter Tryz.func219,Tryz.ntmps219
  go_wp2_with (first
    | (at_builtin
       refine Al _ rfl (.tmp 8) (.tmp 10) 27 rfl w.heap.size 5 i0 _ 1 Tryz.underlying27 hi0 hz0 hs0 hb0 rfl (.slice (some ⟨w.heap.size,0,none⟩) 0 (n+4)) 0 [] rfl (hown0.o _) _ _ 1 1 (bvs [t]) rfl rfl (Dz _ 5 _ [t] rfl _ (by simp)) (BT _) hm1.o (by omega) (by simp;omega) ?_;intro v1 w1 hown1 hg1 hat1)
    | (at_builtin
       refine Al _ rfl (.tmp 15) (.tmp 18) 27 rfl w.heap.size 5 i0 _ 1 Tryz.underlying27 hi0 hz0 hs0 hb0 rfl v1 (0+1) ([]++bvs [t]) rfl (hown1.alloc _) _ _ 1 1 (bvs [UInt8.ofNat n]) rfl rfl (Dz w1 5 _ [UInt8.ofNat n] (by simp [bvs,hbn.o]) _ rfl) (BT _) hm2.o (by omega) (by simp;have:=hg1.size;simp at this;omega) ?_;intro v2 w2 hown2 hg2 hat2))
  go_ret;have b1:Below w.heap.size w w1:=(((Below.refl w.heap.size w).alloc Ae _).alloc (by simp) _).grown hg1 (by simp;omega) (by intro k hk;simp [Value.ownBlock] at hk;omega);have b2:=(b1.alloc b1.size _).grown hg2 (by have:=b1.size;simp;omega) (fun k hk=>(hown1.lt k hk).1);exact⟨v2,rfl,by rw[E.o];simpa [bvs] using hown2,b2⟩
theorem Hu (t : UInt8) (n : Nat) (h1 : ¬ n < 128) (h2 : n ≤ 255) (w : World) : Calls Tryz.prog 219 #[.int .u8 t.toNat, .int .i64 (n : Int)] w fun e w' =>
    ∃v,e = .returned v∧w'.ownsRow w.heap.size 5 1 v (1+(szL n).length) (bvs (t :: szL n))∧Below w.heap.size w w':=by
  obtain⟨i0,hi0,hz0,hs0,hb0⟩:=info_parts Dl;have hmk:=BI (P:=Tryz.prog) Tryz.underlying27 hi0 hz0 hs0 hb0 ((n:Int)+4) (n+4) (by omega) (by omega);have E:=I (show szL n = [129,UInt8.ofNat n] by simp [szL,h1,h2]);have g1:decide ((n:Int)<128)=false:=by simp;omega
  have g2:decide ((n:Int)≤255)=true:=by simp;omega
  have hn:(n:Int)≤255:=by omega
  have hown0:Hid (∀o,(World.alloc (World.alloc w (.cells (Be (n+4)) 5)) o).ownsRow w.heap.size 5 1 (.slice (some ⟨w.heap.size,0,none⟩) 0 (n+4)) 0 []):=fun o=>(World.ownsRow_made w (Be (n+4)) (n+4) Ae (ml _ (by omega)) (by rw[BE];omega)).alloc o
  have hm1:=I (ml 1 (by omega));have hm2:=I (ml 3 (by omega));have hbn:=I (Fb n (by omega));clear h1 h2;go_enter Tryz.func219,Tryz.ntmps219
  go_wp2_with (first
    | (at_builtin
       refine Al _ rfl (.tmp 8) (.tmp 10) 27 rfl w.heap.size 5 i0 _ 1 Tryz.underlying27 hi0 hz0 hs0 hb0 rfl (.slice (some ⟨w.heap.size,0,none⟩) 0 (n+4)) 0 [] rfl (hown0.o _) _ _ 1 1 (bvs [t]) rfl rfl (Dz _ 5 _ [t] rfl _ (by simp)) (BT _) hm1.o (by omega) (by simp;omega) ?_;intro v1 w1 hown1 hg1 hat1)
    | (at_builtin
       refine Al _ rfl (.tmp 23) (.tmp 26) 27 rfl w.heap.size 5 i0 _ 1 Tryz.underlying27 hi0 hz0 hs0 hb0 rfl v1 (0+1) ([]++bvs [t]) rfl (hown1.alloc _) _ _ 2 2 (bvs [129,UInt8.ofNat n]) rfl rfl (Dz w1 5 _ [129,UInt8.ofNat n] (by simp [bvs,hbn.o];rfl) _ rfl) (BT _) hm2.o (by omega) (by simp;have:=hg1.size;simp at this;omega) ?_;intro v2 w2 hown2 hg2 hat2))
  go_ret;have b1:Below w.heap.size w w1:=(((Below.refl w.heap.size w).alloc Ae _).alloc (by simp) _).grown hg1 (by simp;omega) (by intro k hk;simp [Value.ownBlock] at hk;omega);have b2:=(b1.alloc b1.size _).grown hg2 (by have:=b1.size;simp;omega) (fun k hk=>(hown1.lt k hk).1);exact⟨v2,rfl,by rw[E.o];simpa [bvs] using hown2,b2⟩
theorem Hv (t : UInt8) (n : Nat) (h1 : ¬ n < 128) (h2 : ¬ n ≤ 255) (h3 : n ≤ 65535) (w : World) : Calls Tryz.prog 219 #[.int .u8 t.toNat, .int .i64 (n : Int)] w fun e w' =>
    ∃v,e = .returned v∧w'.ownsRow w.heap.size 5 1 v (1+(szL n).length) (bvs (t :: szL n))∧Below w.heap.size w w':=by
  obtain⟨i0,hi0,hz0,hs0,hb0⟩:=info_parts Dl;have hmk:=BI (P:=Tryz.prog) Tryz.underlying27 hi0 hz0 hs0 hb0 ((n:Int)+4) (n+4) (by omega) (by omega);have E:=I (show szL n = [130,UInt8.ofNat (n / 256),UInt8.ofNat n] by simp [szL,h1,h2]);have g1:decide ((n:Int)<128)=false:=by simp;omega
  have g2:decide ((n:Int)≤255)=false:=by simp;omega
  have hn:(n:Int)≤65535:=by omega
  have hown0:Hid (∀o,(World.alloc (World.alloc w (.cells (Be (n+4)) 5)) o).ownsRow w.heap.size 5 1 (.slice (some ⟨w.heap.size,0,none⟩) 0 (n+4)) 0 []):=fun o=>(World.ownsRow_made w (Be (n+4)) (n+4) Ae (ml _ (by omega)) (by rw[BE];omega)).alloc o
  have hm1:=I (ml 1 (by omega));have hm2:=I (ml 4 (by omega));have hbn:=I (show bvs [130,UInt8.ofNat (n / 256),UInt8.ofNat n] = [.int .u8 130,.int .u8 ((n:Int) / 256),.int .u8 ((n:Int) % 256)] by simp [bvs,bv];omega);clear h1 h2 h3;go_enter Tryz.func219,Tryz.ntmps219
  go_wp2_with (first
    | (at_builtin
       refine Al _ rfl (.tmp 8) (.tmp 10) 27 rfl w.heap.size 5 i0 _ 1 Tryz.underlying27 hi0 hz0 hs0 hb0 rfl (.slice (some ⟨w.heap.size,0,none⟩) 0 (n+4)) 0 [] rfl (hown0.o _) _ _ 1 1 (bvs [t]) rfl rfl (Dz _ 5 _ [t] rfl _ (by simp)) (BT _) hm1.o (by omega) (by simp;omega) ?_;intro v1 w1 hown1 hg1 hat1)
    | (at_builtin
       refine Al _ rfl (.tmp 28) (.tmp 34) 27 rfl w.heap.size 5 i0 _ 1 Tryz.underlying27 hi0 hz0 hs0 hb0 rfl v1 (0+1) ([]++bvs [t]) rfl (hown1.alloc _) _ _ 3 3 (bvs [130,UInt8.ofNat (n / 256),UInt8.ofNat n]) rfl rfl (Dz w1 5 _ [130,UInt8.ofNat (n / 256),UInt8.ofNat n] (by rw[hbn.o]) _ rfl) (BT _) hm2.o (by omega) (by simp;have:=hg1.size;simp at this;omega) ?_;intro v2 w2 hown2 hg2 hat2))
  go_ret;have b1:Below w.heap.size w w1:=(((Below.refl w.heap.size w).alloc Ae _).alloc (by simp) _).grown hg1 (by simp;omega) (by intro k hk;simp [Value.ownBlock] at hk;omega);have b2:=(b1.alloc b1.size _).grown hg2 (by have:=b1.size;simp;omega) (fun k hk=>(hown1.lt k hk).1);exact⟨v2,rfl,by rw[E.o];simpa [bvs] using hown2,b2⟩
theorem Hw (t:UInt8) (n:Nat) (h:n≤65535) (w:World):Calls Tryz.prog 219 #[.int .u8 t.toNat,.int .i64 (n:Int)] w fun e w'=>
  ∃v,e = .returned v∧w'.ownsRow w.heap.size 5 1 v (1+(szL n).length) (bvs (t :: szL n))∧Below w.heap.size w w':=by
 by_cases h1:n<128
 ·exact FA t n h1 w
 ·by_cases h2:n≤255
  ·exact Hu t n h1 h2 w
  ·exact Hv t n h1 h2 h w
def Rds (w:World) (B:Nat) (A:Option Addr) (ls:List L):Prop:=
 ls = []∨∃b o,A=some ⟨b,o,none⟩∧b<B∧∀i l,ls[i]? = some l→∃A' c',w.cell? ⟨b,o+i,none⟩=some (.slice A' l.length c')∧Rd w B A' (bvs l)
theorem Rds.at_ {w:World} {B:Nat} {A:Option Addr} {ls:List L} (h:Rds w B A ls) {i:Nat} {l:L} (hi:ls[i]? = some l) :
  ∃b o,A=some ⟨b,o,none⟩∧b<B∧∃A' c',w.cell? ⟨b,o+i,none⟩=some (.slice A' l.length c')∧Rd w B A' (bvs l):=by
 rcases h with h | ⟨b,o,h1,h2,h3⟩
 ·subst h;simp at hi
 ·exact⟨b,o,h1,h2,h3 i l hi⟩
theorem Rds.below {w w':World} {B:Nat} {A:Option Addr} {ls:List L} (h:Rds w B A ls) (hb:Below B w w'):Rds w' B A ls:=by
 rcases h with h | ⟨b,o,h1,h2,h3⟩
 ·exact .inl h
 ·refine .inr ⟨b,o,h1,h2,fun i l hl=>?_⟩
  obtain⟨A',c',g1,g2⟩:=h3 i l hl;exact⟨A',c',(hb.cell (p:=⟨b,o+i,none⟩) h2).trans g1,g2.below hb⟩
theorem Ee (ls:List L) (k:Nat) (l:L) (h:ls[k]? = some l):(ls.take (k+1)).flatten=(ls.take k).flatten++l:=by
 obtain⟨hk,e⟩:=List.getElem?_eq_some_iff.1 h;rw[List.take_succ_eq_append_getElem hk,e];simp
theorem Gq (ls:List L) (k:Nat):(ls.take k).flatten.length≤ls.flatten.length:=by
 conv=>rhs;rw[←List.take_append_drop k ls,List.flatten_append,List.length_append]
 omega
def pre (ls:List L) (k:Nat):Nat:=(ls.take k).flatten.length
def built (t:UInt8) (ls:List L) (k:Nat):L:=t :: szL ls.flatten.length++(ls.take k).flatten
theorem Hx (ls:List L) (k:Nat) (l:L) (h:ls[k]? = some l):pre ls (k+1)=pre ls k+l.length:=by
 rw[pre,Ee ls k l h,List.length_append];rfl
theorem Kh (ls:List L) (k:Nat):pre ls k≤ls.flatten.length:=Gq ls k
theorem Jo (ls:List L):pre ls ls.length=ls.flatten.length:=by rw[pre,List.take_of_length_le Ae]
theorem FB (t:UInt8) (ls:List L) (k:Nat) (l:L) (h:ls[k]? = some l):built t ls (k+1)=built t ls k++l:=by
 rw[built,Ee ls k l h,built,List.append_assoc]
theorem Gr (t:UInt8) (ls:List L):built t ls ls.length=elem t ls.flatten:=by
 rw[built,List.take_of_length_le Ae];rfl
theorem Hy (t:UInt8) (ls:List L) (k:Nat) (h:ls.flatten.length≤65535):(built t ls k).length≤65539:=by
 have h1:=Gq ls k;have h2:=Dr ls.flatten.length;have h3:(szL ls.flatten.length).length≤3:=by rw[h2];split<;>(try split)<;>omega
 rw[built,List.length_append,List.length_cons];omega
theorem Db (t : UInt8) (ls : List L) (A : Option Addr) (m c B : Nat) (w : World) (hr : Rds w B A ls) (hm : m = ls.length) (hB : B ≤ w.heap.size) (hl : ls.flatten.length ≤ 65535) (hc : ls.length ≤ 1000000) :
    Calls Tryz.prog 195 #[.int .u8 t.toNat,.slice A m c] w fun e w'=>
      ∃v,e = .returned v∧w'.ownsRow w.heap.size 5 1 v (elem t ls.flatten).length (bvs (elem t ls.flatten))∧Below w.heap.size w w':=by
  obtain⟨i0,hi0,hz0,hs0,hb0⟩:=info_parts Dl;have hpa:=Jo ls;have hh:∀W,Calls Tryz.prog 219 #[.int .u8 t.toNat,.int .i64 ((pre ls m:Nat):Int)] W fun e w'=>
    ∃v,e = .returned v∧w'.ownsRow W.heap.size 5 1 v (built t ls 0).length (bvs (built t ls 0))∧Below W.heap.size W w':=by
    intro W;have:=Hw t _ hl W;have e1:built t ls 0=t :: szL ls.flatten.length:=by simp [built]
    rw[e1,hm,hpa,List.length_cons,Nat.add_comm];exact this
  have HH:=I hh;clear hh;have hpl:=I (fun k=>Nat.le_trans (Kh ls k) hl);have hbl:=I (fun k=>Hy t ls k hl);have hba:=I (Gr t ls);have hml:=I ml;have HR:=I hr;clear hr;have hc':(m:Int)≤1000000:=by omega
  have HM:=I hm;clear hm hc hl hpa;go_enter Tryz.func195,Tryz.ntmps195
  go_wp2
  go_loop [5,13] (fun n i=>∃k:Nat,k≤m∧i = .int .i64 (k:Int)∧n = .int .i64 ((pre ls k:Nat):Int)) (fun _ i=>m - (intOf i).toNat)
  case atStart=>exact⟨0,by omega,rfl,rfl⟩
  case round=>
    obtain⟨k,hk,rfl,rfl⟩:=hrel
    by_cases hlt:k<m
    · obtain ⟨l, hx⟩ : ∃ l, ls[k]? = some l := ⟨_, List.getElem?_eq_getElem (by have := HM.o; omega)⟩
      obtain⟨b,o,rfl,hb,A',c',hcell,hrd⟩:=HR.o.at_ hx;have hf1:=hpl.o k;have hf2:=hpl.o (k+1);have hs:=Hx ls k l hx;have HS:=I hs;have g1:decide ((65535:Int)<((pre ls k:Nat):Int)+(l.length:Int))=false:=by simp only[decide_eq_false_iff_not];omega
      have hll:(l.length:Int)≤65535:=by omega
      have hf1':((pre ls k:Nat):Int)≤65535:=by omega
      clear hs hf1 hf2 hx hrd
      go_wp2
      exact⟨⟨k+1,by omega,by go_num,by rw[HS.o];go_num⟩,by simp [intOf];omega⟩
    · obtain rfl : k = m := by omega
      clear hk hlt
      go_wp2_with (go_at_call 219;refine(HH.o _).mono ?_;rintro e w1 ⟨v,rfl,hown,hbel⟩)
      go_loopw [8,29] (fun v i wr=>∃j:Nat,j≤k∧i = .int .i64 (j:Int)∧wr.ownsRow w.heap.size 5 1 v (built t ls j).length (bvs (built t ls j))∧Below w.heap.size w wr) (fun _ i _=>k - (intOf i).toNat)
      case atStart=>exact⟨0,by omega,rfl,hown,hbel⟩
      case round=>
        obtain⟨j,hj,rfl,hown1,hbel1⟩:=hrel
        by_cases hlt:j<k
        · obtain ⟨l, hx⟩ : ∃ l, ls[j]? = some l := ⟨_, List.getElem?_eq_getElem (by have := HM.o; omega)⟩
          obtain⟨b,o,rfl,hb,A',c',hcell,hrd⟩:=(HR.o.below (hbel1.mono hB)).at_ hx;have hs:=FB t ls j l hx;have hf1:=hbl.o j;have hf2:=hbl.o (j+1);have hs1:=congrArg List.length hs;rw[List.length_append] at hs1;have HS:=I hs;have hsum:(built t ls j).length+l.length≤65539:=by omega
          have HO:=I hown1;have HQ:=I hrd;clear hs hs1 hx hf1 hf2 hown1 hrd hown
          go_wp2_with (at_builtin
                       refine Al _ rfl (.tmp 33) (.tmp 34) 27 rfl w.heap.size 5 i0 _ 1 Tryz.underlying27 hi0 hz0 hs0 hb0 rfl _ (built t ls j).length (bvs (built t ls j)) rfl HO.o B A' l.length c' (bvs l) rfl (AZ l).symm HQ.o (BT _) (hml.o _ (by omega)) (by omega) hbel1.size ?_;intro v2 w2 hown2 hg2 hat2)
          refine⟨⟨j+1,by omega,by go_num,?_,hbel1.grown hg2 hbel1.size (fun i hi=>(HO.o.lt i hi).1)⟩,by simp [intOf];omega⟩;rw[HS.o,Fj,List.length_append];exact hown2
        · obtain rfl : j = k := by omega
          clear hj hlt
          go_wp2
          go_ret;have e:built t ls j=elem t ls.flatten:=by rw[HM.o];exact hba.o
          rw[e] at hown1;exact⟨_,rfl,hown1,hbel1⟩
theorem EB (w:World) (t:TypeId) (B:Nat) (A:Option Addr) (l:L) (n c:Nat) (hn:n=l.length) (h:Rd w B A (bvs l)) (hB:B≤w.heap.size) :
  Rds (w.alloc (.cells #[.slice A n c] t)) (w.heap.size+1) (some ⟨w.heap.size,0,none⟩) [l]:=by
 subst hn;refine .inr ⟨w.heap.size,0,rfl,by omega,fun i l' hi=>?_⟩;have hi0:i=0:=by
  rcases Nat.eq_zero_or_pos i with g | g
  ·exact g
  ·rw[List.getElem?_eq_none (by simp;omega)] at hi;cases hi
 subst hi0;injection hi with hi;subst hi;exact⟨A,c,(Blk.new w t _).cell 0,(h.alloc hB _).more (by omega)⟩
theorem FC (l:L) (A:Option Addr) (n c B:Nat) (w:World) (hr:Rd w B A (bvs l)) (hn:n=l.length) (hB:B≤w.heap.size) (hl:l.length≤65535) :
  Calls Tryz.prog 213 #[.slice A n c] w fun e w'=>
   ∃v,e = .returned v∧w'.ownsRow w.heap.size 5 1 v (elem 4 l).length (bvs (elem 4 l))∧Below w.heap.size w w':=by
 have hrs:=EB w 27 B A l n c hn hr hB;have hw:=Db 4 [l] (some ⟨w.heap.size,0,none⟩) 1 1 (w.heap.size+1) (w.alloc (.cells #[.slice A n c] 27)) hrs rfl (by simp) (by simpa using hl) (by simp);have e:[l].flatten=l:=by simp
 rw[e] at hw;have HW:=I hw;clear hw hrs hr hn hl e;go_enter Tryz.func213,Tryz.ntmps213
 go_wp2_with (go_at_call 195;refine HW.o.mono ?_;rintro e w1 ⟨v,rfl,hown,hbel⟩)
 go_ret;refine⟨_,rfl,?_,(Below.refl w.heap.size w).alloc Ae _ |>.trans (hbel.mono (by simp))⟩;exact hown.mono (by simp)
theorem Jp (n : Int) (w : World) :
    Calls Tryz.prog 197 #[.int .i64 n] w fun e w'=>
      ∃v,e = .returned v∧w'.ownsRow w.heap.size 5 1 v (encI n).length (bvs (encI n))∧Below w.heap.size w w':=by
  have hd:=Fz (AY n) (Dd n);rw[Fh] at hd;have hw : ∀ (W : World) (g : Nat), Blk W g 5 (bvs (dig (AY n))).toArray → Calls Tryz.prog 195 #[.int .u8 2, .slice (some ⟨W.heap.size, 0, none⟩) 1 1] (W.alloc (.cells #[.slice (some ⟨g, 0, none⟩) (dig (AY n)).length (dig (AY n)).length] 27)) fun e w' =>
      ∃v,e = .returned v∧w'.ownsRow W.heap.size 5 1 v (encI n).length (bvs (encI n))∧Below W.heap.size W w':=by
    intro W g hB;have hr:Rd W W.heap.size (some ⟨g,0,none⟩) (bvs (dig (AY n))):=.inr ⟨g,0,rfl,hB.lt,fun i u hu=>by
      rw[Nat.zero_add,hB.cell i];simpa using hu⟩
    have hrs:=EB W 27 W.heap.size _ _ _ (dig (AY n)).length rfl hr Ae;have hd8:=DB n;have h:=Db 2 [dig (AY n)] (some ⟨W.heap.size,0,none⟩) 1 1 (W.heap.size+1) _ hrs rfl (by simp) (by simp;omega) (by simp);have e:[dig (AY n)].flatten=dig (AY n):=by simp
    rw[e] at h;refine h.mono ?_;rintro e w' ⟨v,rfl,hown,hbel⟩;exact⟨v,rfl,hown.mono (by simp),(Below.refl W.heap.size W).alloc Ae _ |>.trans (hbel.mono (by simp))⟩
  have HD:=I hd;have HW:=I hw;clear hd hw;go_enter Tryz.func197,Tryz.ntmps197
  go_wp2_with (first
    |(go_at_call 221;refine(HD.o _).mono ?_;rintro e w1 ⟨g,rfl,hg,hB,hbel⟩)
    |(go_at_call 195;refine(HW.o _ _ hB).mono ?_;rintro e w2 ⟨v,rfl,hown,hbel2⟩))
  go_ret;exact⟨_,rfl,hown.mono hbel.size,hbel.trans (hbel2.mono hbel.size)⟩
theorem Hz (l : L) (w : World) (hl : l.length ≤ 65535) :
    Calls Tryz.prog 220 #[.string ⟨l.toArray⟩] w fun e w'=>
      ∃v,e = .returned v∧w'.ownsRow w.heap.size 5 1 v (elem 27 l).length (bvs (elem 27 l))∧Below w.heap.size w w':=by
  have hcv:=fun(W:World)=>Lib.run_convert_string_bytes (P:=Tryz.prog) W 9 27 5 ⟨l.toArray⟩ Tryz.underlying9 Tryz.underlying27 Tryz.underlying5
  have hw : ∀ (W : World) (c : Nat), Calls Tryz.prog 195 #[.int .u8 27, .slice (some ⟨W.heap.size + 1, 0, none⟩) 1 1] ((Lib.bytesWorld W 5 ⟨l.toArray⟩).alloc (.cells #[.slice (some ⟨W.heap.size, 0, none⟩) l.length c] 27)) fun e w' =>
      ∃v,e = .returned v∧w'.ownsRow W.heap.size 5 1 v (elem 27 l).length (bvs (elem 27 l))∧Below W.heap.size W w':=by
    intro W c;have hs:=Lib.bytesWorld_size W 5 ⟨l.toArray⟩;have hr:=(Em W 5 l).rd;have hrs:=EB _ 27 _ _ _ l.length c rfl hr Ae;rw[hs] at hrs;have h:=Db 27 [l] (some ⟨W.heap.size+1,0,none⟩) 1 1 (W.heap.size+1+1) _ hrs rfl (by simp [hs]) (by simpa using hl) (by simp);have e:[l].flatten=l:=by simp
    rw[e] at h;refine h.mono ?_;rintro e w' ⟨v,rfl,hown,hbel⟩;refine⟨v,rfl,hown.mono (by simp [hs];omega),?_⟩;exact((El W _ _).alloc (by rw[hs];omega) _).trans (hbel.mono (by simp [hs];omega))
  have HW:=I hw;clear hw hl;have hsz:=fun(W:World)=>Lib.bytesWorld_size W 5 ⟨l.toArray⟩
  go_enter Tryz.func220,Tryz.ntmps220
  go_wp2_with (go_at_call 195;refine(HW.o _ _).mono ?_;rintro e w2 ⟨v,rfl,hown,hbel2⟩)
  go_ret;exact⟨_,rfl,hown,hbel2⟩
end DerW
namespace DerK
open Go.RowKit Ad DerP
attribute [local go_sem] CW List.getElem_cons_zero List.getElem_cons_succ
theorem Gs {w:World} {base n:Nat} {t:TypeId} {v:Value} {l:L} (h:w.ownsRow base t 1 v n (bvs l)) (hl:0<l.length) :
  ∃g cap,v = .slice (some ⟨g,0,none⟩) l.length cap∧base≤g∧l.length≤cap∧Rd w w.heap.size (some ⟨g,0,none⟩) (bvs l):=by
 have hn:n=l.length:=by have:=h.1;rw[AZ] at this;omega
 subst hn;rcases h.2 with⟨_,h2⟩ | ⟨g,cap,cur,rfl,hg,_,hc,_⟩
 ·omega
 ·exact⟨g,cap,rfl,hg,hc,Rd.of_own h⟩
end DerK
namespace DerR
open Go.RowKit Ad DerP
def BA (w:World) (l:L) (e:Ending) (w':World):Prop:=
 (∃g cap,e = .returned (.slice (some ⟨g,0,none⟩) l.length cap)∧w.heap.size≤g∧l.length≤cap∧Rd w' w'.heap.size (some ⟨g,0,none⟩) (bvs l))∧Below w.heap.size w w'
theorem Cq {w w':World} {v:Value} {n:Nat} {t:TypeId} {l:L} (h:w'.ownsRow w.heap.size t 1 v n (bvs l)) (hl:0<l.length) (hb:Below w.heap.size w w'):BA w l (.returned v) w':=by
 obtain⟨g,cap,rfl,h1,h2,h3⟩:=DerK.Gs h hl;exact⟨⟨g,cap,rfl,h1,h2,h3⟩,hb⟩
def Left (m:Nat) (W:World) (n p:Value) (w:World):Prop:=
 ∃j g cap,1≤j∧(j=1∨256 ^ (j - 1)≤m)∧j≤9∧n = .int .i64 ((m / 256 ^ j:Nat):Int)∧p = .slice (some ⟨g,0,none⟩) j cap∧Rd w w.heap.size (some ⟨g,0,none⟩) (bvs (digK j m))∧Below W.heap.size W w
def flatTo (ls:List L) (k:Nat):L:=(ls.take k).flatten
def RS (w:World) (B:Nat) (A:Option Addr) (n cap:Nat) (e:Bool):Option L→Prop
 |none=>e=true
 |some l=>e=false∧n=l.length∧n≤cap∧Rd w B A (bvs l)
def RC (w:World) (B g:Nat) (c:Option L):Prop:=∃A n cap e,Blk w g 134 #[.slice A n cap,.bool e]∧RS w B A n cap e c
theorem RC.keep {w w':World} {B g:Nat} {c:Option L} (h:RC w B g c) {row:Option Nat} (hg:w.grownBy w' row) (hne:row≠some g) (hB:B≤w.heap.size) (hr:∀k,row=some k→B≤k):RC w' B g c:=by
 obtain⟨A,n,cap,e,h1,h2⟩:=h;refine⟨A,n,cap,e,h1.grown hg hne,?_⟩;cases c with
 |none=>exact h2
 |some l=>exact⟨h2.1,h2.2.1,h2.2.2.1,h2.2.2.2.grown hg hB hr⟩
theorem ES {t:UInt8} {s:L} {m k:Nat} (h:lenR s=(m,k,true)) (hf:m+k≤s.length):BC t (t :: s)=some (((t :: s).drop (k+1)).take m,(t :: s).drop (k+1+m)):=by
 rw[BC,h,if_pos ⟨rfl,rfl,hf⟩]
 congr 2
 rw[List.drop_drop,show k+1+m=(k+m)+1 by omega]
 rfl
end DerR
end Go.Proofs.YtlfmicidppccnaaGreat
