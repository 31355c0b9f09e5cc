import Derived.Test.YtlfmicidppccnaaGreatZClientFails5
set_option maxHeartbeats 25600000
set_option maxRecDepth 100000
set_option linter.unusedVariables false
set_option linter.unusedSimpArgs false
namespace Go.Proofs.YtlfmicidppccnaaGreat
namespace Reg
open Go.RowKit Ad
section
variable {P:Program} {ops:Array Oper} {Q:Exit→Act→World→Prop} {md:Region.Mode} {S:World→Prop}
theorem AW (i:Nat) {dst:Option Tmp} {sty:TypeId} {x y:Operand} {ty:TypeId} {pos:String} {after:Array _} {guard:Option (Nat×Bool)} {fuel:Nat} {listed:Array Bool} {a:Act} {w:World} (hi:ops[i]? = some ⟨dst,.store sty x y,ty,pos,after,guard⟩)
  (hr:Region.ready md ops listed = [i]) (hw:Region.wanted ⟨dst,.store sty x y,ty,pos,after,guard⟩ (yielded ops a.tmps)=true) (g:Nat) (t:TypeId) (old cells:Array Value) (hb:Blk w g t old) (hx:a.eval x = .pointer (some ⟨g,0,none⟩)) (hy:a.eval y = .agg cells) (hs:old.size=cells.size)
  (hI:(P.info? sty).map (·.size)=some cells.size) (h1:cells.all (·.oneCell')=true)
  (h:∀V,Blk V g t cells→w.grownBy V (some g)→S V∧wpAnyH P md ops Q S fuel (listed.setIfInBounds i true) (a.put dst undef) V):wpAnyH P md ops Q S (fuel+1) listed a w:=by
 have ht:w.there g 0 cells.size:=Wh.Bl hb 0 _ (by omega);have hrun:(execOp a.eval ⟨dst,.store sty x y,ty,pos,after,guard⟩).run P w = .ok .skip (w.setCells g 0 cells.toList):=by
  unfold execOp;simp only[hx,hy,Instr.storeAt,Instr.sureAddr,Sem.run_bind,Sem.run_pure,Result.andThen_ok,run_storeVar_mid w g 0 sty cells ht hI h1]
 obtain⟨h2,h3⟩:=h _ (Wh.Ax hb hs) (Wh.BY _ _ _ _);exact JN i _ hi hr hw hrun h2 h3
theorem tk (i:Nat) {dst:Option Tmp} {op:Op} {ty:TypeId} {pos:String} {after:Array _} {guard:Option (Nat×Bool)} {v:Value} {fuel:Nat} {listed:Array Bool} {a:Act} {w:World} (hi:ops[i]? = some ⟨dst,op,ty,pos,after,guard⟩) (hS:S w)
  (hy:∀w',S w'→(execOp a.eval ⟨dst,op,ty,pos,after,guard⟩).run P w' = .ok (.value v) w')
  (h:wpAnyH P md ops Q S fuel (listed.setIfInBounds i true) (a.put dst v) w)
  (hs:Region.noSelect ops=true:=by kernel_rfl) (hf:Region.free md ops listed i=true:=by kernel_rfl) (hr:(Region.ready md ops listed).contains i=true:=by kernel_rfl)
  (hQ:∀c a w,Q (.panic c) (a.put dst v) w→Q (.panic c) a w:=by exact fun _ _ _ h=>h) (hw:Region.wanted ⟨dst,op,ty,pos,after,guard⟩ (yielded ops a.tmps)=true:=by rfl):wpAnyH P md ops Q S (fuel+1) listed a w:=
 Ij i hi hs hf hr hQ hS hw hy h
theorem s0 {α:Type} (l:List α) (i:Nat) (a:α):l.toArray.setIfInBounds i a=(l.set i a).toArray:=List.setIfInBounds_toArray ..
theorem s1 {α:Type} {x:α} {xs:List α} {a:α}:(x :: xs).set 0 a=a :: xs:=rfl
theorem s2 {α:Type} {x:α} {xs:List α} {n:Nat} {a:α}:(x :: xs).set (n+1) a=x :: xs.set n a:=rfl
end
end Reg
namespace Ca
open Go.RowKit Ad Se
open Nm (L)
open Rg (Pr prC prV AY RdR Eh Cw By BQ)
theorem AJ {P:Program} {fn:Func} {tmps:Array Value} {w:World} {v u:Value} (t q:Nat) (ty:TypeId) (a:Addr) (hres:fn.results=#[.cell t ty,.tmp q]) (ht:tmps.getD t undef = .pointer (some a)) (hl:(loadVar ty a).run P w = .ok v w) (hq:tmps.getD q undef=u) :
  (results fn tmps).run P w = .ok (.tuple #[v,u]) w:=by
 have ht':tmps[t]?.getD undef = .pointer (some a):=by simpa using ht
 have hq':tmps[q]?.getD undef=u:=by simpa using hq
 simp [results,hres,ht',hq',asAddr,hl]
theorem Ov (B:Nat) (w:World) (hB:B≤w.heap.size):Calls Tryz.prog 68 #[] w fun e w'=>e = .returned (.pointer (some ⟨w.heap.size,0,none⟩))∧Ca w' B w.heap.size (.slice none 0 0) []∧Below w.heap.size w w'∧w'.heap.size=w.heap.size+1:=by
 have h1:Ca (w.alloc (.cells #[.slice none 0 0] 168)) B w.heap.size (.slice none 0 0) []:=
  ⟨Blk.new _ _ _,World.ownsRow_nil _ _ _ _,hB,(fun h=>by cases h),(fun e he=>by cases he),(fun e he=>by cases he)⟩
 have H1:=I h1;have H2:=I ((Below.refl w.heap.size w).alloc Ae (.cells #[.slice none 0 0] 168));clear h1;go_enter Tryz.func68,Tryz.ntmps68
 go_wp2
 go_ret;exact⟨rfl,H1.o,H2.o,by simp⟩
def Fit (x:Cr):Prop:=x.s.1.length≤140737488351232∧x.s.2.length≤140737488351232∧x.b.length≤100000000000
def Fits (l:List It):Prop:=∀i∈l,Fit i.2
def getX:Option It→Cr
 |none=>GY
 |some i=>i.2
theorem Lo {l:List It} {p:Pr} {t:Int} {i:Nat} {x:It} (hx:l[i]? = some x) (hh:hitG p t x=true) (hn:∀j y,j<i→l[j]? = some y→hitG p t y=false):getO l p t=some x:=by
 obtain⟨h1,h2⟩:=List.getElem?_eq_some_iff.1 hx;unfold getO;rw[List.find?_eq_some_iff_getElem];refine⟨hh,i,h1,h2,fun j hj=>?_⟩;have:=hn j _ hj (List.getElem?_eq_getElem (by omega));simp [this]
theorem JT {l:List It} {p:Pr} {t:Int} (hn:∀j y,j<l.length→l[j]? = some y→hitG p t y=false):getO l p t=none:=by
 unfold getO;rw[List.find?_eq_none];intro x hx;obtain⟨j,hj1,hj2⟩:=List.getElem_of_mem hx;have:=hn j x hj1 (by rw[←hj2];exact List.getElem?_eq_getElem hj1);simp [this]
theorem Mr {es:List En} {i:Nat} {x:It} (h:(its es)[i]? = some x):∃e,es[i]? = some e∧e.it=x:=by simpa [its] using h
theorem Ox {es:List En} {i:Nat} {e:En} (h:es[i]? = some e):(its es)[i]? = some e.it:=by simp [its,h]
theorem Nl (B r:Nat) (v:Value) (es:List En) (p:Pr) (t:Int) (w:World) (h:Ca w B r v es) (hf:Fits (its es)) (hl:es.length≤1000) :
  Calls Tryz.prog 41 #[.pointer (some ⟨r,0,none⟩),prV p,.int .i64 t] w fun e w'=>∃A c,e = .returned (.tuple #[.agg (crA (getX (getO (its es) p t)) A c),.bool (getO (its es) p t).isSome])∧Own1 w w' A (bvs (getX (getO (its es) p t)).b)∧Below w.heap.size w w'∧(getX (getO (its es) p t)).b.length≤c:=by
 obtain⟨o,eo⟩:∃o,o=getO (its es) p t:=⟨_,rfl⟩;rw[←eo];have EO:=I eo;obtain⟨A0,c0,rfl,_,_,hr⟩:=h.num;have hb0:=h.blk;obtain⟨n,en⟩:∃n,n=es.length:=⟨_,rfl⟩;have EN:=I en;rw[←en] at hb0 hl;have CX:=I (fun(x:En) (hx:x∈es) (w1:World) (hb:Below w.heap.size w w1)=>have q:=hf x.it (List.mem_map.2 ⟨x,hx,rfl⟩);Nk x.x x.A x.c w1.heap.size w1 (((h.rd x hx).below hb).more hb.size) Ae q.1 q.2.1 q.2.2);have HR:=I hr;have hrl:=h.lt;obtain⟨zs,ezs⟩:∃zs,zs=crA GY none 0:=⟨_,rfl⟩;have EZS:=I ezs;have EZ2:=I (ezs.trans JS);have HZS:=I (show zs.size=37 by rw[ezs,Be]);have HZI:=I (show(Tryz.prog.info? 44).map (·.size)=some zs.size by rw[ezs,Be];exact Dy);have HZ1:=I (show zs.all (·.oneCell')=true by rw[ezs];exact Fe _ _ _);obtain⟨W,eW⟩:∃W,W=(w.alloc (.cells #[.string ⟨p.1.toArray⟩,.string ⟨p.2.toArray⟩] 40)).alloc (.cells zs 44):=⟨_,rfl⟩;have hb:Below w.heap.size w W:=eW▸(Af.alloc Ae _).alloc (by simp) _;have HP:=I (show Blk W w.heap.size 40 #[.string ⟨p.1.toArray⟩,.string ⟨p.2.toArray⟩] from eW▸(Blk.new w _ _).alloc _);have HZ:=I (show Blk W (w.heap.size+1) 44 zs by have:=Blk.new (w.alloc (.cells #[.string ⟨p.1.toArray⟩,.string ⟨p.2.toArray⟩] 40)) 44 zs;simp only[World.size_alloc] at this;exact eW▸this);have HB:=I hb;have k0:W.cell? ⟨r,0,none⟩=some (.slice A0 n c0):=(hb.cell (p:=⟨r,0,none⟩) hrl).trans (hb0.cell 0);clear h hf hb hb0 hr eo en ezs hrl;go_enter Tryz.func41,Tryz.ntmps41
 go_upto_region 1 with fail
 rw[←EZ2.o,←eW];clear eW EZ2
 go_wp2
 go_loopw [18] (fun iv wr=>∃i:Nat,i≤n∧iv = .int .i64 (i:Int)∧Below w.heap.size w wr∧Blk wr w.heap.size 40 #[.string ⟨p.1.toArray⟩,.string ⟨p.2.toArray⟩]∧Blk wr (w.heap.size+1) 44 zs∧∀j x,j<i→es[j]? = some x→hitG p t x.it=false) (fun iv _=>n - (intOf iv).toNat)
 case atStart=>exact⟨0,Nat.zero_le _,rfl,HB.o,HP.o,HZ.o,fun j x hj=>absurd hj (Nat.not_lt_zero _)⟩
 case round=>
  clear HB HP HZ k0;obtain⟨i,hi,rfl,hb,hp,hz,hno⟩:=hrel;have HB:=I hb;have HP:=I hp;have HZ:=I hz;have HNO:=I hno;have HRR:=I (HR.o.keep hb);clear hb hp hz hno
  by_cases hlt:i<n
  ·have e1:(i:Int)<(n:Int):=by omega
   have e2:(0:Int)≤(i:Int):=by omega
   obtain⟨x,hx⟩:∃x,es[i]? = some x:=⟨es[i]'(by rw[←EN.o];exact hlt),List.getElem?_eq_getElem _⟩;obtain⟨g,rfl,hgN,hra⟩:=HRR.o.at_ hx;rw[←FJ] at hra;have HRA:=I hra;have his:=Ni;rw[←EH x] at his;have HIS:=I his;have H1X:=I (Ng x);have HX:=I hx;have HM:=I (List.mem_of_getElem? hx);have CC:=I (CX.o x HM.o);obtain⟨xs,exs⟩:∃xs,xs=crA x.x x.A x.c:=⟨_,rfl⟩;rw[←exs] at CC;have HXI:=I (show(Tryz.prog.info? 44).map (·.size)=some xs.size by rw[exs,Be];exact Dy);have EXS:=I exs;obtain⟨ds,eds⟩:∃ds,ds=enA x:=⟨_,rfl⟩;rw[←eds] at HRA HIS H1X;have EDS:=I eds;have HDS:=I (show #[Value.string ⟨#[]⟩].size=1 from rfl);clear hra his hx eds exs;have hhit:hitG p t x.it=(decide (x.p=p)&&decide (t≤x.x.e)):=rfl;have HHIT:=I hhit;clear hhit
   by_cases hq:x.p=p
   ·have t1:=By hq
    rw[decide_eq_true hq] at HHIT;clear hq
    by_cases ht:t≤x.x.e
    ·have t2:decide (t≤x.x.e)=true:=decide_eq_true ht
     rw[t2] at HHIT;clear ht
     go_wp2_with (first
      |(refine Wh.Aq (by rfl) 170 (.tmp 20) (by rfl) g _ (by rfl) ds _ HRA.o Tryz.underlying170 (by rfl) HIS.o ?_)
      |(refine Wh.BZ (by rfl) 170 (.tmp 9) (.tmp 21) (by rfl) 170 rfl ds (by rfl) (by rfl) (by rw[EDS.o,EH];rfl) HIS.o H1X.o ?_;rintro V hV hb;replace HB:=HB.t hb;replace HP:=I (HP.o.below hb);replace HZ:=I (HZ.o.below hb);have hen:=JR (EDS.o▸hV);have HEN:=I hen;have HPR:=I (Wh.Aj HP.o);have ke:V.cell? ⟨wr.heap.size,38,none⟩=some (.int .i64 x.x.e):=JQ (o:=0) hen;have HCRED:=I (Lj hen);clear hV hb hen)
      |(refine Wh.Aq (by rfl) 40 (.tmp 22) (by rfl) _ 0 (by rfl) _ _ (Nh HEN.o) Tryz.underlying40 (by rfl) AY ?_)
      |(refine Wh.Aq (by rfl) 40 (.tmp 4) (by rfl) _ 0 (by rfl) _ _ HPR.o Tryz.underlying40 (by rfl) AY ?_)
      |(refine Wh.Aq (by rfl) 44 (.tmp 33) (by rfl) _ 2 (by rfl) xs _ (by rw[EXS.o,FK];exact HCRED.o) Tryz.underlying44 (by rfl) HXI.o ?_)
      |(go_at_call 84;refine Calls.mono (CC.o _ HB.o) ?_;rintro e w2 ⟨A',c',rfl,ho,hb,hcap⟩;have HCAP:=I hcap;clear hcap;have HNE:=I (show ∀p,A'=some p→p.block≠w.heap.size+1 from fun p hp=>by have:=HZ.o.lt;have:=(ho.2 p hp).1;omega);replace HZ:=I (HZ.o.below hb);have HO:=I (ho.since HB.o.size);replace HB:=HB.t hb;obtain⟨rs,ers⟩:∃rs,rs=crA x.x A' c':=⟨_,rfl⟩;rw[←ers];have ERS:=I ers;have HRS:=I (show rs.size=37 by rw[ers,Be]);have HRI:=I (show(Tryz.prog.info? 44).map (·.size)=some rs.size by rw[ers,Be];exact Dy);have HR1:=I (show rs.all (·.oneCell')=true by rw[ers];exact Fe _ _ _);clear ho hb ers ke)
      |(refine Wh.Eg (by rfl) 44 (.tmp 6) (.tmp 35) (by rfl) (w.heap.size+1) 44 _ HZ.o rs (by rfl) (by rfl) (by rw[HZS.o,HRS.o]) HRI.o HR1.o ?_;rintro V2 hV2 hg;have HV:=I hV2;replace HB:=I (btg HB.o hg (by omega));replace HO:=I (HO.o.chg (Chg.of_grown (S:=fun k=>k=w.heap.size+1) hg rfl) (fun p hp=>HNE.o p hp));clear hV2 hg)
      |fail)
     have ho:o=some x.it:=by
      rw[EO.o];refine Lo (Ox HX.o) (HHIT.o.trans rfl) (fun j y hj hy=>?_);obtain⟨e,he,rfl⟩:=Mr hy;exact HNO.o j e hj he
     clear EO;subst ho;refine bodyPost_ret (v:=.tuple #[.agg rs,.bool true]) ?_ ?_ ?_
     ·exact AJ 6 7 44 ⟨w.heap.size+1,0,none⟩ Tryz.results41 (by rfl) (Wh.Al HV.o Tryz.underlying44 (by rfl) HRI.o) (by rfl)
     ·rfl
     ·exact⟨A',c',by rw[ERS.o];rfl,HO.o,HB.o,HCAP.o⟩
    ·have t2:decide (t≤x.x.e)=false:=decide_eq_false ht
     rw[t2] at HHIT;clear ht
     go_wp2_with (first
      |(refine Wh.Aq (by rfl) 170 (.tmp 20) (by rfl) g _ (by rfl) ds _ HRA.o Tryz.underlying170 (by rfl) HIS.o ?_)
      |(refine Wh.BZ (by rfl) 170 (.tmp 9) (.tmp 21) (by rfl) 170 rfl ds (by rfl) (by rfl) (by rw[EDS.o,EH];rfl) HIS.o H1X.o ?_;rintro V hV hb;replace HB:=HB.t hb;replace HP:=I (HP.o.below hb);replace HZ:=I (HZ.o.below hb);have hen:=JR (EDS.o▸hV);have HEN:=I hen;have HPR:=I (Wh.Aj HP.o);have ke:V.cell? ⟨wr.heap.size,38,none⟩=some (.int .i64 x.x.e):=JQ (o:=0) hen;have HCRED:=I (Lj hen);clear hV hb hen)
      |(refine Wh.Aq (by rfl) 40 (.tmp 22) (by rfl) _ 0 (by rfl) _ _ (Nh HEN.o) Tryz.underlying40 (by rfl) AY ?_)
      |(refine Wh.Aq (by rfl) 40 (.tmp 4) (by rfl) _ 0 (by rfl) _ _ HPR.o Tryz.underlying40 (by rfl) AY ?_)
      |fail)
     go_roundw
     case rel=>exact⟨i+1,by omega,by go_num,HB.o,HP.o,HZ.o,fun j y hj hy=>by
      rcases Nat.lt_or_eq_of_le (Nat.le_of_lt_succ hj) with g | g
      ·exact HNO.o j y g hy
      ·rw[g,HX.o] at hy
       injection hy with hy;rw[←hy];exact HHIT.o.trans rfl⟩
     case measure=>simp [intOf];omega
   ·have t1:=BQ hq
    rw[decide_eq_false hq] at HHIT;clear hq
    go_wp2_with (first
     |(refine Wh.Aq (by rfl) 170 (.tmp 20) (by rfl) g _ (by rfl) ds _ HRA.o Tryz.underlying170 (by rfl) HIS.o ?_)
     |(refine Wh.BZ (by rfl) 170 (.tmp 9) (.tmp 21) (by rfl) 170 rfl ds (by rfl) (by rfl) (by rw[EDS.o,EH];rfl) HIS.o H1X.o ?_;rintro V hV hb;replace HB:=HB.t hb;replace HP:=I (HP.o.below hb);replace HZ:=I (HZ.o.below hb);have hen:=JR (EDS.o▸hV);have HEN:=I hen;have HPR:=I (Wh.Aj HP.o);have ke:V.cell? ⟨wr.heap.size,38,none⟩=some (.int .i64 x.x.e):=JQ (o:=0) hen;have HCRED:=I (Lj hen);clear hV hb hen)
     |(refine Wh.Aq (by rfl) 40 (.tmp 22) (by rfl) _ 0 (by rfl) _ _ (Nh HEN.o) Tryz.underlying40 (by rfl) AY ?_)
     |(refine Wh.Aq (by rfl) 40 (.tmp 4) (by rfl) _ 0 (by rfl) _ _ HPR.o Tryz.underlying40 (by rfl) AY ?_)
     |fail)
    go_roundw
    case rel=>exact⟨i+1,by omega,by go_num,HB.o,HP.o,HZ.o,fun j y hj hy=>by
     rcases Nat.lt_or_eq_of_le (Nat.le_of_lt_succ hj) with g | g
     ·exact HNO.o j y g hy
     ·rw[g,HX.o] at hy
      injection hy with hy;rw[←hy];exact HHIT.o.trans rfl⟩
    case measure=>simp [intOf];omega
  ·have e1:¬(i:Int)<(n:Int):=by omega
   obtain rfl:n=i:=by omega
   have ho:o=none:=by
    rw[EO.o];refine JT (fun j y hj hy=>?_);rw[Ei,←EN.o] at hj;obtain⟨e,he,rfl⟩:=Mr hy;exact HNO.o j e hj he
   clear EO;subst ho
   go_wp2_with (first
    |(refine Wh.Eg (by rfl) 44 (.tmp 6) (.tmp 37) (by rfl) (w.heap.size+1) 44 zs HZ.o (crA GY none 0) (by rfl) (by rfl) (by rw[HZS.o,Be]) (by rw[Be];exact Dy) (Fe _ _ _) ?_;rintro V2 hV2 hg;have HV:=I hV2;replace HB:=I (btg HB.o hg (by omega));clear hV2 hg)
    |fail)
   refine bodyPost_ret (v:=.tuple #[.agg (crA GY none 0),.bool false]) ?_ ?_ ?_
   ·exact AJ 6 7 44 ⟨w.heap.size+1,0,none⟩ Tryz.results41 (by rfl) (Wh.Al HV.o Tryz.underlying44 (by rfl) (by rw[Be];exact Dy)) (by rfl)
   ·rfl
   ·first
    |exact⟨none,0,rfl,Own1.none _ _,HB.o,Nat.le_refl _⟩
end Ca
namespace Ca
open Go.RowKit Ad Se
open Nm (L)
open Rg (Pr prC prV AY RdR Eh Cw)
section
variable {a w w':World} {B r g:Nat} {v v':Value} {es es':List En} {t:TypeId} {cs:Array Value}
theorem Oy (h:CO r (.slice none 0 0) [] g):g=r:=by
 rcases h with h | h | ⟨e,he,_⟩
 ·exact h
 ·cases h
 ·cases he
end
abbrev p1:Pr:=([65],[120])
open Rg (By BQ)
structure DCa (w:World) (N B q:Nat) (v:Value) (es:List En):Prop where
 blk:Blk w q 50 #[v]
 row:w.ownsRow B 118 39 v es.length (es.flatMap enC)
 lo:B≤q
 vq:v.ownBlock≠some q
 nb:N≤B
 rd:∀e∈es,Rd w N e.A (bvs e.x.b)
section
variable {w w':World} {N B q:Nat} {v v':Value} {es es':List En} {S:Nat→Prop}
theorem DCa.lt (h:DCa w N B q v es):q<w.heap.size:=h.blk.lt
theorem DCa.big (h:DCa w N B q v es):B≤w.heap.size:=by have:=h.lo;have:=h.lt;omega
theorem DCa.own_lt (h:DCa w N B q v es) {k:Nat} (hk:PT q v k):k<w.heap.size:=by
 rcases hk with hk | hk
 ·subst hk;exact h.lt
 ·exact(World.ownsRow.lt h.row k hk).2
theorem DCa.chg (h:DCa w N B q v es) (hc:Chg S w w') (hs:∀k,PT q v k→¬S k) (hn:∀k,k<w.heap.size→S k→N≤k):DCa w' N B q v es:=
 ⟨hc.blk h.blk (hs q (.inl rfl)),Cw hc h.row (fun k hk=>hs k (.inr hk)),h.lo,h.vq,h.nb,fun e he=>(h.rd e he).below (hc.below (Nat.le_trans h.nb h.big) hn)⟩
theorem DCa.below (h:DCa w N B q v es) (hb:Below w.heap.size w w'):DCa w' N B q v es:=h.chg (S:=fun _=>False) (Chg.of_below hb) (fun _ _ x=>x) (fun _ _ x=>x.elim)
theorem Lp {t:TypeId} {n m:Nat} {xs:List Value} {B':Nat} (h:w.ownsRow B' t n v m xs) (hB:B≤B'):w.ownsRow B t n v m xs:=by
 refine⟨h.1,?_⟩;rcases h.2 with h2 | ⟨g,cap,cur,h2,h3,h4⟩
 ·exact .inl h2
 ·exact .inr ⟨g,cap,cur,h2,Nat.le_trans hB h3,h4⟩
end
end Ca
namespace DerC
open Go.RowKit Ad DerP
attribute [local go_sem] EB List.getElem_cons_zero List.getElem_cons_succ Ce Cf Du
def AR (w w':World):Prop:=∃n,w'=w.drewN n
theorem AR.refl (w:World):AR w w:=⟨0,rfl⟩
def Gd:Option L→Array Value
 |none=>#[.string ⟨([]:List UInt8).toArray⟩,.bool true]
 |some s=>#[.string ⟨s.toArray⟩,.bool false]
def Ik:Option L→Bool
 |some []=>true
 |_=>false
def Cur (w:World) (g:Nat) (c:Option L):Prop:=Blk w g 258 (Gd c)
theorem GZ (s:L) (w:World):Calls Tryz.prog 227 #[.string ⟨s.toArray⟩] w fun e w'=>
  e = .returned (.tuple #[.int .i64 ((lenR s).1:Int),.int .i64 ((lenR s).2.1:Int),.bool (lenR s).2.2])∧AR w w':=by
 cases s with
 |nil=>
  go_enter Tryz.func227,Tryz.ntmps227
  go_wp2
  go_ret3
  exact⟨rfl,AR.refl _⟩
 |cons a r=>
  by_cases h1:a.toNat<128
  ·have g1:decide ((a.toNat:Int)<128)=true:=by simp;omega
   have E:Hid (lenR (a :: r)=(a.toNat,1,true)):=Dl h1;have H:=I h1;clear h1;have ha:=Ba a;go_enter Tryz.func227,Tryz.ntmps227
   go_wp2
   go_ret3
   exact⟨by rw[E.o];rfl,AR.refl _⟩
  ·have g1:decide ((a.toNat:Int)<128)=false:=by simp;omega
   by_cases h2:a.toNat=129
   ·have g2:((a.toNat:Int)==129)=true:=by simp;omega
    have g3:((a.toNat:Int)==130)=false:=by simp;omega
    have H1:=I h1;clear h1;have H2:=I h2;clear h2;cases r with
    |nil=>
     have E:Hid (lenR [a]=(0,0,false)):=CU H2.o;go_enter Tryz.func227,Tryz.ntmps227
     go_wp2
     go_ret3
     exact⟨by rw[E.o];rfl,AR.refl _⟩
    |cons b q=>
     have hb:=Ba b;have E:Hid (lenR (a :: b :: q)=(b.toNat,2,decide (128≤b.toNat))):=DE H2.o;have F:Hid (decide ((128:Int)≤(b.toNat:Int))=decide (128≤b.toNat)):=by show _=_;simp;omega
     go_enter Tryz.func227,Tryz.ntmps227
     go_wp2
     go_ret3
     exact⟨by rw[E.o,←F.o];rfl,AR.refl _⟩
   ·have g2:((a.toNat:Int)==129)=false:=by simp;omega
    by_cases h3:a.toNat=130
    ·have g3:((a.toNat:Int)==130)=true:=by simp;omega
     have H1:=I h1;clear h1;have H2:=I h2;clear h2;have H3:=I h3;clear h3;rcases r with _ | ⟨b,_ | ⟨c,q⟩⟩
     ·have E:Hid (lenR [a]=(0,0,false)):=CV H3.o
      go_enter Tryz.func227,Tryz.ntmps227
      go_wp2
      go_ret3
      exact⟨by rw[E.o];rfl,AR.refl _⟩
     ·have E:Hid (lenR [a,b]=(0,0,false)):=CW H3.o
      go_enter Tryz.func227,Tryz.ntmps227
      go_wp2
      go_ret3
      exact⟨by rw[E.o];rfl,AR.refl _⟩
     ·have hb:=Ba b
      have hc:=Ba c;have E:Hid (lenR (a :: b :: c :: q)=(b.toNat*256+c.toNat,3,decide (255<b.toNat*256+c.toNat))):=Dm H3.o;go_enter Tryz.func227,Tryz.ntmps227
      go_wp2
      go_quiet (fail)
      go_wp2
      go_ret3
      have F:(decide ((255:Int)<(b.toNat:Int)*256+(c.toNat:Int)))=decide (255<b.toNat*256+c.toNat):=by simp;omega
      have G:=Es b.toNat c.toNat (by omega) (by omega);exact⟨by rw[E.o,←F,←G];simp [G],⟨_,rfl⟩⟩
    ·have g3:((a.toNat:Int)==130)=false:=by simp;omega
     have E:Hid (lenR (a :: r)=(0,0,false)):=ES h1 h2 h3;have H1:=I h1;clear h1;have H2:=I h2;clear h2;have H3:=I h3;clear h3;go_enter Tryz.func227,Tryz.ntmps227
     go_wp2
     go_ret3
     exact⟨by rw[E.o];rfl,AR.refl _⟩
theorem Lq (w:World):Calls Tryz.prog 201 #[.pointer none] w fun e w'=>e = .returned (.bool false)∧w=w':=by
 go_enter Tryz.func201,Tryz.ntmps201
 go_wp2
 go_ret;exact⟨rfl,rfl⟩
theorem Ff {w:World} {g:Nat} {c:Option L} (h:Cur w g c):w.cell? ⟨g,0,none⟩=some (.string ⟨(c.getD []).toArray⟩)∧w.cell? ⟨g,1,none⟩=some (.bool (!c.isSome)):=by
 have h0:=h.cell 0;have h1:=h.cell 1;cases c<;>exact⟨h0,h1⟩
theorem FL {w:World} {g:Nat} {c:Option L} (h:Cur w g c):w.frozen? ⟨g,0,none⟩=false∧w.frozen? ⟨g,1,none⟩=false:=⟨h.frozen 0,h.frozen 1⟩
theorem Ge (g:Nat) (c:Option L) (w:World) (h:Cur w g c):Calls Tryz.prog 201 #[.pointer (some ⟨g,0,none⟩)] w fun e w'=>e = .returned (.bool c.isSome)∧w=w':=by
 obtain⟨_,h1⟩:=Ff h;go_enter Tryz.func201,Tryz.ntmps201
 go_wp2
 go_ret;exact⟨by simp,rfl⟩
theorem Il (g:Nat) (c:Option L) (w:World) (h:Cur w g c):Calls Tryz.prog 203 #[.pointer (some ⟨g,0,none⟩)] w fun e w'=>e = .returned (.tuple #[])∧Cur w' g none∧w.grownBy w' (some g):=by
 obtain⟨h0,h1⟩:=Ff h;obtain⟨f0,f1⟩:=FL h;go_enter Tryz.func203,Tryz.ntmps203
 go_wp2
 go_end0
 exact⟨rfl,by have:=(h.set 0 (.string ⟨#[]⟩)).set 1 (.bool true);cases c<;>exact this,by repeat (first | exact World.grownBy.refl _ _ | refine Av ?_ (.inl rfl) _)⟩
theorem JU (t:UInt8) (w:World):Calls Tryz.prog 202 #[.string ⟨([]:List UInt8).toArray⟩,.int .u8 t.toNat] w fun e w'=>
  e = .returned (.tuple #[.string ⟨([]:List UInt8).toArray⟩,.string ⟨([]:List UInt8).toArray⟩,.bool false])∧AR w w':=by
 go_enter Tryz.func202,Tryz.ntmps202
 go_wp2
 go_ret3
 exact⟨rfl,AR.refl _⟩
theorem Ha (a t:UInt8) (r:L) (w:World) (hne:a≠t):Calls Tryz.prog 202 #[.string ⟨(a :: r).toArray⟩,.int .u8 t.toNat] w fun e w'=>
  e = .returned (.tuple #[.string ⟨([]:List UInt8).toArray⟩,.string ⟨([]:List UInt8).toArray⟩,.bool false])∧AR w w':=by
 have h1:((a.toNat:Int)==(t.toNat:Int))=false:=by simp;exact fun g=>hne (UInt8.toNat_inj.1 (by omega))
 have h2:((a.toNat:Int) != (t.toNat:Int))=true:=by simp;exact fun g=>hne (UInt8.toNat_inj.1 (by omega))
 have H:=I hne;clear hne;go_enter Tryz.func202,Tryz.ntmps202
 go_wp2
 go_ret3
 exact⟨rfl,AR.refl _⟩
theorem IN (t:UInt8) (r:L) (w:World) (hs:(r.length:Int)≤100000) (hk:(lenR r).2.2=true) (hf:(lenR r).1+(lenR r).2.1≤r.length):Calls Tryz.prog 202 #[.string ⟨(t :: r).toArray⟩,.int .u8 t.toNat] w fun e w'=>
  e = .returned (.tuple #[.string ⟨((r.drop (lenR r).2.1).take (lenR r).1).toArray⟩,.string ⟨((r.drop (lenR r).2.1).drop (lenR r).1).toArray⟩,.bool true])∧AR w w':=by
 have hl:=Jw r;generalize hx:lenR r=x at *;obtain⟨n,k,ok⟩:=x;simp only at hk hf hl⊢;have hf1:((r.length:Int) - (k:Int)<(n:Int))=False:=by simp;omega
 have hf2:decide ((r.length:Int) - (k:Int)<(n:Int))=false:=by simp;omega
 have hf3:(k:Int)+(n:Int)≤(r.length:Int):=by omega
 have hl1:(n:Int)≤65535:=by omega
 have hl2:(k:Int)≤3:=by omega
 have hc:∀W,Calls Tryz.prog 227 #[.string ⟨r.toArray⟩] W fun e w'=>e = .returned (.tuple #[.int .i64 (n:Int),.int .i64 (k:Int),.bool true])∧AR W w':=by
  intro W;have:=GZ r W;rw[hx] at this;subst hk;exact this
 have HC:=I hc;clear hc;have HX:=I hx;clear hx;have HK:=I hk;clear hk;clear hf hl;go_enter Tryz.func202,Tryz.ntmps202
 go_wp2_with (go_at_call 227;refine(HC.o _).mono ?_;rintro e w' ⟨rfl,q,rfl⟩)
 go_quiet (fail)
 go_wp2
 go_ret3
 exact⟨by rw[←Du r k n,List.drop_drop];rfl,⟨_,World.drewN_drewN _ _ _⟩⟩
theorem JV (t:UInt8) (r:L) (w:World) (hk:(lenR r).2.2=false):Calls Tryz.prog 202 #[.string ⟨(t :: r).toArray⟩,.int .u8 t.toNat] w fun e w'=>
  e = .returned (.tuple #[.string ⟨([]:List UInt8).toArray⟩,.string ⟨([]:List UInt8).toArray⟩,.bool false])∧AR w w':=by
 have hc:∀W,Calls Tryz.prog 227 #[.string ⟨r.toArray⟩] W fun e w'=>e = .returned (.tuple #[.int .i64 ((lenR r).1:Int),.int .i64 ((lenR r).2.1:Int),.bool false])∧AR W w':=by
  intro W;have:=GZ r W;rw[hk] at this;exact this
 have HC:=I hc;clear hc;have HK:=I hk;clear hk;go_enter Tryz.func202,Tryz.ntmps202
 go_wp2_with (go_at_call 227;refine(HC.o _).mono ?_;rintro e w' ⟨rfl,q,rfl⟩)
 go_ret3
 exact⟨rfl,⟨_,rfl⟩⟩
theorem Hb (t:UInt8) (r:L) (w:World) (hs:(r.length:Int)≤100000) (hk:(lenR r).2.2=true) (hf:¬(lenR r).1+(lenR r).2.1≤r.length):Calls Tryz.prog 202 #[.string ⟨(t :: r).toArray⟩,.int .u8 t.toNat] w fun e w'=>
  e = .returned (.tuple #[.string ⟨([]:List UInt8).toArray⟩,.string ⟨([]:List UInt8).toArray⟩,.bool false])∧AR w w':=by
 have hl:=Jw r;have hc:∀W,Calls Tryz.prog 227 #[.string ⟨r.toArray⟩] W fun e w'=>e = .returned (.tuple #[.int .i64 ((lenR r).1:Int),.int .i64 ((lenR r).2.1:Int),.bool true])∧AR W w':=by
  intro W;have:=GZ r W;rw[hk] at this;exact this
 have HC:=I hc;clear hc;have HK:=I hk;clear hk;generalize (lenR r).1=n at *;generalize (lenR r).2.1=k at *;have hf2:decide ((r.length:Int) - (k:Int)<(n:Int))=true:=by simp;omega
 have hl1:(n:Int)≤65535:=by omega
 have hl2:(k:Int)≤3:=by omega
 clear hf hl;go_enter Tryz.func202,Tryz.ntmps202
 go_wp2_with (go_at_call 227;refine(HC.o _).mono ?_;rintro e w' ⟨rfl,q,rfl⟩)
 go_ret3
 exact⟨rfl,⟨_,rfl⟩⟩
def Im (o:Option (L×L)):Value:=.tuple #[.string ⟨((o.map (·.1)).getD []).toArray⟩,.string ⟨((o.map (·.2)).getD []).toArray⟩,.bool o.isSome]
theorem DM (t:UInt8) (s:L) (w:World) (hs:(s.length:Int)≤100000):Calls Tryz.prog 202 #[.string ⟨s.toArray⟩,.int .u8 t.toNat] w fun e w'=>
  e = .returned (Im (AP t s))∧AR w w':=by
 cases s with
 |nil=>exact JU t w
 |cons a r=>
  simp only[List.length_cons] at hs
  by_cases h1:a=t
  ·subst h1
   cases hk:(lenR r).2.2 with
   |false=>
    rw[show AP a (a :: r)=none by simp [AP,hk]];exact JV a r w hk
   |true=>
    by_cases hf:(lenR r).1+(lenR r).2.1≤r.length
    ·rw[show AP a (a :: r)=some ((r.drop (lenR r).2.1).take (lenR r).1,(r.drop (lenR r).2.1).drop (lenR r).1) by rw[AP,if_pos ⟨rfl,hk,hf⟩]]
     exact IN a r w (by omega) hk hf
    ·rw[show AP a (a :: r)=none by rw[AP,if_neg (fun h=>hf h.2.2)]]
     exact Hb a r w (by omega) hk hf
  ·rw[show AP t (a :: r)=none by rw[AP,if_neg (fun h=>h1 h.1)]]
   exact Ha a t r w h1
theorem take_nil (t:UInt8) (w:World):Calls Tryz.prog 168 #[.pointer none,.int .u8 t.toNat] w fun e w'=>
  e = .returned (.tuple #[.string ⟨([]:List UInt8).toArray⟩,.bool false])∧w=w':=by
 go_enter Tryz.func168,Tryz.ntmps168
 go_wp2_with (go_at_call 201;refine(Lq _).mono ?_;rintro e w' ⟨rfl,rfl⟩)
 go_ret2
 exact⟨rfl,rfl⟩
theorem EI (t:UInt8) (g:Nat) (c:Option L) (w:World) (h:Cur w g c) (hs:((c.getD []).length:Int)≤100000):Calls Tryz.prog 168 #[.pointer (some ⟨g,0,none⟩),.int .u8 t.toNat] w fun e w'=>
  e = .returned (.tuple #[.string ⟨((Ah t c).getD []).toArray⟩,.bool (Ah t c).isSome])∧Cur w' g (Az t c)∧w.grownBy w' (some g):=by
 obtain⟨h0,h1⟩:=Ff h;obtain⟨f0,f1⟩:=FL h;cases c with
 |none=>
  go_enter Tryz.func168,Tryz.ntmps168
  go_wp2_with (go_at_call 201;refine(Ge _ _ _ h).mono ?_;rintro e w' ⟨rfl,rfl⟩)
  go_ret2
  exact⟨rfl,h,World.grownBy.refl _ _⟩
 |some s=>
  have hc:∀W,Calls Tryz.prog 202 #[.string ⟨s.toArray⟩,.int .u8 t.toNat] W fun e w'=>e = .returned (Im (AP t s))∧AR W w':=fun W=>DM t s W hs
  cases hx:AP t s with
  |none=>
   rw[hx] at hc;simp only[Im,Option.map_none,Option.getD_none,Option.isSome_none] at hc;have HC:=I hc;clear hc;have HX:=I hx;clear hx;go_enter Tryz.func168,Tryz.ntmps168
   go_wp2_with (first
    |(go_at_call 201;refine(Ge _ _ _ h).mono ?_;rintro e w' ⟨rfl,rfl⟩)
    |(go_at_call 202;refine(HC.o _).mono ?_;rintro e w' ⟨rfl,q,rfl⟩)
    |(go_at_call 203;refine(Il _ _ _ (h.drewN q)).mono ?_;rintro e w' ⟨rfl,hc1,hg1⟩))
   go_ret2
   obtain⟨e1,e2⟩:=AT HX.o;rw[e1,e2];exact⟨rfl,hc1,(Dv (World.grownBy.refl w _) q).trans hg1⟩
  |some x=>
   obtain⟨b,r⟩:=x;rw[hx] at hc;simp only[Im,Option.map_some,Option.getD_some,Option.isSome_some] at hc;have HC:=I hc;clear hc;have HX:=I hx;clear hx;go_enter Tryz.func168,Tryz.ntmps168
   go_wp2_with (first
    |(go_at_call 201;refine(Ge _ _ _ h).mono ?_;rintro e w' ⟨rfl,rfl⟩)
    |(go_at_call 202;refine(HC.o _).mono ?_;rintro e w' ⟨rfl,q,rfl⟩))
   go_ret2
   obtain⟨e1,e2⟩:=BV HX.o;rw[e1,e2];exact⟨rfl,(h.drewN q).set 0 (.string ⟨r.toArray⟩),Av (Dv (World.grownBy.refl w _) q) (.inl rfl) _⟩
end DerC
namespace DerC
open Go.RowKit Ad DerP
attribute [local go_sem] EB List.getElem_cons_zero List.getElem_cons_succ Ce Cf Du
def numV (p:Nat×Bool):Value:=.tuple #[.int .i64 (p.1:Int),.bool p.2]
theorem IP (w:World):Calls Tryz.prog 205 #[.string ⟨([]:List UInt8).toArray⟩] w fun e w'=>e = .returned (numV (numR []))∧AR w w':=by
 go_enter Tryz.func205,Tryz.ntmps205
 go_wp2
 go_ret2
 exact⟨rfl,AR.refl _⟩
theorem Hc (a:UInt8) (r:L) (h:7<r.length) (hs:(r.length:Int)≤100000) (w:World):Calls Tryz.prog 205 #[.string ⟨(a :: r).toArray⟩] w fun e w'=>e = .returned (numV (numR (a :: r)))∧AR w w':=by
 have g1:decide ((8:Int)<(r.length:Int)+1)=true:=by simp;omega
 have E:=I (Js (a:=a) h);clear h;go_enter Tryz.func205,Tryz.ntmps205
 go_wp2
 go_ret2
 exact⟨by rw[E.o];rfl,AR.refl _⟩
theorem Hd (a:UInt8) (r:L) (h:¬7<r.length) (h2:128≤a.toNat) (w:World):Calls Tryz.prog 205 #[.string ⟨(a :: r).toArray⟩] w fun e w'=>e = .returned (numV (numR (a :: r)))∧AR w w':=by
 have g1:decide ((8:Int)<(r.length:Int)+1)=false:=by simp;omega
 have g2:decide ((128:Int)≤(a.toNat:Int))=true:=by simp;omega
 have E:=I (Jt (r:=r) h2);have hr:(r.length:Int)≤7:=by omega
 clear h h2;go_enter Tryz.func205,Tryz.ntmps205
 go_wp2
 go_ret2
 exact⟨by rw[E.o];rfl,AR.refl _⟩
theorem He (a b:UInt8) (r:L) (h:¬7<(b :: r).length) (h2:a.toNat=0) (hb:b.toNat<128) (w:World):Calls Tryz.prog 205 #[.string ⟨(a :: b :: r).toArray⟩] w fun e w'=>e = .returned (numV (numR (a :: b :: r)))∧AR w w':=by
 simp only[List.length_cons] at h;have g1:decide ((8:Int)<(r.length:Int)+1+1)=false:=by simp;omega
 have g2:decide ((128:Int)≤(a.toNat:Int))=false:=by simp;omega
 have g3:((a.toNat:Int)==0)=true:=by simp;omega
 have g4:decide ((b.toNat:Int)<128)=true:=by simp;omega
 have g5:decide ((1:Int)<(r.length:Int)+1+1)=true:=by simp;omega
 have E:=I (Ju (r:=r) h2 hb);have hr:(r.length:Int)≤6:=by omega
 clear h h2 hb;go_enter Tryz.func205,Tryz.ntmps205
 go_wp2
 go_ret2
 exact⟨by rw[E.o];rfl,AR.refl _⟩
theorem Hf (s : L) (ha : 0 < s.length) (h8 : s.length ≤ 8) (ge : s.isEmpty = false)
    (a:UInt8) (r:L) (hs:s=a :: r) (h2:a.toNat<128) (h3:¬(a.toNat=0∧AQ r=true)) (w:World):Calls Tryz.prog 205 #[.string ⟨s.toArray⟩] w fun e w'=>e = .returned (numV (numR s))∧AR w w':=by
  subst hs;have hb:∀i,val ((a :: r).take i)<9223372036854775808:=EP h2 (by simpa using h8);have g2:decide ((128:Int)≤(a.toNat:Int))=false:=by simp;omega
  have hr:(r.length:Int)≤7:=by simp at h8;omega
  have H3:=I h3;have H2:=I h2;have HB:=I hb;have g1:decide ((8:Int)<(r.length:Int)+1)=false:=by simp;omega
  clear ge ha h8 hb h2;have key : decide ((1 : Int) < (r.length : Int) + 1) = false ∨ (decide ((1 : Int) < (r.length : Int) + 1) = true ∧ ((a.toNat : Int) == 0) = false) ∨
      (∃h:0<r.length,decide ((1:Int)<(r.length:Int)+1)=true∧((a.toNat:Int)==0)=true∧decide (((r[0]'h).toNat:Int)<128)=false):=by
    cases r with
    |nil=>left;simp
    |cons b q=>
      right
      by_cases h0:a.toNat=0
      · right
        have:¬AQ (b :: q)=true:=fun g=>h3 ⟨h0,g⟩
        simp only[AQ,decide_eq_true_eq] at this;refine⟨by simp,by simp;omega,by simp;omega,?_⟩;simp;omega
      · left
        refine⟨by simp;omega,by simp;omega⟩
  clear h3
  by_cases hbig:4611686018427387904<val (a :: r)
  · have B1 : decide ((4611686018427387904 : Int) < ((val (a :: r) : Nat) : Int)) = true := by simp; omega
    have E:=I (IB hbig);clear hbig;rcases key with k1 | ⟨k1,k2⟩ | ⟨k0,k1,k2,k3⟩
    all_goals
      go_enter Tryz.func205,Tryz.ntmps205
      go_wp2
      go_loop [4,33] (fun n i=>∃k:Nat,k≤r.length+1∧i = .int .i64 (k:Int)∧n = .int .i64 ((val ((a :: r).take k):Nat):Int)) (fun _ i=>r.length+1 - (intOf i).toNat)
      case atStart=>exact⟨0,by omega,rfl,rfl⟩
      case round=>
        obtain⟨k,hk,rfl,rfl⟩:=hrel
        by_cases hlt:k<r.length+1
        · have hlt' : k < (a :: r).length := by simpa using hlt
          have V:=I (Cq (a :: r) k hlt');have hx1:=HB.o k;have hx2:=HB.o (k+1);rw[V.o] at hx2;have hu:=Ba ((a :: r)[k])
          go_wp2
          refine⟨⟨k+1,by omega,by go_num,?_⟩,by simp [intOf];omega⟩;rw[Es _ _ (by omega) (by omega),V.o]
          go_num
        · obtain rfl : k = r.length + 1 := by omega
          have e:(a :: r).take (r.length+1)=a :: r:=List.take_of_length_le (by simp);rw[e];clear e hk hlt
          go_wp2
          go_ret2
          exact⟨by rw[E.o];rfl,AR.refl _⟩
  · have B1 : decide ((4611686018427387904 : Int) < ((val (a :: r) : Nat) : Int)) = false := by simp; omega
    have E:=I (Jv (by omega) H2.o H3.o (by omega));clear hbig;rcases key with k1 | ⟨k1,k2⟩ | ⟨k0,k1,k2,k3⟩
    all_goals
      go_enter Tryz.func205,Tryz.ntmps205
      go_wp2
      go_loop [4,33] (fun n i=>∃k:Nat,k≤r.length+1∧i = .int .i64 (k:Int)∧n = .int .i64 ((val ((a :: r).take k):Nat):Int)) (fun _ i=>r.length+1 - (intOf i).toNat)
      case atStart=>exact⟨0,by omega,rfl,rfl⟩
      case round=>
        obtain⟨k,hk,rfl,rfl⟩:=hrel
        by_cases hlt:k<r.length+1
        · have hlt' : k < (a :: r).length := by simpa using hlt
          have V:=I (Cq (a :: r) k hlt');have hx1:=HB.o k;have hx2:=HB.o (k+1);rw[V.o] at hx2;have hu:=Ba ((a :: r)[k])
          go_wp2
          refine⟨⟨k+1,by omega,by go_num,?_⟩,by simp [intOf];omega⟩;rw[Es _ _ (by omega) (by omega),V.o]
          go_num
        · obtain rfl : k = r.length + 1 := by omega
          have e:(a :: r).take (r.length+1)=a :: r:=List.take_of_length_le (by simp);rw[e];clear e hk hlt
          go_wp2
          go_ret2
          exact⟨by rw[E.o];rfl,AR.refl _⟩
theorem IQ (s:L) (hs:(s.length:Int)≤100000) (w:World):Calls Tryz.prog 205 #[.string ⟨s.toArray⟩] w fun e w'=>e = .returned (numV (numR s))∧AR w w':=by
 cases s with
 |nil=>exact IP w
 |cons a r=>
  simp only[List.length_cons] at hs
  by_cases h1:7<r.length
  ·exact Hc a r h1 (by omega) w
  ·by_cases h2:128≤a.toNat
   ·exact Hd a r h1 h2 w
   ·by_cases h3:a.toNat=0∧AQ r=true
    ·obtain⟨h3,h4⟩:=h3
     cases r with
     |nil=>simp [AQ] at h4
     |cons b q=>exact He a b q h1 h3 (by simpa [AQ] using h4) w
    ·exact Hf (a :: r) (by simp) (by simp;omega) rfl a r rfl (by omega) h3 w
end DerC
namespace DerC
open Go.RowKit Ad DerP
attribute [local go_sem] EB List.getElem_cons_zero List.getElem_cons_succ Ce Cf Du
theorem AZ (g : Nat) (c : Option L) (w : World) (h : Cur w g c) (hs : ((c.getD []).length : Int) ≤ 100000) : Calls Tryz.prog 170 #[.pointer (some ⟨g, 0, none⟩)] w fun e w' =>
    e = .returned (.int .i64 ((intC c).1:Int))∧Cur w' g (intC c).2∧w.grownBy w' (some g):=by
  have ht : ∀ W, Cur W g c → Calls Tryz.prog 168 #[.pointer (some ⟨g, 0, none⟩), .int .u8 2] W fun e w' =>
      e = .returned (.tuple #[.string ⟨((Ah 2 c).getD []).toArray⟩,.bool (Ah 2 c).isSome])∧Cur w' g (Az 2 c)∧W.grownBy w' (some g):=fun W hW=>EI 2 g c W hW hs
  have HT:=I ht;clear ht;have hbl:=(Bw 2 c).1;cases hb:Ah 2 c with
  |none=>
    have E:=I (show intC c=(0,none) by simp only[intC,hb]);have hn:=I (DF 2 c hb);rw[hb] at HT;have HB:=I hb;clear hb hbl;go_enter Tryz.func170,Tryz.ntmps170
    go_wp2_with (go_at_call 168;refine(HT.o _ h).mono ?_;rintro e w' ⟨rfl,hc,hg⟩)
    go_ret;rw[E.o];exact⟨rfl,by rw[←hn.o];exact hc,hg⟩
  |some b=>
    rw[hb] at HT;rw[hb] at hbl;simp only[Option.getD_some] at hbl;have hn:∀W,Calls Tryz.prog 205 #[.string ⟨b.toArray⟩] W fun e w'=>e = .returned (numV (numR b))∧AR W w':=fun W=>IQ b (by omega) W
    cases hx:numL b with
    |none=>
      have E:=I (show intC c=(0,none) by simp only[intC,hb,hx]);rw[CQ hx] at hn;simp only[numV] at hn;have HN:=I hn;clear hn;have HB:=I hb;clear hb hbl hx;go_enter Tryz.func170,Tryz.ntmps170
      go_wp2_with (first
        |(go_at_call 168;refine(HT.o _ h).mono ?_;rintro e w1 ⟨rfl,hc,hg⟩)
        |(go_at_call 205;refine(HN.o _).mono ?_;rintro e w' ⟨rfl,q,rfl⟩)
        |(go_at_call 203;refine(Il _ _ _ (hc.drewN q)).mono ?_;rintro e w' ⟨rfl,hc1,hg1⟩))
      go_ret;rw[E.o];exact⟨rfl,hc1,(Dv hg q).trans hg1⟩
    |some n=>
      have E:=I (show intC c=(n,Az 2 c) by simp only[intC,hb,hx]);rw[numR,hx] at hn;simp only[numV,Option.getD_some,Option.isSome_some] at hn;have HN:=I hn;clear hn;have HB:=I hb;clear hb hbl hx;go_enter Tryz.func170,Tryz.ntmps170
      go_wp2_with (first
        |(go_at_call 168;refine(HT.o _ h).mono ?_;rintro e w1 ⟨rfl,hc,hg⟩)
        |(go_at_call 205;refine(HN.o _).mono ?_;rintro e w' ⟨rfl,q,rfl⟩))
      go_ret;rw[E.o];exact⟨rfl,hc.drewN q,Dv hg q⟩
theorem Bz (g:Nat) (c:Option L) (w:World) (h:Cur w g c) (hs:((c.getD []).length:Int)≤100000):Calls Tryz.prog 172 #[.pointer (some ⟨g,0,none⟩)] w fun e w'=>
  (∃b cap,e = .returned (.slice (some ⟨b,0,none⟩) ((Ah 4 c).getD []).length cap)∧((Ah 4 c).getD []).length≤cap∧Jz w' w.heap.size b ((Ah 4 c).getD []))∧Cur w' g (Az 4 c)∧w.grownBy w' (some g):=by
 have hcv:=fun(W:World)=>Lib.run_convert_string_bytes (P:=Tryz.prog) W 9 27 5 ⟨((Ah 4 c).getD []).toArray⟩ Tryz.underlying9 Tryz.underlying27 Tryz.underlying5
 go_enter Tryz.func172,Tryz.ntmps172
 go_wp2_with (go_at_call 168;refine(EI 4 g c _ h hs).mono ?_;rintro e w1 ⟨rfl,hc,hg⟩)
 go_ret;exact⟨⟨_,_,rfl,grownCap_ge _ _ _ _,by have:=Dw w1 5 ((Ah 4 c).getD []);exact⟨Nat.le_trans hg.size this.1,this.2⟩⟩,hc.below (Ct _ _ _),Hy hg (Ct _ _ _)⟩
theorem Dp (g:Nat) (c:Option L) (w:World) (h:Cur w g c) (hs:((c.getD []).length:Int)≤100000):Calls Tryz.prog 204 #[.pointer (some ⟨g,0,none⟩)] w fun e w'=>
  e = .returned (.string ⟨((Ah 27 c).getD []).toArray⟩)∧Cur w' g (Az 27 c)∧w.grownBy w' (some g):=by
 have hl:((Ah 27 c).getD []).length≤1000000000:=by
  have:=(Bw 27 c).1;omega
 have HL:=I hl;clear hl;go_enter Tryz.func204,Tryz.ntmps204
 go_wp2_with (first
  |(go_at_call 168;refine(EI 27 g c _ h hs).mono ?_;rintro e w1 ⟨rfl,hc,hg⟩)
  |(go_at_call 87;refine(Nm.Gt _ _ HL.o).mono ?_;rintro e w2 ⟨rfl,hb⟩))
 go_ret;exact⟨rfl,hc.below hb,Hy hg hb⟩
theorem Gf (t:UInt8) (g:Nat) (c:Option L) (w:World) (h:Cur w g c) (hs:((c.getD []).length:Int)≤100000):Calls Tryz.prog 133 #[.pointer (some ⟨g,0,none⟩),.int .u8 t.toNat] w fun e w'=>
  (∃g',e = .returned (.pointer (some ⟨g',0,none⟩))∧w.heap.size≤g'∧Cur w' g' (Ah t c))∧Cur w' g (Az t c)∧w.grownBy w' (some g):=by
 go_enter Tryz.func133,Tryz.ntmps133
 go_wp2_with (go_at_call 168;refine(EI t g c _ h hs).mono ?_;rintro e w1 ⟨rfl,hc,hg⟩)
 go_ret;refine⟨⟨_,rfl,hg.size,?_⟩,hc.alloc _,BL hg _⟩;have:=Blk.new w1 258 (Gd (Ah t c));cases hb:Ah t c<;>(rw[hb] at this;exact this)
theorem Lr (B:Nat) (A:Option Addr) (l:L) (n cap:Nat) (w:World) (h:Rd w B A (bvs l)) (hn:n=l.length):Calls Tryz.prog 132 #[.slice A n cap] w fun e w'=>
  ∃g',e = .returned (.pointer (some ⟨g',0,none⟩))∧w.heap.size≤g'∧Cur w' g' (some l)∧Below w.heap.size w w':=by
 have hcv:=AU (P:=Tryz.prog) w 27 5 Tryz.underlying27 Tryz.underlying5 h n cap hn 9 Tryz.underlying9;have HN:=I hn;clear hn;go_enter Tryz.func132,Tryz.ntmps132
 go_wp2
 go_ret;exact⟨_,rfl,Nat.le_refl _,Blk.new w 258 (Gd (some l)),Af.alloc Ae _⟩
end DerC
namespace DerLib
open Go.RowKit Ad
theorem Et:(⟨((([0,1,2,2,3,3,3,3,4,4,4,4,4,4,4,4,5,5,5,5,5,5,5,5,5,5,5,5,5,5,5,5,6,6,6,6,6,6,6,6,6,6,6,6,6,6,6,6,6,6,6,6,6,6,6,6,6,6,6,6,6,6,6,6]:List UInt8).append [7,7,7,7,7,7,7,7,7,7,7,7,7,7,7,7,7,7,7,7,7,7,7,7,7,7,7,7,7,7,7,7,7,7,7,7,7,7,7,7,7,7,7,7,7,7,7,7,7,7,7,7,7,7,7,7,7,7,7,7,7,7,7,7]).append (([8,8,8,8,8,8,8,8,8,8,8,8,8,8,8,8,8,8,8,8,8,8,8,8,8,8,8,8,8,8,8,8,8,8,8,8,8,8,8,8,8,8,8,8,8,8,8,8,8,8,8,8,8,8,8,8,8,8,8,8,8,8,8,8]:List UInt8).append [8,8,8,8,8,8,8,8,8,8,8,8,8,8,8,8,8,8,8,8,8,8,8,8,8,8,8,8,8,8,8,8,8,8,8,8,8,8,8,8,8,8,8,8,8,8,8,8,8,8,8,8,8,8,8,8,8,8,8,8,8,8,8,8])).toArray⟩:ByteArray)=Lib.len8tab:=by kernel_rfl
theorem Dd (m k p:Nat) (x:Int) (hp:p=2 ^ k) (hx:x=((m / p:Nat):Int)) (hs:m / p<256) (hlo:p≤m∨k=0) (hm:m<18446744073709551616) :
  Lib.len8 x+(k:Int)=(Lib.bitLen m:Int)∧Lib.len8 x≤8∧0≤Lib.len8 x:=by
 have l:=Lib.bitLen_le8 ⟨m / p,hs⟩;have v:=Lib.len8_eq ⟨m / p,hs⟩;simp only at l v;rw[hx,v];have hb:Lib.bitLen m=k+Lib.bitLen (m / p):=by
  rcases hlo with h | h
  ·rw[hp] at h⊢;exact Lib.bitLen_shift k m h hm
  ·subst h;rw[hp];simp
 omega
theorem JW (m:Nat) (w:World) (hm:m<9223372036854775808):Calls Tryz.prog 247 #[.int .u64 (m:Int)] w fun e w'=>e = .returned (.int .i64 (Lib.bitLen m:Int))∧w=w':=by
 by_cases h1:4294967296≤m
 ·by_cases h2:65536≤m / 4294967296
  ·by_cases h3:256≤m / 4294967296 / 65536
   ·have t1:decide ((4294967296:Int)≤(m:Int))=true:=decide_eq_true (by omega)
    have t2:decide ((65536:Int)≤(m:Int) / 4294967296)=true:=decide_eq_true (by omega);have t3:decide ((256:Int)≤(m:Int) / 4294967296 / 65536)=true:=decide_eq_true (by omega);have AL:=Dd m 56 72057594037927936 ((m:Int) / 4294967296 / 65536 / 256 % 256) rfl (by omega) (by omega) (by omega) (by omega);have AH:=I AL;clear AL hm h1 h2 h3;go_enter Tryz.func247,Tryz.ntmps247;rw[Et]
    go_wp2
    go_ret;have AL:=AH.o;refine⟨congrArg Ending.returned (congrArg (Value.int IntKind.i64) ?_),rfl⟩
    (first | (unfold wrap64;omega) | omega | skip)
   ·have t1:decide ((4294967296:Int)≤(m:Int))=true:=decide_eq_true (by omega)
    have t2:decide ((65536:Int)≤(m:Int) / 4294967296)=true:=decide_eq_true (by omega);have t3:decide ((256:Int)≤(m:Int) / 4294967296 / 65536)=false:=decide_eq_false (by omega);have AL:=Dd m 48 281474976710656 ((m:Int) / 4294967296 / 65536 % 256) rfl (by omega) (by omega) (by omega) (by omega);have AH:=I AL;clear AL hm h1 h2 h3;go_enter Tryz.func247,Tryz.ntmps247;rw[Et]
    go_wp2
    go_ret;have AL:=AH.o;refine⟨congrArg Ending.returned (congrArg (Value.int IntKind.i64) ?_),rfl⟩
    (first | (unfold wrap64;omega) | omega | skip)
  ·by_cases h3:256≤m / 4294967296
   ·have t1:decide ((4294967296:Int)≤(m:Int))=true:=decide_eq_true (by omega)
    have t2:decide ((65536:Int)≤(m:Int) / 4294967296)=false:=decide_eq_false (by omega);have t3:decide ((256:Int)≤(m:Int) / 4294967296)=true:=decide_eq_true (by omega);have AL:=Dd m 40 1099511627776 ((m:Int) / 4294967296 / 256 % 256) rfl (by omega) (by omega) (by omega) (by omega);have AH:=I AL;clear AL hm h1 h2 h3;go_enter Tryz.func247,Tryz.ntmps247;rw[Et]
    go_wp2
    go_ret;have AL:=AH.o;refine⟨congrArg Ending.returned (congrArg (Value.int IntKind.i64) ?_),rfl⟩
    (first | (unfold wrap64;omega) | omega | skip)
   ·have t1:decide ((4294967296:Int)≤(m:Int))=true:=decide_eq_true (by omega)
    have t2:decide ((65536:Int)≤(m:Int) / 4294967296)=false:=decide_eq_false (by omega);have t3:decide ((256:Int)≤(m:Int) / 4294967296)=false:=decide_eq_false (by omega);have AL:=Dd m 32 4294967296 ((m:Int) / 4294967296 % 256) rfl (by omega) (by omega) (by omega) (by omega);have AH:=I AL;clear AL hm h1 h2 h3;go_enter Tryz.func247,Tryz.ntmps247;rw[Et]
    go_wp2
    go_ret;have AL:=AH.o;refine⟨congrArg Ending.returned (congrArg (Value.int IntKind.i64) ?_),rfl⟩
    (first | (unfold wrap64;omega) | omega | skip)
 ·by_cases h2:65536≤m
  ·by_cases h3:256≤m / 65536
   ·have t1:decide ((4294967296:Int)≤(m:Int))=false:=decide_eq_false (by omega)
    have t2:decide ((65536:Int)≤(m:Int))=true:=decide_eq_true (by omega);have t3:decide ((256:Int)≤(m:Int) / 65536)=true:=decide_eq_true (by omega);have AL:=Dd m 24 16777216 ((m:Int) / 65536 / 256 % 256) rfl (by omega) (by omega) (by omega) (by omega);have AH:=I AL;clear AL hm h1 h2 h3;go_enter Tryz.func247,Tryz.ntmps247;rw[Et]
    go_wp2
    go_ret;have AL:=AH.o;refine⟨congrArg Ending.returned (congrArg (Value.int IntKind.i64) ?_),rfl⟩
    (first | (unfold wrap64;omega) | omega | skip)
   ·have t1:decide ((4294967296:Int)≤(m:Int))=false:=decide_eq_false (by omega)
    have t2:decide ((65536:Int)≤(m:Int))=true:=decide_eq_true (by omega);have t3:decide ((256:Int)≤(m:Int) / 65536)=false:=decide_eq_false (by omega);have AL:=Dd m 16 65536 ((m:Int) / 65536 % 256) rfl (by omega) (by omega) (by omega) (by omega);have AH:=I AL;clear AL hm h1 h2 h3;go_enter Tryz.func247,Tryz.ntmps247;rw[Et]
    go_wp2
    go_ret;have AL:=AH.o;refine⟨congrArg Ending.returned (congrArg (Value.int IntKind.i64) ?_),rfl⟩
    (first | (unfold wrap64;omega) | omega | skip)
  ·by_cases h3:256≤m
   ·have t1:decide ((4294967296:Int)≤(m:Int))=false:=decide_eq_false (by omega)
    have t2:decide ((65536:Int)≤(m:Int))=false:=decide_eq_false (by omega);have t3:decide ((256:Int)≤(m:Int))=true:=decide_eq_true (by omega);have AL:=Dd m 8 256 ((m:Int) / 256 % 256) rfl (by omega) (by omega) (by omega) (by omega);have AH:=I AL;clear AL hm h1 h2 h3;go_enter Tryz.func247,Tryz.ntmps247;rw[Et]
    go_wp2
    go_ret;have AL:=AH.o;refine⟨congrArg Ending.returned (congrArg (Value.int IntKind.i64) ?_),rfl⟩
    (first | (unfold wrap64;omega) | omega | skip)
   ·have t1:decide ((4294967296:Int)≤(m:Int))=false:=decide_eq_false (by omega)
    have t2:decide ((65536:Int)≤(m:Int))=false:=decide_eq_false (by omega);have t3:decide ((256:Int)≤(m:Int))=false:=decide_eq_false (by omega);have AL:=Dd m 0 1 ((m:Int) % 256) rfl (by omega) (by omega) (by omega) (by omega);have AH:=I AL;clear AL hm h1 h2 h3;go_enter Tryz.func247,Tryz.ntmps247;rw[Et]
    go_wp2
    go_ret;have AL:=AH.o;refine⟨congrArg Ending.returned (congrArg (Value.int IntKind.i64) ?_),rfl⟩
    (first | (unfold wrap64;omega) | omega | skip)
theorem Ls (m:Nat) (w:World) (hm:m<9223372036854775808):Calls Tryz.prog 235 #[.int .u64 (m:Int)] w fun e w'=>e = .returned (.int .i64 (Lib.bitLen m:Int))∧w=w':=by
 have c1:=JW m w hm;clear hm;go_enter Tryz.func235,Tryz.ntmps235
 go_wp2_with (go_at_call 247;refine Calls.mono c1 ?_;rintro e w' ⟨rfl,rfl⟩)
 go_ret;exact⟨rfl,rfl⟩
end DerLib
namespace DerW
open Go.RowKit Ad DerP
theorem De:(Tryz.prog.info? 5).map (fun i=>(i.zero,i.size,i.bytes))=some (some (.int .u8 0),1,1):=by kernel_rfl
def filled (K m j:Nat):Array Value:=(List.replicate j (bv 0)++bvs ((digK K m).drop j)).toArray
theorem Gy (K m:Nat):filled K m K=BP K:=by
 rw[filled,List.drop_of_length_le (by rw[AK];exact Nat.le_refl _)];simp [BP,bvs]
theorem IS (K m:Nat):filled K m 0=(bvs (digK K m)).toArray:=by simp [filled]
theorem IT (K m j:Nat) (hj:j<K):(filled K m (j+1)).setIfInBounds j (bv (UInt8.ofNat (m / 256 ^ (K - 1 - j))))=filled K m j:=by
 have h:=Jo (digK K m) j _ (Jn K m j hj);apply Array.toList_inj.1;simp only[filled,Array.toList_setIfInBounds];rw[h];rw[List.set_append_left _ _ (by simp)];rw[List.replicate_succ',List.set_append_right _ _ (by simp)];simp [bvs]
theorem IU (m:Nat) (hm:m≤4611686018427387904) (w:World):Calls Tryz.prog 221 #[.int .i64 (m:Int)] w fun e w'=>
  ∃g,e = .returned (.slice (some ⟨g,0,none⟩) (dig m).length (dig m).length)∧w.heap.size≤g∧Blk w' g 5 (bvs (dig m)).toArray∧Below w.heap.size w w':=by
 obtain⟨i0,hi0,hz0,hs0,hb0⟩:=info_parts De;have hbl:=DD m hm;have hL:(dig m).length=Lib.bitLen m / 8+1:=DZ m;have hD:dig m=digK (Lib.bitLen m / 8+1) m:=rfl;rw[hL,hD];have hc:∀W,Calls Tryz.prog 235 #[.int .u64 (m:Int)] W fun e w'=>e = .returned (.int .i64 (Lib.bitLen m:Int))∧W=w':=by
  intro W;exact DerLib.Ls m W (by omega)
 clear hL hD;generalize hq:Lib.bitLen m=q at *;have hmk:=Fs (P:=Tryz.prog) Tryz.underlying27 hi0 hz0 hs0 hb0 ((q:Int) / 8+1) (q / 8+1) (by omega) (by omega);have HC:=I hc;clear hc;have HQ:=I hq;clear hq;have hm':(m:Int)≤4611686018427387904:=by omega
 have hq':(q:Int)≤63:=by omega
 clear hm hbl hi0 hz0 hs0 hb0;go_enter Tryz.func221,Tryz.ntmps221
 go_wp2_with (go_at_call 235;refine(HC.o _).mono ?_;rintro e w' ⟨rfl,rfl⟩)
 go_loopw [0,4] (fun n i wr=>∃j:Nat,j≤q / 8+1∧i = .int .i64 ((j:Int) - 1)∧n = .int .i64 ((m / 256 ^ (q / 8+1 - j):Nat):Int)∧Blk wr w.heap.size 5 (filled (q / 8+1) m j)∧Below w.heap.size w wr) (fun _ i _=>(intOf i+1).toNat)
 case atStart=>
  refine⟨q / 8+1,Nat.le_refl _,by congr 1;omega,by simp,?_,Af.alloc Ae _⟩;rw[Gy];exact Blk.new _ _ _
 case round=>
  obtain⟨j,hj,rfl,rfl,hB,hbel⟩:=hrel;cases j with
  |zero=>
   have e:((0:Nat):Int) - 1 = -1:=rfl;rw[e]
   go_wp2
   go_ret;rw[IS] at hB;exact⟨_,rfl,Nat.le_refl _,hB,hbel⟩
  |succ j=>
   have e:((j+1:Nat):Int) - 1=(j:Int):=by omega
   rw[e];clear e;have hf:=hB.frozen j;have hset:=hB.set j (bv (UInt8.ofNat (m / 256 ^ (q / 8+1 - 1 - j))));rw[IT _ _ _ (by omega)] at hset;have hcell:∃u,(filled (q / 8+1) m (j+1))[j]? = some u:=by
    have:j<(filled (q / 8+1) m (j+1)).size:=by simp [filled,bvs,AK];omega
    exact⟨_,Array.getElem?_eq_getElem this⟩
   obtain⟨u,hu⟩:=hcell;have hcu:=(hB.cell j).trans hu;have hdiv:m / 256 ^ (q / 8+1 - (j+1))≤m:=Nat.div_le_self _ _;have hdiv':((m / 256 ^ (q / 8+1 - (j+1)):Nat):Int)≤4611686018427387904:=by omega
   have hnx:=I (show m / 256 ^ (q / 8+1 - (j+1)) / 256=m / 256 ^ (q / 8+1 - j) by
    rw[Nat.div_div_eq_div_mul,←Nat.pow_succ];congr 2;omega)
   have hpw:=I (show q / 8+1 - 1 - j=q / 8+1 - (j+1) by omega);rw[hpw.o] at hset;generalize m / 256 ^ (q / 8+1 - (j+1))=y at *;have HS:=I hset;clear hset hu
   go_wp2
   refine⟨⟨j,by omega,rfl,?_,?_,hbel.setCell Ae _⟩,by simp [intOf]⟩
   ·rw[←hnx.o];rfl
   ·have e:bv (UInt8.ofNat y) = .int .u8 ((y:Int) % 256):=by simp [bv]
    rw[←e];exact HS.o
theorem ml (n:Nat) (h:n≤1000000):n≤maxLen:=by unfold maxLen;omega
theorem Eu (w:World) (t:TypeId) (cs:Array Value) (l:L) (h:cs.toList=bvs l) (N:Nat) (hN:w.heap.size=N):Rd (w.alloc (.cells cs t)) (N+1) (some ⟨N,0,none⟩) (bvs l):=by
 subst hN;refine .inr ⟨w.heap.size,0,rfl,by omega,fun i u hu=>?_⟩;rw[Nat.zero_add,(Blk.new w t cs).cell i];rw[←h] at hu
 simpa using hu
theorem DP (n:Nat) (h:n<256):bv (UInt8.ofNat n) = .int .u8 (n:Int):=by simp [bv];omega
theorem IV (t : UInt8) (n : Nat) (h1 : n < 128) (w : World) : Calls Tryz.prog 219 #[.int .u8 t.toNat, .int .i64 (n : Int)] w fun e w' =>
    ∃v,e = .returned v∧w'.ownsRow w.heap.size 5 1 v (1+(szL n).length) (bvs (t :: szL n))∧Below w.heap.size w w':=by
  obtain⟨i0,hi0,hz0,hs0,hb0⟩:=info_parts De;have hmk:=Cs (P:=Tryz.prog) Tryz.underlying27 hi0 hz0 hs0 hb0 ((n:Int)+4) (n+4) (by omega) (by omega);have E:=I (show szL n = [UInt8.ofNat n] by simp [szL,h1]);have g1:decide ((n:Int)<128)=true:=by simp;omega
  have hn:(n:Int)≤127:=by omega
  have hown0:Hid (∀o,(World.alloc (World.alloc w (.cells (BP (n+4)) 5)) o).ownsRow w.heap.size 5 1 (.slice (some ⟨w.heap.size,0,none⟩) 0 (n+4)) 0 []):=fun o=>(World.ownsRow_made w (BP (n+4)) (n+4) Ae (ml _ (by omega)) (by rw[Ck];omega)).alloc o
  have hm1:=I (ml 1 (by omega));have hm2:=I (ml 2 (by omega));have hbn:=I (DP n (by omega));clear h1;go_enter Tryz.func219,Tryz.ntmps219
  go_wp2_with (first
    | (at_builtin
       refine Au _ rfl (.tmp 8) (.tmp 10) 27 rfl w.heap.size 5 i0 _ 1 Tryz.underlying27 hi0 hz0 hs0 hb0 rfl (.slice (some ⟨w.heap.size,0,none⟩) 0 (n+4)) 0 [] rfl (hown0.o _) _ _ 1 1 (bvs [t]) rfl rfl (Eu _ 5 _ [t] rfl _ (by simp)) (BK _) hm1.o (by omega) (by simp;omega) ?_;intro v1 w1 hown1 hg1 hat1)
    | (at_builtin
       refine Au _ rfl (.tmp 15) (.tmp 18) 27 rfl w.heap.size 5 i0 _ 1 Tryz.underlying27 hi0 hz0 hs0 hb0 rfl v1 (0+1) ([]++bvs [t]) rfl (hown1.alloc _) _ _ 1 1 (bvs [UInt8.ofNat n]) rfl rfl (Eu w1 5 _ [UInt8.ofNat n] (by simp [bvs,hbn.o]) _ rfl) (BK _) hm2.o (by omega) (by simp;have:=hg1.size;simp at this;omega) ?_;intro v2 w2 hown2 hg2 hat2))
  go_ret;have b1:Below w.heap.size w w1:=(((Below.refl w.heap.size w).alloc Ae _).alloc (by simp) _).grown hg1 (by simp;omega) (by intro k hk;simp [Value.ownBlock] at hk;omega);have b2:=(b1.alloc b1.size _).grown hg2 (by have:=b1.size;simp;omega) (fun k hk=>(hown1.lt k hk).1);exact⟨v2,rfl,by rw[E.o];simpa [bvs] using hown2,b2⟩
theorem Lt (t : UInt8) (n : Nat) (h1 : ¬ n < 128) (h2 : n ≤ 255) (w : World) : Calls Tryz.prog 219 #[.int .u8 t.toNat, .int .i64 (n : Int)] w fun e w' =>
    ∃v,e = .returned v∧w'.ownsRow w.heap.size 5 1 v (1+(szL n).length) (bvs (t :: szL n))∧Below w.heap.size w w':=by
  obtain⟨i0,hi0,hz0,hs0,hb0⟩:=info_parts De;have hmk:=Cs (P:=Tryz.prog) Tryz.underlying27 hi0 hz0 hs0 hb0 ((n:Int)+4) (n+4) (by omega) (by omega);have E:=I (show szL n = [129,UInt8.ofNat n] by simp [szL,h1,h2]);have g1:decide ((n:Int)<128)=false:=by simp;omega
  have g2:decide ((n:Int)≤255)=true:=by simp;omega
  have hn:(n:Int)≤255:=by omega
  have hown0:Hid (∀o,(World.alloc (World.alloc w (.cells (BP (n+4)) 5)) o).ownsRow w.heap.size 5 1 (.slice (some ⟨w.heap.size,0,none⟩) 0 (n+4)) 0 []):=fun o=>(World.ownsRow_made w (BP (n+4)) (n+4) Ae (ml _ (by omega)) (by rw[Ck];omega)).alloc o
  have hm1:=I (ml 1 (by omega));have hm2:=I (ml 3 (by omega));have hbn:=I (DP n (by omega));clear h1 h2;go_enter Tryz.func219,Tryz.ntmps219
  go_wp2_with (first
    | (at_builtin
       refine Au _ rfl (.tmp 8) (.tmp 10) 27 rfl w.heap.size 5 i0 _ 1 Tryz.underlying27 hi0 hz0 hs0 hb0 rfl (.slice (some ⟨w.heap.size,0,none⟩) 0 (n+4)) 0 [] rfl (hown0.o _) _ _ 1 1 (bvs [t]) rfl rfl (Eu _ 5 _ [t] rfl _ (by simp)) (BK _) hm1.o (by omega) (by simp;omega) ?_;intro v1 w1 hown1 hg1 hat1)
    | (at_builtin
       refine Au _ rfl (.tmp 23) (.tmp 26) 27 rfl w.heap.size 5 i0 _ 1 Tryz.underlying27 hi0 hz0 hs0 hb0 rfl v1 (0+1) ([]++bvs [t]) rfl (hown1.alloc _) _ _ 2 2 (bvs [129,UInt8.ofNat n]) rfl rfl (Eu w1 5 _ [129,UInt8.ofNat n] (by simp [bvs,hbn.o];rfl) _ rfl) (BK _) hm2.o (by omega) (by simp;have:=hg1.size;simp at this;omega) ?_;intro v2 w2 hown2 hg2 hat2))
  go_ret;have b1:Below w.heap.size w w1:=(((Below.refl w.heap.size w).alloc Ae _).alloc (by simp) _).grown hg1 (by simp;omega) (by intro k hk;simp [Value.ownBlock] at hk;omega);have b2:=(b1.alloc b1.size _).grown hg2 (by have:=b1.size;simp;omega) (fun k hk=>(hown1.lt k hk).1);exact⟨v2,rfl,by rw[E.o];simpa [bvs] using hown2,b2⟩
theorem Lu (t : UInt8) (n : Nat) (h1 : ¬ n < 128) (h2 : ¬ n ≤ 255) (h3 : n ≤ 65535) (w : World) : Calls Tryz.prog 219 #[.int .u8 t.toNat, .int .i64 (n : Int)] w fun e w' =>
    ∃v,e = .returned v∧w'.ownsRow w.heap.size 5 1 v (1+(szL n).length) (bvs (t :: szL n))∧Below w.heap.size w w':=by
  obtain⟨i0,hi0,hz0,hs0,hb0⟩:=info_parts De;have hmk:=Cs (P:=Tryz.prog) Tryz.underlying27 hi0 hz0 hs0 hb0 ((n:Int)+4) (n+4) (by omega) (by omega);have E:=I (show szL n = [130,UInt8.ofNat (n / 256),UInt8.ofNat n] by simp [szL,h1,h2]);have g1:decide ((n:Int)<128)=false:=by simp;omega
  have g2:decide ((n:Int)≤255)=false:=by simp;omega
  have hn:(n:Int)≤65535:=by omega
  have hown0:Hid (∀o,(World.alloc (World.alloc w (.cells (BP (n+4)) 5)) o).ownsRow w.heap.size 5 1 (.slice (some ⟨w.heap.size,0,none⟩) 0 (n+4)) 0 []):=fun o=>(World.ownsRow_made w (BP (n+4)) (n+4) Ae (ml _ (by omega)) (by rw[Ck];omega)).alloc o
  have hm1:=I (ml 1 (by omega));have hm2:=I (ml 4 (by omega));have hbn:=I (show bvs [130,UInt8.ofNat (n / 256),UInt8.ofNat n] = [.int .u8 130,.int .u8 ((n:Int) / 256),.int .u8 ((n:Int) % 256)] by simp [bvs,bv];omega);clear h1 h2 h3;go_enter Tryz.func219,Tryz.ntmps219
  go_wp2_with (first
    | (at_builtin
       refine Au _ rfl (.tmp 8) (.tmp 10) 27 rfl w.heap.size 5 i0 _ 1 Tryz.underlying27 hi0 hz0 hs0 hb0 rfl (.slice (some ⟨w.heap.size,0,none⟩) 0 (n+4)) 0 [] rfl (hown0.o _) _ _ 1 1 (bvs [t]) rfl rfl (Eu _ 5 _ [t] rfl _ (by simp)) (BK _) hm1.o (by omega) (by simp;omega) ?_;intro v1 w1 hown1 hg1 hat1)
    | (at_builtin
       refine Au _ rfl (.tmp 28) (.tmp 34) 27 rfl w.heap.size 5 i0 _ 1 Tryz.underlying27 hi0 hz0 hs0 hb0 rfl v1 (0+1) ([]++bvs [t]) rfl (hown1.alloc _) _ _ 3 3 (bvs [130,UInt8.ofNat (n / 256),UInt8.ofNat n]) rfl rfl (Eu w1 5 _ [130,UInt8.ofNat (n / 256),UInt8.ofNat n] (by rw[hbn.o]) _ rfl) (BK _) hm2.o (by omega) (by simp;have:=hg1.size;simp at this;omega) ?_;intro v2 w2 hown2 hg2 hat2))
  go_ret;have b1:Below w.heap.size w w1:=(((Below.refl w.heap.size w).alloc Ae _).alloc (by simp) _).grown hg1 (by simp;omega) (by intro k hk;simp [Value.ownBlock] at hk;omega);have b2:=(b1.alloc b1.size _).grown hg2 (by have:=b1.size;simp;omega) (fun k hk=>(hown1.lt k hk).1);exact⟨v2,rfl,by rw[E.o];simpa [bvs] using hown2,b2⟩
theorem Lv (t:UInt8) (n:Nat) (h:n≤65535) (w:World):Calls Tryz.prog 219 #[.int .u8 t.toNat,.int .i64 (n:Int)] w fun e w'=>
  ∃v,e = .returned v∧w'.ownsRow w.heap.size 5 1 v (1+(szL n).length) (bvs (t :: szL n))∧Below w.heap.size w w':=by
 by_cases h1:n<128
 ·exact IV t n h1 w
 ·by_cases h2:n≤255
  ·exact Lt t n h1 h2 w
  ·exact Lu t n h1 h2 h w
def Rds (w:World) (B:Nat) (A:Option Addr) (ls:List L):Prop:=
 ls = []∨∃b o,A=some ⟨b,o,none⟩∧b<B∧∀i l,ls[i]? = some l→∃A' c',w.cell? ⟨b,o+i,none⟩=some (.slice A' l.length c')∧Rd w B A' (bvs l)
theorem Rds.at_ {w:World} {B:Nat} {A:Option Addr} {ls:List L} (h:Rds w B A ls) {i:Nat} {l:L} (hi:ls[i]? = some l) :
  ∃b o,A=some ⟨b,o,none⟩∧b<B∧∃A' c',w.cell? ⟨b,o+i,none⟩=some (.slice A' l.length c')∧Rd w B A' (bvs l):=by
 rcases h with h | ⟨b,o,h1,h2,h3⟩
 ·subst h;simp at hi
 ·exact⟨b,o,h1,h2,h3 i l hi⟩
theorem Rds.below {w w':World} {B:Nat} {A:Option Addr} {ls:List L} (h:Rds w B A ls) (hb:Below B w w'):Rds w' B A ls:=by
 rcases h with h | ⟨b,o,h1,h2,h3⟩
 ·exact .inl h
 ·refine .inr ⟨b,o,h1,h2,fun i l hl=>?_⟩
  obtain⟨A',c',g1,g2⟩:=h3 i l hl;exact⟨A',c',(hb.cell (p:=⟨b,o+i,none⟩) h2).trans g1,g2.below hb⟩
theorem Fg (ls:List L) (k:Nat) (l:L) (h:ls[k]? = some l):(ls.take (k+1)).flatten=(ls.take k).flatten++l:=by
 obtain⟨hk,e⟩:=List.getElem?_eq_some_iff.1 h;rw[List.take_succ_eq_append_getElem hk,e];simp
theorem Hg (ls:List L) (k:Nat):(ls.take k).flatten.length≤ls.flatten.length:=by
 conv=>rhs;rw[←List.take_append_drop k ls,List.flatten_append,List.length_append]
 omega
def pre (ls:List L) (k:Nat):Nat:=(ls.take k).flatten.length
def built (t:UInt8) (ls:List L) (k:Nat):L:=t :: szL ls.flatten.length++(ls.take k).flatten
theorem Lw (ls:List L) (k:Nat) (l:L) (h:ls[k]? = some l):pre ls (k+1)=pre ls k+l.length:=by
 rw[pre,Fg ls k l h,List.length_append];rfl
theorem Oz (ls:List L) (k:Nat):pre ls k≤ls.flatten.length:=Hg ls k
theorem Nn (ls:List L):pre ls ls.length=ls.flatten.length:=by rw[pre,List.take_of_length_le Ae]
theorem IW (t:UInt8) (ls:List L) (k:Nat) (l:L) (h:ls[k]? = some l):built t ls (k+1)=built t ls k++l:=by
 rw[built,Fg ls k l h,built,List.append_assoc]
theorem JX (t:UInt8) (ls:List L):built t ls ls.length=elem t ls.flatten:=by
 rw[built,List.take_of_length_le Ae];rfl
theorem Lx (t:UInt8) (ls:List L) (k:Nat) (h:ls.flatten.length≤65535):(built t ls k).length≤65539:=by
 have h1:=Hg ls k;have h2:=Bm ls.flatten.length;have h3:(szL ls.flatten.length).length≤3:=by rw[h2];split<;>(try split)<;>omega
 rw[built,List.length_append,List.length_cons];omega
theorem Bp (t : UInt8) (ls : List L) (A : Option Addr) (m c B : Nat) (w : World) (hr : Rds w B A ls) (hm : m = ls.length) (hB : B ≤ w.heap.size) (hl : ls.flatten.length ≤ 65535) (hc : ls.length ≤ 1000000) :
    Calls Tryz.prog 195 #[.int .u8 t.toNat,.slice A m c] w fun e w'=>
      ∃v,e = .returned v∧w'.ownsRow w.heap.size 5 1 v (elem t ls.flatten).length (bvs (elem t ls.flatten))∧Below w.heap.size w w':=by
  obtain⟨i0,hi0,hz0,hs0,hb0⟩:=info_parts De;have hpa:=Nn ls;have hh:∀W,Calls Tryz.prog 219 #[.int .u8 t.toNat,.int .i64 ((pre ls m:Nat):Int)] W fun e w'=>
    ∃v,e = .returned v∧w'.ownsRow W.heap.size 5 1 v (built t ls 0).length (bvs (built t ls 0))∧Below W.heap.size W w':=by
    intro W;have:=Lv t _ hl W;have e1:built t ls 0=t :: szL ls.flatten.length:=by simp [built]
    rw[e1,hm,hpa,List.length_cons,Nat.add_comm];exact this
  have HH:=I hh;clear hh;have hpl:=I (fun k=>Nat.le_trans (Oz ls k) hl);have hbl:=I (fun k=>Lx t ls k hl);have hba:=I (JX t ls);have hml:=I ml;have HR:=I hr;clear hr;have hc':(m:Int)≤1000000:=by omega
  have HM:=I hm;clear hm hc hl hpa;go_enter Tryz.func195,Tryz.ntmps195
  go_wp2
  go_loop [5,13] (fun n i=>∃k:Nat,k≤m∧i = .int .i64 (k:Int)∧n = .int .i64 ((pre ls k:Nat):Int)) (fun _ i=>m - (intOf i).toNat)
  case atStart=>exact⟨0,by omega,rfl,rfl⟩
  case round=>
    obtain⟨k,hk,rfl,rfl⟩:=hrel
    by_cases hlt:k<m
    · obtain ⟨l, hx⟩ : ∃ l, ls[k]? = some l := ⟨_, List.getElem?_eq_getElem (by have := HM.o; omega)⟩
      obtain⟨b,o,rfl,hb,A',c',hcell,hrd⟩:=HR.o.at_ hx;have hf1:=hpl.o k;have hf2:=hpl.o (k+1);have hs:=Lw ls k l hx;have HS:=I hs;have g1:decide ((65535:Int)<((pre ls k:Nat):Int)+(l.length:Int))=false:=by simp only[decide_eq_false_iff_not];omega
      have hll:(l.length:Int)≤65535:=by omega
      have hf1':((pre ls k:Nat):Int)≤65535:=by omega
      clear hs hf1 hf2 hx hrd
      go_wp2
      exact⟨⟨k+1,by omega,by go_num,by rw[HS.o];go_num⟩,by simp [intOf];omega⟩
    · obtain rfl : k = m := by omega
      clear hk hlt
      go_wp2_with (go_at_call 219;refine(HH.o _).mono ?_;rintro e w1 ⟨v,rfl,hown,hbel⟩)
      go_loopw [8,29] (fun v i wr=>∃j:Nat,j≤k∧i = .int .i64 (j:Int)∧wr.ownsRow w.heap.size 5 1 v (built t ls j).length (bvs (built t ls j))∧Below w.heap.size w wr) (fun _ i _=>k - (intOf i).toNat)
      case atStart=>exact⟨0,by omega,rfl,hown,hbel⟩
      case round=>
        obtain⟨j,hj,rfl,hown1,hbel1⟩:=hrel
        by_cases hlt:j<k
        · obtain ⟨l, hx⟩ : ∃ l, ls[j]? = some l := ⟨_, List.getElem?_eq_getElem (by have := HM.o; omega)⟩
          obtain⟨b,o,rfl,hb,A',c',hcell,hrd⟩:=(HR.o.below (hbel1.mono hB)).at_ hx;have hs:=IW t ls j l hx;have hf1:=hbl.o j;have hf2:=hbl.o (j+1);have hs1:=congrArg List.length hs;rw[List.length_append] at hs1;have HS:=I hs;have hsum:(built t ls j).length+l.length≤65539:=by omega
          have HO:=I hown1;have HQ:=I hrd;clear hs hs1 hx hf1 hf2 hown1 hrd hown
          go_wp2_with (at_builtin
                       refine Au _ rfl (.tmp 33) (.tmp 34) 27 rfl w.heap.size 5 i0 _ 1 Tryz.underlying27 hi0 hz0 hs0 hb0 rfl _ (built t ls j).length (bvs (built t ls j)) rfl HO.o B A' l.length c' (bvs l) rfl (AI l).symm HQ.o (BK _) (hml.o _ (by omega)) (by omega) hbel1.size ?_;intro v2 w2 hown2 hg2 hat2)
          refine⟨⟨j+1,by omega,by go_num,?_,hbel1.grown hg2 hbel1.size (fun i hi=>(HO.o.lt i hi).1)⟩,by simp [intOf];omega⟩;rw[HS.o,BU,List.length_append];exact hown2
        · obtain rfl : j = k := by omega
          clear hj hlt
          go_wp2
          go_ret;have e:built t ls j=elem t ls.flatten:=by rw[HM.o];exact hba.o
          rw[e] at hown1;exact⟨_,rfl,hown1,hbel1⟩
theorem Hh (w:World) (t:TypeId) (B:Nat) (A:Option Addr) (l:L) (n c:Nat) (hn:n=l.length) (h:Rd w B A (bvs l)) (hB:B≤w.heap.size) :
  Rds (w.alloc (.cells #[.slice A n c] t)) (w.heap.size+1) (some ⟨w.heap.size,0,none⟩) [l]:=by
 subst hn;refine .inr ⟨w.heap.size,0,rfl,by omega,fun i l' hi=>?_⟩;have hi0:i=0:=by
  rcases Nat.eq_zero_or_pos i with g | g
  ·exact g
  ·rw[List.getElem?_eq_none (by simp;omega)] at hi;cases hi
 subst hi0;injection hi with hi;subst hi;exact⟨A,c,(Blk.new w t _).cell 0,(h.alloc hB _).more (by omega)⟩
theorem Bz (l:L) (A:Option Addr) (n c B:Nat) (w:World) (hr:Rd w B A (bvs l)) (hn:n=l.length) (hB:B≤w.heap.size) (hl:l.length≤65535) :
  Calls Tryz.prog 213 #[.slice A n c] w fun e w'=>
   ∃v,e = .returned v∧w'.ownsRow w.heap.size 5 1 v (elem 4 l).length (bvs (elem 4 l))∧Below w.heap.size w w':=by
 have hrs:=Hh w 27 B A l n c hn hr hB;have hw:=Bp 4 [l] (some ⟨w.heap.size,0,none⟩) 1 1 (w.heap.size+1) (w.alloc (.cells #[.slice A n c] 27)) hrs rfl (by simp) (by simpa using hl) (by simp);have e:[l].flatten=l:=by simp
 rw[e] at hw;have HW:=I hw;clear hw hrs hr hn hl e;go_enter Tryz.func213,Tryz.ntmps213
 go_wp2_with (go_at_call 195;refine HW.o.mono ?_;rintro e w1 ⟨v,rfl,hown,hbel⟩)
 go_ret;refine⟨_,rfl,?_,(Below.refl w.heap.size w).alloc Ae _ |>.trans (hbel.mono (by simp))⟩;exact hown.mono (by simp)
theorem AZ (n : Int) (w : World) :
    Calls Tryz.prog 197 #[.int .i64 n] w fun e w'=>
      ∃v,e = .returned v∧w'.ownsRow w.heap.size 5 1 v (encI n).length (bvs (encI n))∧Below w.heap.size w w':=by
  have hd:=IU (Bg n) (CK n);rw[FB] at hd;have hw : ∀ (W : World) (g : Nat), Blk W g 5 (bvs (dig (Bg n))).toArray → Calls Tryz.prog 195 #[.int .u8 2, .slice (some ⟨W.heap.size, 0, none⟩) 1 1] (W.alloc (.cells #[.slice (some ⟨g, 0, none⟩) (dig (Bg n)).length (dig (Bg n)).length] 27)) fun e w' =>
      ∃v,e = .returned v∧w'.ownsRow W.heap.size 5 1 v (encI n).length (bvs (encI n))∧Below W.heap.size W w':=by
    intro W g hB;have hr:Rd W W.heap.size (some ⟨g,0,none⟩) (bvs (dig (Bg n))):=.inr ⟨g,0,rfl,hB.lt,fun i u hu=>by
      rw[Nat.zero_add,hB.cell i];simpa using hu⟩
    have hrs:=Hh W 27 W.heap.size _ _ _ (dig (Bg n)).length rfl hr Ae;have hd8:=EE n;have h:=Bp 2 [dig (Bg n)] (some ⟨W.heap.size,0,none⟩) 1 1 (W.heap.size+1) _ hrs rfl (by simp) (by simp;omega) (by simp);have e:[dig (Bg n)].flatten=dig (Bg n):=by simp
    rw[e] at h;refine h.mono ?_;rintro e w' ⟨v,rfl,hown,hbel⟩;exact⟨v,rfl,hown.mono (by simp),(Below.refl W.heap.size W).alloc Ae _ |>.trans (hbel.mono (by simp))⟩
  have HD:=I hd;have HW:=I hw;clear hd hw;go_enter Tryz.func197,Tryz.ntmps197
  go_wp2_with (first
    |(go_at_call 221;refine(HD.o _).mono ?_;rintro e w1 ⟨g,rfl,hg,hB,hbel⟩)
    |(go_at_call 195;refine(HW.o _ _ hB).mono ?_;rintro e w2 ⟨v,rfl,hown,hbel2⟩))
  go_ret;exact⟨_,rfl,hown.mono hbel.size,hbel.trans (hbel2.mono hbel.size)⟩
theorem Dp (l : L) (w : World) (hl : l.length ≤ 65535) :
    Calls Tryz.prog 220 #[.string ⟨l.toArray⟩] w fun e w'=>
      ∃v,e = .returned v∧w'.ownsRow w.heap.size 5 1 v (elem 27 l).length (bvs (elem 27 l))∧Below w.heap.size w w':=by
  have hcv:=fun(W:World)=>Lib.run_convert_string_bytes (P:=Tryz.prog) W 9 27 5 ⟨l.toArray⟩ Tryz.underlying9 Tryz.underlying27 Tryz.underlying5
  have hw : ∀ (W : World) (c : Nat), Calls Tryz.prog 195 #[.int .u8 27, .slice (some ⟨W.heap.size + 1, 0, none⟩) 1 1] ((Lib.bytesWorld W 5 ⟨l.toArray⟩).alloc (.cells #[.slice (some ⟨W.heap.size, 0, none⟩) l.length c] 27)) fun e w' =>
      ∃v,e = .returned v∧w'.ownsRow W.heap.size 5 1 v (elem 27 l).length (bvs (elem 27 l))∧Below W.heap.size W w':=by
    intro W c;have hs:=Lib.bytesWorld_size W 5 ⟨l.toArray⟩;have hr:=(Dw W 5 l).rd;have hrs:=Hh _ 27 _ _ _ l.length c rfl hr Ae;rw[hs] at hrs;have h:=Bp 27 [l] (some ⟨W.heap.size+1,0,none⟩) 1 1 (W.heap.size+1+1) _ hrs rfl (by simp [hs]) (by simpa using hl) (by simp);have e:[l].flatten=l:=by simp
    rw[e] at h;refine h.mono ?_;rintro e w' ⟨v,rfl,hown,hbel⟩;refine⟨v,rfl,hown.mono (by simp [hs];omega),?_⟩;exact((Ct W _ _).alloc (by rw[hs];omega) _).trans (hbel.mono (by simp [hs];omega))
  have HW:=I hw;clear hw hl;have hsz:=fun(W:World)=>Lib.bytesWorld_size W 5 ⟨l.toArray⟩
  go_enter Tryz.func220,Tryz.ntmps220
  go_wp2_with (go_at_call 195;refine(HW.o _ _).mono ?_;rintro e w2 ⟨v,rfl,hown,hbel2⟩)
  go_ret;exact⟨_,rfl,hown,hbel2⟩
end DerW
namespace DerK
open Go.RowKit Ad DerP
attribute [local go_sem] EB List.getElem_cons_zero List.getElem_cons_succ
theorem Fh {w:World} {base n:Nat} {t:TypeId} {v:Value} {l:L} (h:w.ownsRow base t 1 v n (bvs l)) (hl:0<l.length) :
  ∃g cap,v = .slice (some ⟨g,0,none⟩) l.length cap∧base≤g∧l.length≤cap∧Rd w w.heap.size (some ⟨g,0,none⟩) (bvs l):=by
 have hn:n=l.length:=by have:=h.1;rw[AI] at this;omega
 subst hn;rcases h.2 with⟨_,h2⟩ | ⟨g,cap,cur,rfl,hg,_,hc,_⟩
 ·omega
 ·exact⟨g,cap,rfl,hg,hc,Rd.of_own h⟩
end DerK
namespace DerR
open Go.RowKit Ad DerP
def Bq (w:World) (l:L) (e:Ending) (w':World):Prop:=
 (∃g cap,e = .returned (.slice (some ⟨g,0,none⟩) l.length cap)∧w.heap.size≤g∧l.length≤cap∧Rd w' w'.heap.size (some ⟨g,0,none⟩) (bvs l))∧Below w.heap.size w w'
theorem Df {w w':World} {v:Value} {n:Nat} {t:TypeId} {l:L} (h:w'.ownsRow w.heap.size t 1 v n (bvs l)) (hl:0<l.length) (hb:Below w.heap.size w w'):Bq w l (.returned v) w':=by
 obtain⟨g,cap,rfl,h1,h2,h3⟩:=DerK.Fh h hl;exact⟨⟨g,cap,rfl,h1,h2,h3⟩,hb⟩
theorem Fi (w:World) (t:TypeId) (cs:Array Value) (l:L) (h:cs.toList=bvs l) (n:Nat) (hn:n=l.length):Bq w l (.returned (.slice (some ⟨w.heap.size,0,none⟩) n n)) (w.alloc (.cells cs t)):=by
 subst hn;refine⟨⟨_,_,rfl,Nat.le_refl _,Nat.le_refl _,?_⟩,Af.alloc Ae _⟩;have:=DerW.Eu w t cs l h _ rfl
 simpa using this
theorem Io (n:Nat) (h:n≤65535) (w:World):Calls Tryz.prog 152 #[.int .i64 (n:Int)] w (Bq w (szL n)):=by
 by_cases h1:n<128
 ·have g1:decide ((n:Int)<128)=true:=by simp;omega
  have E:=I (show szL n = [UInt8.ofNat n] by simp [szL,h1]);have hb:=I (DerW.DP n (by omega));have hn:(n:Int)≤127:=by omega
  clear h h1;go_enter Tryz.func152,Tryz.ntmps152
  go_wp2
  go_ret;rw[E.o];exact Fi w 5 _ _ (by simp [bvs,hb.o]) _ rfl
 ·have g1:decide ((n:Int)<128)=false:=by simp;omega
  by_cases h2:n≤255
  ·have g2:decide ((n:Int)<256)=true:=by simp;omega
   have E:=I (show szL n = [129,UInt8.ofNat n] by simp [szL,h1,h2]);have hb:=I (DerW.DP n (by omega));have hn:(n:Int)≤255:=by omega
   clear h h1 h2;go_enter Tryz.func152,Tryz.ntmps152
   go_wp2
   go_ret;rw[E.o];exact Fi w 5 _ _ (by simp [bvs,hb.o];rfl) _ rfl
  ·have g2:decide ((n:Int)<256)=false:=by simp;omega
   have E:=I (show szL n = [130,UInt8.ofNat (n / 256),UInt8.ofNat n] by simp [szL,h1,h2]);have hb:=I (show bvs [130,UInt8.ofNat (n / 256),UInt8.ofNat n] = [.int .u8 130,.int .u8 ((n:Int) / 256),.int .u8 ((n:Int) % 256)] by simp [bvs,bv];omega);have hn:(n:Int)≤65535:=by omega
   clear h h1 h2;go_enter Tryz.func152,Tryz.ntmps152
   go_wp2
   go_ret;rw[E.o];exact Fi w 5 _ _ (by rw[hb.o]) _ rfl
theorem OA (n:Nat):(szL n).length≤3:=by rw[Bm];split<;>(try split)<;>omega
theorem Cx (t : UInt8) (p : L) (A : Option Addr) (n c B : Nat) (w : World) (hr : Rd w B A (bvs p)) (hn : n = p.length) (hB : B ≤ w.heap.size) (hp : p.length ≤ 65535) :
    Calls Tryz.prog 106 #[.int .u8 t.toNat,.slice A n c] w (Bq w (elem t p)):=by
  obtain⟨i0,hi0,hz0,hs0,hb0⟩:=info_parts DerW.De;have hsz:∀W:World,Calls Tryz.prog 152 #[.int .i64 (n:Int)] W (Bq W (szL n)):=fun W=>Io n (by omega) W
  have HS:=I hsz;have HR:=I hr;have HN:=I hn;have HP:=I hp;have h3:=I (OA n);have hml:=I DerW.ml;have hown0:Hid ((w.alloc (.cells #[.int .u8 (t.toNat:Int)] 5)).ownsRow w.heap.size 5 1 (.slice (some ⟨w.heap.size,0,none⟩) 1 1) 1 (bvs [t])):=World.ownsRow_lit w #[.int .u8 (t.toNat:Int)] 1 Ae (DerW.ml 1 (by omega)) rfl;clear hsz hr hn hp;go_enter Tryz.func106,Tryz.ntmps106
  go_wp2_with (first
    | (go_at_call 152; refine (HS.o _).mono ?_; rintro e w1 ⟨⟨g1, c1, rfl, hg1, hc1, hrd1⟩, hb1⟩
       have hB1:Below w.heap.size w w1:=((Below.refl w.heap.size w).alloc Ae _).trans (hb1.mono (by simp));have HO1:=I (FT hown0.o hb1);have HQ1:=I hrd1;clear hrd1)
    | (at_builtin
       refine Au _ rfl (.tmp 6) (.tmp 9) 27 rfl w.heap.size 5 i0 _ 1 Tryz.underlying27 hi0 hz0 hs0 hb0 rfl (.slice (some ⟨w.heap.size,0,none⟩) 1 1) 1 (bvs [t]) rfl HO1.o w1.heap.size _ (szL n).length c1 (bvs (szL n)) rfl (AI _).symm HQ1.o (BK _) (hml.o _ (by have:=h3.o;omega)) (by have:=h3.o;omega) hB1.size ?_;intro v2 w2 hown2 hg2 hat2;have hB2:=hB1.grown hg2 hB1.size (fun k hk=>(HO1.o.lt k hk).1);have HO2:=I hown2;clear hown2 hat2)
    | (at_builtin
       refine Au _ rfl (.tmp 10) (.tmp 11) 27 rfl w.heap.size 5 i0 _ 1 Tryz.underlying27 hi0 hz0 hs0 hb0 rfl v2 (1+(szL n).length) (bvs [t]++bvs (szL n)) rfl HO2.o B A n c (bvs p) rfl (by rw[AI];exact HN.o) (HR.o.below (hB2.mono hB)) (BK _) (hml.o _ (by have:=h3.o;have:=HN.o;have:=HP.o;omega)) (by have:=h3.o;have:=HN.o;have:=HP.o;omega) hB2.size ?_;intro v3 w3 hown3 hg3 hat3;have hB3:=hB2.grown hg3 hB2.size (fun k hk=>(HO2.o.lt k hk).1);have HO3:=I hown3;clear hown3 hat3))
  go_ret;have hown:=HO3.o;rw[HN.o,←BU,←BU,show [t]++szL p.length++p=elem t p from rfl] at hown;exact Df hown (by rw[BW];omega) hB3
theorem Bz (p:L) (A:Option Addr) (n c B:Nat) (w:World) (hr:Rd w B A (bvs p)) (hn:n=p.length) (hB:B≤w.heap.size) (hp:p.length≤65535) :
  Calls Tryz.prog 75 #[.slice A n c] w (Bq w (elem 4 p)):=by
 have H:=I (Cx 4 p A n c B w hr hn hB hp);clear hr hn hB hp;go_enter Tryz.func75,Tryz.ntmps75
 go_wp2_with (go_at_call 106;refine(Calls.mono H.o ?_);rintro e w1 ⟨⟨g1,c1,rfl,hg1,hc1,hrd1⟩,hb1⟩)
 go_ret;exact⟨⟨g1,c1,rfl,hg1,hc1,hrd1⟩,hb1⟩
theorem Dp (l:L) (w:World) (hl:l.length≤65535) :
  Calls Tryz.prog 121 #[.string ⟨l.toArray⟩] w (Bq w (elem 27 l)):=by
 have hcv:=fun(W:World)=>Lib.run_convert_string_bytes (P:=Tryz.prog) W 9 27 5 ⟨l.toArray⟩ Tryz.underlying9 Tryz.underlying27 Tryz.underlying5
 have he:∀(c:Nat),Calls Tryz.prog 106 #[.int .u8 27,.slice (some ⟨w.heap.size,0,none⟩) l.length c] (Lib.bytesWorld w 5 ⟨l.toArray⟩) (Bq (Lib.bytesWorld w 5 ⟨l.toArray⟩) (elem 27 l)):=
  fun c=>Cx 27 l _ _ c _ _ (Dw w 5 l).rd rfl Ae hl
 have HE:=I he;have HB:=I (Ct w 5 ⟨l.toArray⟩);clear he hl;go_enter Tryz.func121,Tryz.ntmps121
 go_wp2_with (go_at_call 106;refine(Calls.mono (HE.o _) ?_);rintro e w1 ⟨⟨g1,c1,rfl,hg1,hc1,hrd1⟩,hb1⟩)
 go_ret;exact⟨⟨g1,c1,rfl,Nat.le_trans HB.o.size hg1,hc1,hrd1⟩,bt HB.o hb1⟩
theorem Gz (j m:Nat):digK (j+1) m=UInt8.ofNat (m / 256 ^ j) :: digK j m:=by
 induction j generalizing m with
 |zero=>simp [digK]
 |succ j ih=>
  rw[digK,ih (m / 256)];rw[Nat.div_div_eq_div_mul,Nat.mul_comm,←Nat.pow_succ]
  rfl
theorem JY (m j:Nat) (hm:m≤4611686018427387904) (hj:1≤j) (h1:j=1∨256 ^ (j - 1)≤m) (h2:m / 256 ^ (j - 1)<128):dig m=digK j m:=by
 have hp:0<256 ^ (j - 1):=Nat.pow_pos (by omega);have hup:m<128*256 ^ (j - 1):=by rw[Nat.div_lt_iff_lt_mul hp] at h2;exact h2
 have hj8:j≤8:=by
  rcases Nat.lt_or_ge 8 j with g | g
  ·exfalso
   rcases h1 with h | h
   ·omega
   ·have:256 ^ 8≤256 ^ (j - 1):=Nat.pow_le_pow_right (by omega) (by omega)
    have e:(256:Nat) ^ 8=18446744073709551616:=by decide
    omega
  ·exact g
 have hup':m<2 ^ (8*(j - 1)+7):=by
  rw[Nat.pow_add,←Dt,Nat.mul_comm];simpa using hup
 have hb:=BO m _ (by omega) hup';have hk:Lib.bitLen m / 8+1=j:=by
  rcases h1 with h | h
  ·omega
  ·have h3:2 ^ (8*(j - 1))≤m:=by rw[←Dt];exact h
   have:=CL m (by omega) _ h3;omega
 rw[dig,hk]
theorem IX (m j:Nat) (hm:m≤4611686018427387904) (hj:1≤j) (h0:m / 256 ^ j=0) (h2:128≤m / 256 ^ (j - 1)):dig m=0 :: digK j m:=by
 have hp:0<256 ^ (j - 1):=Nat.pow_pos (by omega);have hlo:128*256 ^ (j - 1)≤m:=by rw[Nat.le_div_iff_mul_le hp] at h2;exact h2
 have hpj:0<256 ^ j:=Nat.pow_pos (by omega);have hup:m<256 ^ j:=by
  rcases Nat.lt_or_ge m (256 ^ j) with g | g
  ·exact g
  ·have:=Nat.div_pos g hpj;omega
 have hlo':2 ^ (8*(j - 1)+7)≤m:=by
  rw[Nat.pow_add,←Dt,Nat.mul_comm];simpa using hlo
 have h3:=CL m (by omega) _ hlo';have h62:=DD m hm;have h4:=BO m (8*j) (by omega) (by rw[←Dt];exact hup);have hk:Lib.bitLen m / 8+1=j+1:=by omega
 rw[dig,hk,Gz,h0]
 rfl
theorem Dz (m j:Nat) (hj:1≤j) (h0:m / 256 ^ j=0):m / 256 ^ (j - 1)<256:=by
 have hp:0<256 ^ (j - 1):=Nat.pow_pos (by omega);have hpj:0<256 ^ j:=Nat.pow_pos (by omega);rw[Nat.div_lt_iff_lt_mul hp,Nat.mul_comm,←Nat.pow_succ,show(j - 1).succ=j by omega];rcases Nat.lt_or_ge m (256 ^ j) with g | g
 ·exact g
 ·have:=Nat.div_pos g hpj;omega
theorem IY {w:World} {g j m:Nat} (hj:1≤j) (h0:m / 256 ^ j=0) (h:Rd w w.heap.size (some ⟨g,0,none⟩) (bvs (digK j m))):w.cell? ⟨g,0,none⟩=some (.int .u8 ((m / 256 ^ (j - 1):Nat):Int)):=by
 have ha:=Jn j m 0 (by omega);obtain⟨b,o,e,_,hc⟩:=h.at_ (i:=0) (u:=bv (UInt8.ofNat (m / 256 ^ (j - 1)))) (by simp only[bvs,List.getElem?_map,ha];rfl);injection e with e;injection e with e1 e2;subst e1 e2;have hf:=Dz m j hj h0;rw[show(0+0:Nat)=0 from rfl] at hc;rw[hc,DerW.DP _ hf]
def Left (m:Nat) (W:World) (n p:Value) (w:World):Prop:=
 ∃j g cap,1≤j∧(j=1∨256 ^ (j - 1)≤m)∧j≤9∧n = .int .i64 ((m / 256 ^ j:Nat):Int)∧p = .slice (some ⟨g,0,none⟩) j cap∧Rd w w.heap.size (some ⟨g,0,none⟩) (bvs (digK j m))∧Below W.heap.size W w
theorem AZ (n : Int) (w : World) :
    Calls Tryz.prog 73 #[.int .i64 n] w (Bq w (encI n)):=by
  obtain⟨i0,hi0,hz0,hs0,hb0⟩:=info_parts DerW.De;have hcl:=FB n;have hm:=CK n;have E:Hid (encI n=elem 2 (dig (Bg n))):=rfl;generalize Bg n=m at *;have HM:=I hm;have hm':(m:Int)≤4611686018427387904:=by omega
  have hml:=I DerW.ml;have hlast:=I (show [Value.int .u8 ((m:Int) % 256)]=bvs (digK 1 m) by simp [bvs,bv,digK]);have hcl':=hcl.symm;clear hcl hm;go_enter Tryz.func73,Tryz.ntmps73
  go_wp2
  go_loopw [0,3] (fun nv p wr=>Left m w nv p wr) (fun nv _ _=>(intOf nv).toNat)
  case atStart=>
    refine⟨1,w.heap.size,1,Nat.le_refl _,.inl rfl,by omega,by simp,rfl,?_,Af.alloc Ae _⟩;have:=DerW.Eu w 5 #[Value.int .u8 ((m:Int) % 256)] (digK 1 m) hlast.o _ rfl
    simpa using this
  case round=>
    obtain⟨j,g,cap,hj1,hjm,hj9,rfl,rfl,hrd,hbel⟩:=hrel
    by_cases h0:m / 256 ^ j=0
    · have hcell := IY hj1 h0 hrd
      have hf:=Dz m j hj1 h0;have HRD:=I hrd;have HJ:=I hj1;have HJM:=I hjm;have H0:=I h0;rw[h0];have HN:=I (Dz m j hj1 h0)
      by_cases h128:m / 256 ^ (j - 1)<128
      · have G := I (JY m j HM.o hj1 hjm h128)
        have he:∀W:World,Rd W W.heap.size (some ⟨g,0,none⟩) (bvs (digK j m))→Calls Tryz.prog 106 #[.int .u8 2,.slice (some ⟨g,0,none⟩) j cap] W (Bq W (elem 2 (digK j m))):=
          fun W hW=>Cx 2 (digK j m) _ j cap _ W hW (AK j m).symm Ae (by rw[AK];omega)
        have HEL:=I he;have g5:decide ((128:Int)≤((m / 256 ^ (j - 1):Nat):Int))=false:=by simp only[decide_eq_false_iff_not];omega
        clear he hrd hf h128 hj1 hjm h0;generalize m / 256 ^ (j - 1)=a at *;have hj9':(j:Int)≤9:=by omega
        have hj1':0<j:=HJ.o
        go_wp2_with (go_at_call 106;refine(Calls.mono (HEL.o _ HRD.o) ?_);rintro e w1 ⟨⟨g1,c1,rfl,hg1,hc1,hrd1⟩,hb1⟩)
        go_ret;rw[E.o,G.o];exact⟨⟨g1,c1,rfl,Nat.le_trans hbel.size hg1,hc1,hrd1⟩,bt hbel hb1⟩
      · have G := I (IX m j HM.o hj1 h0 (by omega))
        have he:∀(W:World) (g' c':Nat),Rd W W.heap.size (some ⟨g',0,none⟩) (bvs (0 :: digK j m))→Calls Tryz.prog 106 #[.int .u8 2,.slice (some ⟨g',0,none⟩) (0 :: digK j m).length c'] W (Bq W (elem 2 (0 :: digK j m))):=
          fun W g' c' hW=>Cx 2 (0 :: digK j m) _ _ c' _ W hW rfl Ae (by simp only[List.length_cons,AK];omega)
        have HEL:=I he;have g5:decide ((128:Int)≤((m / 256 ^ (j - 1):Nat):Int))=true:=by simp only[decide_eq_true_eq];omega
        have hown0:Hid ((wr.alloc (.cells #[.int .u8 0] 5)).ownsRow wr.heap.size 5 1 (.slice (some ⟨wr.heap.size,0,none⟩) 1 1) 1 (bvs [0])):=World.ownsRow_lit wr #[.int .u8 0] 1 Ae (DerW.ml 1 (by omega)) rfl;clear he hrd hf h128 hj1 hjm h0;generalize m / 256 ^ (j - 1)=a at *;have hj9':(j:Int)≤9:=by omega
        have hj1':0<j:=HJ.o
        go_wp2_with (first
          | (at_builtin
             refine Au _ rfl (.tmp 25) (.tmp 26) 27 rfl wr.heap.size 5 i0 _ 1 Tryz.underlying27 hi0 hz0 hs0 hb0 rfl (.slice (some ⟨wr.heap.size,0,none⟩) 1 1) 1 (bvs [0]) rfl hown0.o wr.heap.size (some ⟨g,0,none⟩) j cap (bvs (digK j m)) rfl (by rw[AI,AK]) (HRD.o.alloc Ae _) (BK _) (hml.o _ (by omega)) (by omega) (by simp) ?_;intro v2 w2 hown2 hg2 hat2;rw[←BU,List.singleton_append] at hown2;obtain⟨g3,cap3,rfl,hg3,hcap3,hrd3⟩:=DerK.Fh hown2 (by simp);have hbe2:Below wr.heap.size wr w2:=((Below.refl wr.heap.size wr).alloc Ae _).grown hg2 (by simp) (fun k hk=>by simp [Value.ownBlock] at hk;omega);clear hown2 hat2)
          |(go_at_call 106;refine(Calls.mono (HEL.o _ _ _ hrd3) ?_);rintro e w1 ⟨⟨g1,c1,rfl,hg1,hc1,hrd1⟩,hb1⟩))
        go_ret;rw[E.o,G.o];exact⟨⟨g1,c1,rfl,Nat.le_trans (Nat.le_trans hbel.size hbe2.size) hg1,hc1,hrd1⟩,bt (bt hbel hbe2) hb1⟩
    · have hle : 256 ^ j ≤ m := by
        have hpj:0<256 ^ j:=Nat.pow_pos (by omega);rcases Nat.lt_or_ge m (256 ^ j) with g' | g'
        · exact absurd (Nat.div_eq_of_lt g') h0
        · exact g'
      have hj8:j<8:=by
        rcases Nat.lt_or_ge j 8 with g' | g'
        · exact g'
        · exfalso
          have:256 ^ 8≤256 ^ j:=Nat.pow_le_pow_right (by omega) g';have e:(256:Nat) ^ 8=18446744073709551616:=by decide
          have:=HM.o;omega
      have hnext:=I (show m / 256 ^ j / 256=m / 256 ^ (j+1) by rw[Nat.div_div_eq_div_mul,←Nat.pow_succ]);have hcons:=I (Gz j m);have hy:m / 256 ^ j≤m:=Nat.div_le_self _ _;have HRD:=I hrd;have HLE:=I hle;clear hrd hle hjm;generalize m / 256 ^ j=y at *;have g6:decide ((0:Int)<(y:Int))=true:=by simp;omega
      have hy':(y:Int)≤4611686018427387904:=by omega
      have hown0:Hid ((wr.alloc (.cells #[.int .u8 ((y:Int) % 256)] 5)).ownsRow wr.heap.size 5 1 (.slice (some ⟨wr.heap.size,0,none⟩) 1 1) 1 (bvs [UInt8.ofNat y])):=by
        have:=World.ownsRow_lit (base:=wr.heap.size) (e:=5) (size:=1) wr #[.int .u8 ((y:Int) % 256)] 1 Ae (DerW.ml 1 (by omega)) rfl;rw[show(#[Value.int .u8 ((y:Int) % 256)]:Array Value).toList=bvs [UInt8.ofNat y] by simp [bvs,bv]] at this;exact this
      have HY:=I (show 0<y by omega);clear h0 hy
      go_wp2_with (at_builtin
                   refine Au _ rfl (.tmp 18) (.tmp 19) 27 rfl wr.heap.size 5 i0 _ 1 Tryz.underlying27 hi0 hz0 hs0 hb0 rfl (.slice (some ⟨wr.heap.size,0,none⟩) 1 1) 1 (bvs [UInt8.ofNat y]) rfl hown0.o wr.heap.size (some ⟨g,0,none⟩) j cap (bvs (digK j m)) rfl (by rw[AI,AK]) (HRD.o.alloc Ae _) (BK _) (hml.o _ (by omega)) (by omega) (by simp) ?_;intro v2 w2 hown2 hg2 hat2;rw[←BU,List.singleton_append,←hcons.o] at hown2;obtain⟨g3,cap3,rfl,hg3,hcap3,hrd3⟩:=DerK.Fh hown2 (by rw[AK];omega);rw[AK];have hbe2:Below wr.heap.size wr w2:=((Below.refl wr.heap.size wr).alloc Ae _).grown hg2 (by simp) (fun k hk=>by simp [Value.ownBlock] at hk;omega);clear hown2 hat2)
      refine⟨⟨j+1,g3,cap3,by omega,.inr (by simpa using HLE.o),by omega,?_,rfl,hrd3,bt hbel hbe2⟩,?_⟩
      · rw [← hnext.o]; rfl
      · have := HY.o; simp [intOf]; omega
theorem Hi {w:World} {base n:Nat} {t:TypeId} {v:Value} {l:L} (h:w.ownsRow base t 1 v n (bvs l)) :
  ∃A cap,v = .slice A l.length cap∧Rd w w.heap.size A (bvs l):=by
 have hn:n=l.length:=by have:=h.1;rw[AI] at this;omega
 subst hn;rcases h.2 with⟨h1,h2⟩ | ⟨g,cap,cur,rfl,hg,_,hc,_⟩
 ·subst h1
  have:l = []:=List.eq_nil_of_length_eq_zero h2;subst this;exact⟨none,0,rfl,.inl rfl⟩
 ·exact⟨_,cap,rfl,Rd.of_own h⟩
def Dg (ls:List L) (k:Nat):L:=(ls.take k).flatten
theorem Hj (ls:List L) (k:Nat) (l:L) (h:ls[k]? = some l):Dg ls (k+1)=Dg ls k++l:=DerW.Fg ls k l h
theorem JZ (ls:List L) (k:Nat):(Dg ls k).length≤ls.flatten.length:=DerW.Hg ls k
theorem IZ (ls:List L):Dg ls ls.length=ls.flatten:=by rw[Dg,List.take_of_length_le Ae]
theorem Bp (t : UInt8) (ls : List L) (A : Option Addr) (m c B : Nat) (w : World) (hr : DerW.Rds w B A ls) (hm : m = ls.length) (hB : B ≤ w.heap.size) (hl : ls.flatten.length ≤ 65535) (hc : ls.length ≤ 1000000) :
    Calls Tryz.prog 71 #[.int .u8 t.toNat,.slice A m c] w (Bq w (elem t ls.flatten)):=by
  obtain⟨i0,hi0,hz0,hs0,hb0⟩:=info_parts DerW.De;have HR:=I hr;have hfl:=I (fun k=>Nat.le_trans (JZ ls k) hl);have hfa:=I (IZ ls);have hml:=I DerW.ml;have hc':(m:Int)≤1000000:=by omega
  have HM:=I hm;have HL:=I hl;have h00:=I (World.ownsRow_nil w w.heap.size 5 1);clear hr hm hc hl;go_enter Tryz.func71,Tryz.ntmps71
  go_wp2
  go_loopw [5,6] (fun v i wr=>∃k:Nat,k≤m∧i = .int .i64 (k:Int)∧wr.ownsRow w.heap.size 5 1 v (Dg ls k).length (bvs (Dg ls k))∧Below w.heap.size w wr) (fun _ i _=>m - (intOf i).toNat)
  case atStart=>exact⟨0,by omega,rfl,h00.o,Below.refl _ _⟩
  case round=>
    obtain⟨k,hk,rfl,hown,hbel⟩:=hrel
    by_cases hlt:k<m
    · obtain ⟨l, hx⟩ : ∃ l, ls[k]? = some l := ⟨_, List.getElem?_eq_getElem (by have := HM.o; omega)⟩
      obtain⟨b,o,rfl,hb,A',c',hcell,hrd⟩:=(HR.o.below (hbel.mono hB)).at_ hx;have hs:=Hj ls k l hx;have hf2:=hfl.o (k+1);have hs1:=congrArg List.length hs;rw[List.length_append] at hs1;have HS:=I hs;have hsum:(Dg ls k).length+l.length≤65535:=by omega
      have HO:=I hown;have HQ:=I hrd;clear hs hs1 hx hf2 hown hrd
      go_wp2_with (at_builtin
                   refine Au _ rfl (.tmp 13) (.tmp 17) 27 rfl w.heap.size 5 i0 _ 1 Tryz.underlying27 hi0 hz0 hs0 hb0 rfl _ (Dg ls k).length (bvs (Dg ls k)) rfl HO.o B A' l.length c' (bvs l) rfl (AI l).symm HQ.o (BK _) (hml.o _ (by omega)) (by omega) hbel.size ?_;intro v2 w2 hown2 hg2 hat2)
      refine⟨⟨k+1,by omega,by go_num,?_,hbel.grown hg2 hbel.size (fun i hi=>(HO.o.lt i hi).1)⟩,by simp [intOf];omega⟩;rw[HS.o,BU,List.length_append];exact hown2
    · obtain rfl : k = m := by omega
      have e:Dg ls k=ls.flatten:=by rw[HM.o];exact hfa.o
      rw[e] at hown;obtain⟨A2,cap2,rfl,hrd2⟩:=Hi hown;have HQ:=I hrd2;have HE:=I (Cx t ls.flatten A2 ls.flatten.length cap2 _ wr hrd2 rfl Ae HL.o);clear hk hlt e hown hrd2;generalize ls.flatten.length=q at *
      go_wp2_with (go_at_call 106;refine(Calls.mono HE.o ?_);rintro e w1 ⟨⟨g1,c1,rfl,hg1,hc1,hrd1⟩,hb1⟩)
      go_ret;exact⟨⟨g1,c1,rfl,Nat.le_trans hbel.size hg1,hc1,hrd1⟩,bt hbel hb1⟩
def cutA (A:Option Addr) (c k:Nat):Option Addr:=if c=k then A else A.map (·.add k)
theorem Dh {P:Program} {t e:TypeId} (ht:P.underlying t=some (.slice e)) (hz:∀w:World,(sizeOf e).run P w = .ok 1 w) (A:Option Addr) (n c k:Nat) (K:Int) (hK:K=(k:Int)) (hk:k≤n) (w:World) :
  (Instr.slice t (.slice A n c) (some (.int .i64 K)) none none).run P w = .ok (.slice (cutA A c k) (n - k) (c - k)) w:=by
 subst hK;simp [Instr.slice,run_underlying ht,Instr.sliceBounds,run_sliceBound,hz,cutA,Result.andThen,(by omega:(k:Int)≤(n:Int))]
theorem DA {P:Program} {t e:TypeId} (ht:P.underlying t=some (.slice e)) (hz:∀w:World,(sizeOf e).run P w = .ok 1 w) (A:Option Addr) (n c k m:Nat) (K M:Int) (hK:K=(k:Int)) (hM:M=(k:Int)+(m:Int)) (hm:k+m≤c) (w:World) :
  (Instr.slice t (.slice A n c) (some (.int .i64 K)) (some (.int .i64 M)) none).run P w = .ok (.slice (cutA A c k) m (c - k)) w:=by
 subst hK hM;have he:P.elem t=e:=by simp [Program.elem,ht]
 have ht':P.underlying t=some (.slice (P.elem t)):=by rw[he];exact ht
 rw[run_slice_lh w t A n c ht' .i64 .i64 (k:Int) ((k:Int)+(m:Int)) (by omega) (by omega) (by omega),he,hz];simp only[Result.andThen,sliced,Nat.mul_one,cutA,Int.toNat_natCast];have e2:((k:Int)+(m:Int)).toNat - k=m:=by omega
 rw[e2]
theorem Mt {w:World} {B:Nat} {A:Option Addr} {l:L} {c:Nat} (h:Rd w B A (bvs l)) (k:Nat) (hl:l.length≤c):Rd w B (cutA A c k) (bvs (l.drop k)):=by
 unfold cutA
 by_cases hc:c=k
 ·rw[if_pos hc,List.drop_of_length_le (by omega)]
  exact .inl rfl
 ·rw[if_neg hc]
  rcases h with h | ⟨b,o,h1,h2,h3⟩
  ·have:l = []:=List.map_eq_nil_iff.1 h
   subst this;exact .inl (by simp [bvs])
  ·subst h1
   refine .inr ⟨b,o+k,by simp [addr_add],h2,fun i u hu=>?_⟩;rw[Nat.add_assoc];refine h3 (k+i) u ?_;rw[←hu];simp [bvs,List.getElem?_map,List.getElem?_drop]
theorem No {w:World} {B:Nat} {A:Option Addr} {l:L} (h:Rd w B A (bvs l)) (m:Nat):Rd w B A (bvs (l.take m)):=by
 rcases h with h | ⟨b,o,h1,h2,h3⟩
 ·have:l = []:=List.map_eq_nil_iff.1 h
  subst this;exact .inl (by simp [bvs])
 ·refine .inr ⟨b,o,h1,h2,fun i u hu=>h3 i u ?_⟩
  by_cases hi:i<m
  ·rw[←hu];simp only[bvs,List.getElem?_map,List.getElem?_take,if_pos hi]
  ·rw[List.getElem?_eq_none (by rw[AI,List.length_take];omega)] at hu;cases hu
def RS (w:World) (B:Nat) (A:Option Addr) (n cap:Nat) (e:Bool):Option L→Prop
 |none=>e=true
 |some l=>e=false∧n=l.length∧n≤cap∧Rd w B A (bvs l)
def RC (w:World) (B g:Nat) (c:Option L):Prop:=∃A n cap e,Blk w g 134 #[.slice A n cap,.bool e]∧RS w B A n cap e c
theorem RC.keep {w w':World} {B g:Nat} {c:Option L} (h:RC w B g c) {row:Option Nat} (hg:w.grownBy w' row) (hne:row≠some g) (hB:B≤w.heap.size) (hr:∀k,row=some k→B≤k):RC w' B g c:=by
 obtain⟨A,n,cap,e,h1,h2⟩:=h;refine⟨A,n,cap,e,h1.grown hg hne,?_⟩;cases c with
 |none=>exact h2
 |some l=>exact⟨h2.1,h2.2.1,h2.2.2.1,h2.2.2.2.grown hg hB hr⟩
def Took (w:World) (B g:Nat) (t:UInt8) (c:Option L) (e:Ending) (w':World):Prop:=
 (∃A' cap',e = .returned (.slice A' ((Ah t c).getD []).length cap')∧((Ah t c).getD []).length≤cap'∧Rd w' B A' (bvs ((Ah t c).getD [])))∧RC w' B g (Az t c)∧w.grownBy w' (some g)
theorem Br {w:World} {B g:Nat} {t:UInt8} {c:Option L} {A:Option Addr} {n cap:Nat} {e:Bool} (hb:Blk w g 134 #[.slice A n cap,.bool e]) (h:Ah t c=none) {w0:World} (hg:w0.grownBy w (some g)) :
  Took w0 B g t c (.returned (.slice none 0 0)) (w.setCell ⟨g,1,none⟩ (.bool true)):=by
 have hn:=DF t c h;unfold Took;rw[h,hn];exact⟨⟨none,0,rfl,Nat.le_refl _,.inl rfl⟩,⟨A,n,cap,true,hb.set 1 (.bool true),rfl⟩,Av hg (.inl rfl) _⟩
theorem Ja (t:UInt8) (B g:Nat) (w:World) (h:RC w B g none) :
  Calls Tryz.prog 103 #[.pointer (some ⟨g,0,none⟩),.int .u8 t.toNat] w (Took w B g t none):=by
 obtain⟨A,n,cap,e,hb,he⟩:=h;obtain rfl:e=true:=he;have h0:w.cell? ⟨g,0,none⟩=some (.slice A n cap):=hb.cell 0;have h1:w.cell? ⟨g,1,none⟩=some (.bool true):=hb.cell 1;have f1:=hb.frozen 1;have HB:=I hb;clear hb;go_enter Tryz.func103,Tryz.ntmps103
 go_wp2
 go_ret;exact Br HB.o rfl (World.grownBy.refl _ _)
theorem Fj (t:UInt8) (B g:Nat) (A:Option Addr) (cap:Nat) (l:L) (w:World) (hb:Blk w g 134 #[.slice A l.length cap,.bool false]) (hl:l.length<2) :
  Calls Tryz.prog 103 #[.pointer (some ⟨g,0,none⟩),.int .u8 t.toNat] w (Took w B g t (some l)):=by
 have h0:w.cell? ⟨g,0,none⟩=some (.slice A l.length cap):=hb.cell 0;have h1:w.cell? ⟨g,1,none⟩=some (.bool false):=hb.cell 1;have f1:=hb.frozen 1;have HB:=I hb;have g1:decide ((l.length:Int)<2)=true:=by simp only[decide_eq_true_eq];omega
 have E:=I (show Ah t (some l)=none by
  refine(AT ?_).1;rcases l with _ | ⟨a,_ | ⟨b,r⟩⟩
  ·rfl
  ·simp [AP,lenR]
  ·simp at hl;omega)
 clear hb hl;go_enter Tryz.func103,Tryz.ntmps103
 go_wp2
 go_ret;exact Br HB.o E.o (World.grownBy.refl _ _)
end DerR
end Go.Proofs.YtlfmicidppccnaaGreat
