import Derived.Test.YtfbnjcdhipplpaaGreatZAcceptorErrs15
set_option maxHeartbeats 25600000
set_option maxRecDepth 100000
set_option linter.unusedVariables false
set_option linter.unusedSimpArgs false
namespace Go.Proofs.YtfbnjcdhipplpaaGreat
namespace Rp
open Go.RowKit Af Se
open Ms (An)
open Rg (RdR Bq Bt)
abbrev anC (a:An):List Value:=[.string ⟨a.c.1.toArray⟩,.string ⟨a.c.2.toArray⟩,.int .i64 a.t,.int .i64 a.q]
abbrev anA (a:An):Array Value:=#[.string ⟨a.c.1.toArray⟩,.string ⟨a.c.2.toArray⟩,.int .i64 a.t,.int .i64 a.q]
theorem BI (a:An):(anC a).length=4:=rfl
theorem FZ (a:An):(anA a).size=4:=rfl
theorem Lw (a:An):∀u∈anC a,u.oneCell'=true:=by simp [Value.oneCell']
theorem Oz (a:An):(anA a).all (·.oneCell')=true:=by
 rw[Array.all_eq_true_iff_forall_mem];exact fun u hu=>Lw a u (Array.mem_def.1 hu)
theorem JO:(Tryz.prog.info? 33).map (·.size)=some 4:=by kernel_rfl
theorem Yg:(Tryz.prog.info? 33).map (fun i=>(i.zero,i.size,i.bytes))=some (some (.agg (anA ⟨([],[]),0,0⟩)),4,48):=by kernel_rfl
structure Rp (w:World) (B r:Nat) (v:Value) (on:Bool) (st:Int) (l:List An):Prop where
 blk:Blk w r 177 #[v,.bool on,.int .i64 st]
 row:w.ownsRow B 33 4 v l.length (l.flatMap anC)
 lo:B<=r
 vr:v.ownBlock≠some r
 tm:∀a∈l,Tm a.t
def RO (r:Nat) (v:Value) (k:Nat):Prop:=k=r\/v.ownBlock=some k
section
variable {w w':World} {B r:Nat} {v v':Value} {on:Bool} {st:Int} {l l':List An} {S:Nat->Prop}
theorem Rp.lt (h:Rp w B r v on st l):r<w.heap.size:=h.blk.lt
theorem Rp.big (h:Rp w B r v on st l):B<=w.heap.size:=by have:=h.lo;have:=h.lt;omega
theorem Rp.own_lo (h:Rp w B r v on st l) {k:Nat} (hk:RO r v k):B<=k:=by
 rcases hk with hk | hk
 ·subst hk;exact h.lo
 ·exact(World.ownsRow.lt h.row k hk).1
theorem Rp.own_lt (h:Rp w B r v on st l) {k:Nat} (hk:RO r v k):k<w.heap.size:=by
 rcases hk with hk | hk
 ·subst hk;exact h.lt
 ·exact(World.ownsRow.lt h.row k hk).2
theorem Rp.chg (h:Rp w B r v on st l) (M:Chg S w w') (hs:∀k,RO r v k->¬S k):Rp w' B r v on st l:=
 ⟨M.blk h.blk (hs r (.inl rfl)),Bt M h.row (fun k hk=>hs k (.inr hk)),h.lo,h.vr,h.tm⟩
theorem Rp.below (h:Rp w B r v on st l) (M:Below w.heap.size w w'):Rp w' B r v on st l:=h.chg (S:=fun _=>False) (Chg.of_below M) (fun _ _ x=>x)
theorem Rp.num (h:Rp w B r v on st l):∃A c,v=.slice A l.length c/\l.length<=c/\c<=maxLen/\RdR w w.heap.size A anC 4 l:=Bq BI h.row
end
theorem Hg (x y:Int) (hx:Tm x) (hy:Tm y) (w:World):Calls Tryz.prog 199 #[.int .i64 x,.int .i64 y] w fun e w'=>e=.returned (.bool (old x y))/\w'=w:=by
 unfold old;have u1:IntKind.u64.wrap x=x:=by rw[IntKind.wrap_u64];omega
 have u2:IntKind.u64.wrap y=y:=by rw[IntKind.wrap_u64];omega
 by_cases h:y<x
 ·have Z:decide (y<x)=true:=decide_eq_true h
  have u3:IntKind.u64.wrap (x - y)=x - y:=by rw[IntKind.wrap_u64];omega
  obtain⟨b,M⟩:=Ak (decide (y+5<x));have hb:decide (5<x - y)=b:=by rw[M];exact decide_eq_decide.2 (by omega)
  rw[<-M];clear M;go_enter Tryz.func199,Tryz.ntmps199
  go_wp2
  go_ret;exact⟨by rw[<-hb];rfl,rfl⟩
 ·have Z:decide (y<x)=false:=decide_eq_false h
  have O:decide (y+5<x)=false:=decide_eq_false (by omega);rw[O];clear O;go_enter Tryz.func199,Tryz.ntmps199
  go_wp2
  go_ret;exact⟨rfl,rfl⟩
theorem QS (r:Nat) (v:Value) (on:Bool) (st t now:Int) (w:World) (hb:Blk w r 177 #[v,.bool on,.int .i64 st]) (Z:Tm t) (h2:Tm now) (h3:Tm st):Calls Tryz.prog 196 #[.pointer (some ⟨r,0,none⟩),.int .i64 t,.int .i64 now] w fun e w'=>e=.returned (.bool (skw on st t now))/\w'=w:=by
 unfold skw;have M:=I (Hg t now Z h2);have O:=I (Hg now t h2 Z);have C3:=I (Hg t st Z h3);have k1:=hb.c1;have k2:=hb.c2;obtain⟨b1,e1⟩:∃b,b=old t now:=⟨_,rfl⟩;obtain⟨b2,e2⟩:∃b,b=old now t:=⟨_,rfl⟩;obtain⟨b3,e3⟩:∃b,b=old t st:=⟨_,rfl⟩;rw[<-e1] at M⊢;rw[<-e2] at O⊢;rw[<-e3] at C3⊢;clear e1 e2 e3 hb Z h2 h3;cases b1 with
 |true=>
  go_enter Tryz.func196,Tryz.ntmps196
  go_wp2_with (first
   |(go_at_call 199;with_reducible refine Aj (M.o _) ?_;rintro w1 hw;subst hw;clear M)
   |fail)
  go_ret;exact⟨rfl,rfl⟩
 |false=>
  cases b2 with
  |true=>
   go_enter Tryz.func196,Tryz.ntmps196
   go_wp2_with (first
    |(go_at_call 199;with_reducible refine Aj (M.o _) ?_;rintro w1 hw;subst hw;clear M)
    |(go_at_call 199;with_reducible refine Aj (O.o _) ?_;rintro w1 hw;subst hw;clear O)
    |fail)
   go_ret;exact⟨rfl,rfl⟩
  |false=>
   cases on with
   |false=>
    go_enter Tryz.func196,Tryz.ntmps196
    go_wp2_with (first
     |(go_at_call 199;with_reducible refine Aj (M.o _) ?_;rintro w1 hw;subst hw;clear M)
     |(go_at_call 199;with_reducible refine Aj (O.o _) ?_;rintro w1 hw;subst hw;clear O)
     |fail)
    go_ret;exact⟨rfl,rfl⟩
   |true=>
    go_enter Tryz.func196,Tryz.ntmps196
    go_wp2_with (first
     |(go_at_call 199;with_reducible refine Aj (M.o _) ?_;rintro w1 hw;subst hw;clear M)
     |(go_at_call 199;with_reducible refine Aj (O.o _) ?_;rintro w1 hw;subst hw;clear O)
     |(go_at_call 199;with_reducible refine Aj (C3.o _) ?_;rintro w1 hw;subst hw;clear C3)
     |fail)
    go_ret;exact⟨rfl,rfl⟩
theorem Yh (x:An) (now:Int) (O:Nat) (w:World) (hn:w.cell? ⟨O,0,none⟩=some (.int .i64 now)) (h1:Tm now) (h2:Tm x.t) :
  Calls Tryz.prog 198 #[.agg (anA x),.pointer (some ⟨O,0,none⟩)] w fun e w'=>e=.returned (.bool (old now x.t))/\Below w.heap.size w w':=by
 have CA:=I (Hg now x.t h1 h2);have M:O<w.heap.size:=World.block_lt_of_cell? w _ hn;obtain⟨W,Z⟩:=Ak (w.alloc (.cells (anA x) 33));have hb:Below w.heap.size w W:=Z▸Ah.alloc Ag _;have HB:=I hb;have hk:Blk W w.heap.size 33 (anA x):=by rw[Z];exact Blk.new _ _ _
 have kt:W.cell? ⟨O,0,none⟩=some (.int .i64 now):=(hb.cell (p:=⟨O,0,none⟩) M).trans hn;have ke:=hk.c2;obtain⟨b,eb⟩:=Ak (old now x.t);rw[<-eb] at CA⊢;clear eb hb hk hn M h1 h2;go_enter Tryz.func198,Tryz.ntmps198
 go_upto_region 1 with fail
 rw[<-Z];clear Z
 go_wp2_with (first
  |(go_at_call 199;refine Aj (CA.o _) ?_;rintro w1 hw;subst hw;clear CA)
  |fail)
 go_ret;exact⟨rfl,HB.o⟩
open Ca (Uk Ul JN MT)
theorem Ga (x:An):(anA x).toList=anC x:=rfl
def goI (t:Int) (es:List An):Option Nat:=es.findIdx? (fun e=>old t e.t)
def goN (o:Option Nat):Int:=match o with
 |none=>-1
 |some i=>(i:Int)
theorem WL {t:Int} {es:List An} {i:Nat} {x:An} (hx:es[i]? = some x) (hd:old t x.t=true) (M:∀j y,j<i->es[j]? = some y->old t y.t=false):goI t es=some i:=by
 obtain⟨Z,O⟩:=List.getElem?_eq_some_iff.1 hx;refine List.findIdx?_eq_some_iff_getElem.2 ⟨Z,by rw[O];exact hd,fun j hj=>?_⟩;rw[M j _ hj (List.getElem?_eq_getElem (by omega))];simp
theorem WM {t:Int} {es:List An} (Z:∀j y,j<es.length->es[j]? = some y->old t y.t=false):goI t es=none:=by
 refine List.findIdx?_eq_none_iff.2 fun x hx=>?_
 obtain⟨j,M,O⟩:=List.getElem_of_mem hx;exact Z j x M (by rw[<-O];exact List.getElem?_eq_getElem M)
theorem Um (es:List An) (t:Int) (bt:Nat) (A:Option Addr) (c B:Nat) (w:World) (hr:RdR w B A anC 4 es) (hB:B<=w.heap.size) (ht:w.cell? ⟨bt,0,none⟩=some (.int .i64 t)) (bb:Tm t/\∀a∈es,Tm a.t) (hl:es.length<=1000) :
  Calls Tryz.prog 242 #[.slice A es.length c,.func (.func 198) #[] #[.pointer (some ⟨bt,0,none⟩)]] w fun e w'=>e=.returned (.int .i64 (goN (goI t es)))/\Below w.heap.size w w':=by
 obtain⟨n,en⟩:=Ak (es.length);have EN:=I en;rw[<-en] at hl⊢;have bx:bt<w.heap.size:=World.block_lt_of_cell? w _ ht;have CD:=I (fun(x:An) (w1:World) (h:Below w.heap.size w w1) (hx:Tm x.t)=>Yh x t bt w1 ((h.cell (p:=⟨bt,0,none⟩) bx).trans ht) bb.1 hx);have HR:=I hr;have ca:=I hB;have M:=I (Below.refl w.heap.size w);have cb:=I bb.2;clear hr ht bx en hB bb;go_enter Tryz.func242,Tryz.ntmps242
 go_wp2
 go_loopw [8] (fun iv wr=>∃i:Nat,i<=n/\iv=.int .i64 (i:Int)/\Below w.heap.size w wr/\∀j x,j<i->es[j]? = some x->old t x.t=false) (fun iv _=>n - (intOf iv).toNat)
 case atStart=>exact⟨0,Nat.zero_le _,rfl,M.o,fun j x hj=>absurd hj (Nat.not_lt_zero _)⟩
 case round=>
  clear M;obtain⟨i,hi,rfl,O,bB⟩:=hrel;have M:=I O;have aw:=I bB;have cc:=I (HR.o.keep (O.mono ca.o));clear O bB
  by_cases hlt:i<n
  ·have e1:(i:Int)<(n:Int):=by omega
   have e2:(0:Int)<=(i:Int):=by omega
   obtain⟨x,hx⟩:∃x,es[i]? = some x:=⟨es[i]'(by rw[<-EN.o];exact hlt),List.getElem?_eq_getElem _⟩;obtain⟨g,rfl,cd,Z⟩:=cc.o.at_ hx;rw[<-Ga] at Z;have bq:=I Z;have bn:=JO;rw[<-FZ x] at bn;have av:=I bn;have HX:=I hx;have CX:=I (fun w1 h=>CD.o x w1 h (cb.o x (List.mem_of_getElem? hx)));obtain⟨cs,bz⟩:=Ak (anA x);rw[<-bz] at bq av CX;clear Z bn hx bz;obtain⟨b,eb⟩:=Ak (old t x.t);rw[<-eb] at CX;have EB:=I eb;clear eb;cases b with
   |true=>
    go_wp2_with (first
     |(refine Wh.AF (by rfl) 33 (.tmp 14) (by rfl) g _ (by rfl) cs _ bq.o Tryz.underlying33 (by rfl) av.o ?_)
     |(go_at_call 198;refine Aj (CX.o _ M.o) ?_;rintro w1 O;replace M:=M.t O;clear O)
     |fail)
    go_ret;exact⟨by rw[WL HX.o EB.o.symm aw.o];rfl,M.o⟩
   |false=>
    go_wp2_with (first
     |(refine Wh.AF (by rfl) 33 (.tmp 14) (by rfl) g _ (by rfl) cs _ bq.o Tryz.underlying33 (by rfl) av.o ?_)
     |(go_at_call 198;refine Aj (CX.o _ M.o) ?_;rintro w1 O;replace M:=M.t O;clear O)
     |fail)
    go_roundw
    case rel=>exact⟨i+1,by omega,by go_num,M.o,fun j y hj hy=>by
     rcases Nat.lt_or_eq_of_le (Nat.le_of_lt_succ hj) with g | g
     ·exact aw.o j y g hy
     ·rw[g,HX.o] at hy
      injection hy with hy;rw[<-hy];exact EB.o.symm⟩
    case measure=>simp [intOf];omega
  ·have e1:¬(i:Int)<(n:Int):=by omega
   obtain rfl:n=i:=by omega
   go_wp2
   go_ret;exact⟨by rw[WM (fun j y hj hy=>aw.o j y (by rw[EN.o];exact hj) hy)];rfl,M.o⟩
theorem Lx {t:Int} {es:List An} {i:Nat} (h:goI t es=some i):∃x,es[i]? = some x/\old t x.t=true/\∀j y,j<i->es[j]? = some y->old t y.t=false:=by
 obtain⟨Z,O,M⟩:=List.findIdx?_eq_some_iff_getElem.1 h;refine⟨es[i],List.getElem?_eq_getElem Z,O,fun j y hj hy=>?_⟩;have:=M j hj;obtain⟨k1,k2⟩:=List.getElem?_eq_some_iff.1 hy;rw[k2] at this
 simpa using this
theorem QT {t:Int} {es:List An} (h:goI t es=none):Ck t es=es:=by
 rw[Ck,List.filter_eq_self];intro x M;have:=List.findIdx?_eq_none_iff.1 h x M
 simpa using this
theorem Kt {t:Int} {es:List An} {i:Nat} {x:An} (M:es[i]? = some x):Ck t (es.take (i+1))=if old t x.t=true then Ck t (es.take i) else Ck t (es.take i)++[x]:=by
 rw[List.take_add_one,M,Ck,List.filter_append];cases h:old t x.t<;>simp [Ck,h]
theorem OA {t:Int} {es:List An} {i:Nat} (h:goI t es=some i):Ck t (es.take (i+1))=es.take i:=by
 obtain⟨x,h1,h2,h3⟩:=Lx h;rw[Kt h1,if_pos h2,Ck,List.filter_eq_self];intro y hy;obtain⟨j,O,Z⟩:=List.getElem_of_mem hy;have M:j<i:=by simp at O;omega
 have:=h3 j y M (by rw[<-Z,List.getElem_take];exact List.getElem?_eq_getElem _);rw[this];rfl
theorem WN {α:Type} (l:List α) (i:Nat) (x:α) (h:i<l.length):(l.set i x).take (i+1)=l.take i++[x]:=by
 rw[List.take_add_one,List.take_set_of_le Ag,List.getElem?_set_self h]
 rfl
theorem Un (es:List An) (t:Int) (bn g cap B i0:Nat) (w:World) (ho:w.ownsRow B 33 4 (.slice (some ⟨g,0,none⟩) es.length cap) es.length (es.flatMap anC)) (hB:B<=w.heap.size) (ht:w.cell? ⟨bn,0,none⟩=some (.int .i64 t)) (cd:Tm t/\∀a∈es,Tm a.t)
  (cB:bn≠g) (hl:es.length<=1000) (cb:goI t es=some i0) :
  Calls Tryz.prog 197 #[.slice (some ⟨g,0,none⟩) es.length cap,.func (.func 198) #[] #[.pointer (some ⟨bn,0,none⟩)]] w fun e w'=>e=.returned (.slice (some ⟨g,0,none⟩) (Ck t es).length cap)/\
   w'.ownsRow B 33 4 (.slice (some ⟨g,0,none⟩) (Ck t es).length cap) (Ck t es).length ((Ck t es).flatMap anC)/\w.grownBy w' (some g):=by
 obtain⟨x0,ct,er,ej⟩:=Lx cb;have cg:i0<es.length:=(List.getElem?_eq_some_iff.1 ct).1;obtain⟨A1,c1,e1,bb,ea,cw⟩:=Bq BI ho;injection e1 with e1 _ e2;subst e1 e2;have ec:g<w.heap.size:=(World.ownsRow.lt ho g rfl).2;have cP:B<=g:=(World.ownsRow.lt ho g rfl).1;have CI:=Um es t bn (some ⟨g,0,none⟩) cap w.heap.size w cw Ag ht cd hl;rw[cb,show goN (some i0)=(i0:Int) from rfl] at CI;obtain⟨n,en⟩:=Ak (es.length);have EN:=I en;rw[<-en] at CI hl cg bb⊢;have cT:bn<w.heap.size:=World.block_lt_of_cell? w _ ht;have CD:=I (fun(x:An) (w1:World) (h:w.grownBy w1 (some g)) (hx:Tm x.t)=>Yh x t bn w1 (h.cell ht (by intro e;injection e with e;exact cB e)) cd.1 hx);have M:=I ho;have ed:=I cg;have HF:=I (OA cb);have HL:=I hl;have cx:=I bb;have ey:=I ec;have ez:=I cP;have ev:=I ea;have t0:((i0:Int) == -1)=false:=by simp
 obtain⟨iE,ef,cy,eo,et⟩:=info_parts Yg;have cQ:(Value.agg (anA ⟨([],[]),0,0⟩)).cells.size=4:=FZ _;have cL:∀u∈(Value.agg (anA ⟨([],[]),0,0⟩)).cells.toList,u.oneCell'=true:=by
  intro u hu;rw[show(Value.agg (anA ⟨([],[]),0,0⟩)).cells=anA ⟨([],[]),0,0⟩ from rfl,Ga] at hu;exact Lw _ u hu
 have ek:=I (fun(w1:World) (ty:TypeId) (o m c:Nat) (h:w1.there g o (m*4))=>MT Tryz.prog w1 126 33 ty iE _ 4 Tryz.underlying126 ef cy cQ cL (by decide) g o m c h);have ep:=I cd.2;clear ho cw ht cd cT en er ej ct x0 cb ec cP cB ea bb ef cy eo et cQ cL hB;go_enter Tryz.func197,Tryz.ntmps197
 go_wp2_with (first
  |(go_at_call 242;refine Aj CI ?_;rintro w1 O;have Z:=I (Dh O (some g));replace M:=I (BU M.o O);clear O CI)
  |fail)
 go_loopw [5,6] (fun iv jv wr=>∃(i j:Nat) (cs:List An),iv=.int .i64 (i:Int)/\jv=.int .i64 (j:Int)/\i<j/\j<=n/\cs.length=n/\cs.take i=Ck t (es.take j)/\(∀q,j<=q->cs[q]? = es[q]?)/\wr.ownsRow B 33 4 (.slice (some ⟨g,0,none⟩) cs.length cap) cs.length (cs.flatMap anC)/\w.grownBy wr (some g)) (fun _ jv _=>n - (intOf jv).toNat)
 case atStart=>exact⟨i0,i0+1,es,rfl,by go_num,by omega,ed.o,EN.o.symm,HF.o.symm,fun q _=>rfl,M.o,Z.o⟩
 case round=>
  clear M Z HF ed;obtain⟨i,j,cs,rfl,rfl,ew,hj,bz,cY,bq,ho,hg⟩:=hrel;have M:=I ho;have Z:=I hg;have cc:=I cY;have cf:=I bq;have av:=I bz;clear ho hg cY bq bz
  by_cases hlt:j<n
  ·have e1:(j:Int)<(n:Int):=by omega
   have e2:(0:Int)<=(j:Int):=by omega
   have e3:(i:Int)<(n:Int):=by omega
   have e4:(0:Int)<=(i:Int):=by omega
   obtain⟨x,hx⟩:∃x,es[j]? = some x:=⟨es[j]'(by rw[<-EN.o];exact hlt),List.getElem?_eq_getElem _⟩;obtain⟨A1,c1,q1,_,_,hr⟩:=Bq BI M.o;injection q1 with q1 _ q2;subst q1 q2;have cR:cs[j]? = some x:=(cf.o j Ag).trans hx;obtain⟨g2,q3,_,cn⟩:=hr.at_ cR;injection q3 with q3;injection q3 with q3;subst q3;rw[<-Ga] at cn;have cq:=I cn;have cp:=JO;rw[<-FZ x] at cp;have aw:=I cp;have ca:=I (Oz x);have HX:=I hx;have CX:=I (fun w1 h=>CD.o x w1 h (ep.o x (List.mem_of_getElem? hx)));obtain⟨ds,cm⟩:=Ak (anA x);rw[<-cm] at cq aw CX ca;have bB:=I cm;have ck:=Kt (t:=t) hx;obtain⟨b,eb⟩:=Ak (old t x.t);rw[<-eb] at CX ck;have cM:=I ck;obtain⟨m,em⟩:=Ak (cs.length);have EM:=I em;clear cn cp hx cm eb hr cR ck;cases b with
   |true=>
    go_wp2_with (first
     |(refine Wh.AF (by rfl) 33 (.tmp 24) (by rfl) g _ (by rfl) ds _ cq.o Tryz.underlying33 (by rfl) aw.o ?_)
     |(refine Wh.Bc (by rfl) 33 (.tmp 7) (.tmp 25) (by rfl) 33 rfl ds (by rfl) (by rfl) (by rw[bB.o,FZ];rfl) aw.o ca.o ?_;rintro V hV O;have HV:=I hV;replace M:=I (BU M.o O);replace Z:=I (IX Z.o O);clear hV O)
     |(refine Wh.AF (by rfl) 33 (.tmp 7) (by rfl) _ 0 (by rfl) ds _ (Wh.Ad HV.o) Tryz.underlying33 (by rfl) aw.o ?_)
     |(go_at_call 198;refine Aj (CX.o _ Z.o) ?_;rintro w1 O;replace M:=I (BU M.o O);replace Z:=I (IX Z.o O);clear O)
     |fail)
    go_roundw
    case rel=>exact⟨i,j+1,cs,rfl,by go_num,by omega,by omega,av.o,by rw[cM.o];simpa using cc.o,fun q hq=>cf.o q (by omega),M.o,Z.o⟩
    case measure=>simp [intOf];omega
   |false=>
    have ei:=I (fun(w1:World) (h:w1.ownsRow B 33 4 (.slice (some ⟨g,0,none⟩) cs.length cap) cs.length (cs.flatMap anC))=>JN h (i*4) 4 (by have:=av.o;omega));have eg:=I (fun(w1:World) (h:w1.ownsRow B 33 4 (.slice (some ⟨g,0,none⟩) cs.length cap) cs.length (cs.flatMap anC))=>Uk BI h (show i<cs.length by have:=av.o;omega) x);rw[<-Ga,<-bB.o] at eg
    go_wp2_with (first
     |(refine Wh.AF (by rfl) 33 (.tmp 24) (by rfl) g _ (by rfl) ds _ cq.o Tryz.underlying33 (by rfl) aw.o ?_)
     |(refine Wh.Bc (by rfl) 33 (.tmp 7) (.tmp 25) (by rfl) 33 rfl ds (by rfl) (by rfl) (by rw[bB.o,FZ];rfl) aw.o ca.o ?_;rintro V hV O;have HV:=I hV;replace M:=I (BU M.o O);replace Z:=I (IX Z.o O);clear hV O)
     |(refine Wh.AF (by rfl) 33 (.tmp 7) (by rfl) _ 0 (by rfl) ds _ (Wh.Ad HV.o) Tryz.underlying33 (by rfl) aw.o ?_)
     |(go_at_call 198;refine Aj (CX.o _ Z.o) ?_;rintro w1 O;replace HV:=I (HV.o.below O);replace M:=I (BU M.o O);replace Z:=I (IX Z.o O);clear O)
     |(refine wpList_store_mid (by rfl) 33 (.tmp 33) (.tmp 32) (by rfl) g (i*4) ds (by rfl) (by rfl) (by rw[bB.o,FZ];exact ei.o _ M.o) aw.o ca.o ?_;replace M:=I (eg.o _ M.o);replace Z:=I (Wh.Fh (.inl rfl) ds.toList (i*4) _ Z.o))
     |fail)
    go_roundw
    case rel=>exact⟨i+1,j+1,cs.set i x,by go_num,by go_num,by omega,by omega,by rw[List.length_set];exact av.o,by rw[cM.o,WN _ _ _ (by have:=av.o;omega),cc.o];simp,fun q hq=>by rw[List.getElem?_set_ne (by omega)];exact cf.o q (by omega),by rw[List.length_set];exact M.o,Z.o⟩
    case measure=>simp [intOf];omega
  ·have e1:¬(j:Int)<(n:Int):=by omega
   obtain rfl:n=j:=by omega
   have e4:(0:Int)<=(i:Int):=by omega
   have cj:=fun(vs:List Value) (h:vs.length=(n - i)*4)=>Ul BI M.o (show i<=cs.length by have:=av.o;omega) vs (by have:=av.o;omega)
   obtain⟨vs,cu,bz⟩:=ek.o wr 0 (i*4) (n - i) (cap - i) (JN M.o _ _ (by have:=av.o;omega));have cr:=cj vs cu;have cA:=Wh.Fh (row:=some g) (g:=g) (.inl rfl) vs (i*4) _ Z.o;have bx:List.take i cs=Ck t es:=by rw[cc.o,List.take_of_length_le (by rw[<-EN.o];exact Nat.le_refl _)]
   have cX:(Ck t es).length=i:=by rw[<-bx,List.length_take];have:=av.o;omega
   rw[bx] at cr;have e5:(i:Int)<=(n:Int):=by omega
   have e6:(n:Int)<=(cap:Int):=by have:=cx.o;omega
   have eu:∀ty,(Builtin.clear_ #[126] ty #[.slice (some ⟨g,i*4,none⟩) (n - i) (cap - i)]).run Tryz.prog wr=.ok (.tuple #[]) (wr.setCells g (i*4) vs):=fun _=>bz
   have H1:=I cr;have H2:=I cA;have H3:=I cX;clear cr cA bx cX bz cj cu M Z cc cf
   go_wp2
   go_ret;exact⟨by rw[H3.o];rfl,by rw[H3.o];exact H1.o,H2.o⟩
theorem WO (es:List An) (t:Int) (bn B:Nat) (v:Value) (w:World) (O:w.ownsRow B 33 4 v es.length (es.flatMap anC)) (hB:B<=w.heap.size) (ht:w.cell? ⟨bn,0,none⟩=some (.int .i64 t)) (M:Tm t/\∀a∈es,Tm a.t)
  (Z:v.ownBlock≠some bn) (hl:es.length<=1000) :
  Calls Tryz.prog 197 #[v,.func (.func 198) #[] #[.pointer (some ⟨bn,0,none⟩)]] w fun e w'=>∃v',e=.returned v'/\
   w'.ownsRow B 33 4 v' (Ck t es).length ((Ck t es).flatMap anC)/\w.grownBy w' v.ownBlock/\v'.ownBlock=v.ownBlock:=by
 cases hi:goI t es with
 |none=>
  have he:=QT hi;obtain⟨A,c,rfl,_,_,hr⟩:=Bq BI O;have CI:=Um es t bn A c w.heap.size w hr Ag ht M hl;rw[hi,show goN none = -1 from rfl] at CI;have HO:=I O;rw[he];obtain⟨n,en⟩:=Ak (es.length);rw[<-en] at CI HO⊢;clear hi ht M Z hl hr he en O;go_enter Tryz.func197,Tryz.ntmps197
  go_wp2_with (first
   |(go_at_call 242;refine Aj CI ?_;rintro w1 hb;have HB:=I hb;clear hb CI)
   |fail)
  go_ret;exact⟨_,rfl,BU HO.o HB.o,Dh HB.o _,rfl⟩
 |some i0=>
  rcases O.2 with⟨rfl,h2⟩ | ⟨g,cap,cur,rfl,_⟩
  ·obtain⟨x,hx,_⟩:=Lx hi
   have:=(List.getElem?_eq_some_iff.1 hx).1;omega
  ·refine(Un es t bn g cap B i0 w O hB ht M (fun e=>Z (e▸rfl)) hl hi).mono ?_
   rintro e w' ⟨rfl,h1,h2⟩;exact⟨_,rfl,h1,h2,rfl⟩
end Rp
namespace Rp
open Go.RowKit Af Se
open Ms (An)
open Rg (RdR Bq Bt)
theorem dm (x y:An) (w:World):(Op.equalIn 10000 33 (.agg (anA x)) (.agg (anA y))).run Tryz.prog w=.ok (decide (x=y)) w:=by
 obtain⟨⟨a,b⟩,c,d⟩:=x;obtain⟨⟨Z,O⟩,c',M⟩:=y
 by_cases h0:a=Z
 ·subst h0
  by_cases h1:b=O
  ·subst h1
   by_cases h2:c=c'
   ·subst h2
    by_cases h3:d=M
    ·subst h3
     rw[decide_eq_true rfl]
     go_simp
    ·rw[decide_eq_false (fun h=>h3 (congrArg (fun z=>z.q) h))]
     go_simp
   ·rw[decide_eq_false (fun h=>h2 (congrArg (fun z=>z.t) h))]
    go_simp
  ·rw[decide_eq_false (fun h=>h1 (congrArg (fun z=>z.c.2) h))]
   go_simp
 ·rw[decide_eq_false (fun h=>h0 (congrArg (fun z=>z.c.1) h))]
  go_simp
def ixA (a:An) (l:List An):Int:=match l.findIdx? (fun x=>decide (a=x)) with
 |none=>-1
 |some i=>(i:Int)
theorem dn (a:An) (l:List An):decide (0<=ixA a l)=decide (a∈l):=by
 unfold ixA;refine decide_eq_decide.2 ?_;cases h:l.findIdx? (fun x=>decide (a=x)) with
 |none=>
  refine⟨fun x=>by simp at x,fun x=>?_⟩;have:=List.findIdx?_eq_none_iff.1 h a x;simp at this
 |some i=>
  obtain⟨O,M,_⟩:=List.findIdx?_eq_some_iff_getElem.1 h;refine⟨fun _=>?_,fun _=>by simp⟩;rw[of_decide_eq_true M];exact List.getElem_mem _
theorem WQ {a:An} {l:List An} {i:Nat} {x:An} (hx:l[i]? = some x) (hd:decide (a=x)=true) (M:∀j y,j<i->l[j]? = some y->decide (a=y)=false):ixA a l=(i:Int):=by
 obtain⟨Z,O⟩:=List.getElem?_eq_some_iff.1 hx;rw[ixA,List.findIdx?_eq_some_iff_getElem.2 ⟨Z,by rw[O];exact hd,fun j hj=>by
  rw[M j _ hj (List.getElem?_eq_getElem (by omega))];simp⟩]
theorem WR {a:An} {l:List An} (Z:∀j y,j<l.length->l[j]? = some y->decide (a=y)=false):ixA a l = -1:=by
 rw[ixA,List.findIdx?_eq_none_iff.2 fun x hx=>?_];obtain⟨j,M,O⟩:=List.getElem_of_mem hx;exact Z j x M (by rw[<-O];exact List.getElem?_eq_getElem M)
theorem WS (l:List An) (a:An) (A:Option Addr) (c B:Nat) (w:World) (hr:RdR w B A anC 4 l) (hB:B<=w.heap.size) (hl:l.length<=1000) :
  Calls Tryz.prog 243 #[.slice A l.length c,.agg (anA a)] w fun e w'=>e=.returned (.int .i64 (ixA a l))/\Below w.heap.size w w':=by
 obtain⟨n,en⟩:=Ak (l.length);have EN:=I en;rw[<-en] at hl⊢;obtain⟨W,eW⟩:=Ak (w.alloc (.cells (anA a) 33));have hb:Below w.heap.size w W:=eW▸Ah.alloc Ag _;have O:=I (show Blk W w.heap.size 33 (anA a) by rw[eW];exact Blk.new _ _ _);have HB:=I hb;have HR:=I (hr.keep (hb.mono hB));have aw:=I hB;clear hr en hB hb;go_enter Tryz.func243,Tryz.ntmps243
 go_upto_region 1 with fail
 rw[<-eW];clear eW
 go_wp2
 go_loopw [8] (fun iv wr=>∃i:Nat,i<=n/\iv=.int .i64 (i:Int)/\Below w.heap.size w wr/\RdR wr B A anC 4 l/\Blk wr w.heap.size 33 (anA a)/\∀j x,j<i->l[j]? = some x->decide (a=x)=false) (fun iv _=>n - (intOf iv).toNat)
 case atStart=>exact⟨0,Nat.zero_le _,rfl,HB.o,HR.o,O.o,fun j x hj=>absurd hj (Nat.not_lt_zero _)⟩
 case round=>
  clear HB HR O;obtain⟨i,hi,rfl,hb,hr,hk,av⟩:=hrel;have HB:=I hb;have Z:=I av;have HR:=I hr;have O:=I hk;clear hb av hr hk
  by_cases hlt:i<n
  ·have e1:(i:Int)<(n:Int):=by omega
   have e2:(0:Int)<=(i:Int):=by omega
   obtain⟨x,hx⟩:∃x,l[i]? = some x:=⟨l[i]'(by rw[<-EN.o];exact hlt),List.getElem?_eq_getElem _⟩;obtain⟨g,rfl,bn,M⟩:=HR.o.at_ hx;have HX:=I hx;have bb:=I M;have q:=dm a x;obtain⟨b,eb⟩:=Ak (decide (a=x));rw[<-eb] at q;have EB:=I eb;have k0:=O.o.cell 0;have k1:=O.o.cell 1;have k2:=O.o.cell 2;have k3:=O.o.cell 3;have x0:wr.cell? ⟨g,i*4,none⟩=some _:=M 0 _ rfl;have x1:=M 1 _ rfl;have x2:=M 2 _ rfl;have x3:=M 3 _ rfl;clear M hx eb;cases b with
   |true=>
    go_wp2
    go_quiet (fail)
    go_wp2
    go_ret;exact⟨by rw[WQ HX.o EB.o.symm Z.o];rfl,below_drewN HB.o _⟩
   |false=>
    go_wp2
    go_quiet (fail)
    go_wp2
    go_roundw
    case rel=>exact⟨i+1,by omega,by go_num,below_drewN HB.o _,HR.o.keep (below_drewN Ah _),O.o.below (below_drewN Ah _),fun j y hj hy=>by
     rcases Nat.lt_or_eq_of_le (Nat.le_of_lt_succ hj) with g | g
     ·exact Z.o j y g hy
     ·rw[g,HX.o] at hy
      injection hy with hy;rw[<-hy];exact EB.o.symm⟩
    case measure=>simp [intOf];omega
  ·have e1:¬(i:Int)<(n:Int):=by omega
   obtain rfl:n=i:=by omega
   go_wp2
   go_ret;exact⟨by rw[WR (fun j y hj hy=>Z.o j y (by rw[EN.o];exact hj) hy)];rfl,HB.o⟩
theorem Ly (l:List An) (a:An) (A:Option Addr) (c B:Nat) (w:World) (hr:RdR w B A anC 4 l) (hB:B<=w.heap.size) (hl:l.length<=1000) :
  Calls Tryz.prog 200 #[.slice A l.length c,.agg (anA a)] w fun e w'=>e=.returned (.bool (decide (a∈l)))/\Below w.heap.size w w':=by
 have E:=I (dn a l);obtain⟨W,O⟩:=Ak (w.alloc (.cells (anA a) 33));have M:Below w.heap.size w W:=O▸Ah.alloc Ag _;have hk:Blk W w.heap.size 33 (anA a):=by rw[O];exact Blk.new _ _ _
 have c1:=WS l a A c B W (hr.keep (M.mono hB)) (Nat.le_trans hB M.size) hl;obtain⟨z,Z⟩:=Ak (ixA a l);rw[<-Z] at c1;have EZ:=I Z;have HB:=I M;have k0:=hk.cell 0;have k1:=hk.cell 1;have k2:=hk.cell 2;have k3:=hk.cell 3;clear Z hr M hk;go_enter Tryz.func200,Tryz.ntmps200
 go_upto_region 1 with fail
 rw[<-O];clear O
 go_wp2_with (go_at_call 243;refine Aj c1 ?_;rintro w1 M;replace HB:=HB.t M;clear M)
 go_ret;exact⟨by rw[<-E.o,<-EZ.o];rfl,HB.o⟩
section
variable {P:Program} {a:Act} {w w':World} {ty:TypeId} {dst:Option Tmp} {pos:String} {after:Array _} {guard:Option (Nat×Bool)}
theorem Cl {t:TypeId} {x:Operand} {cs:Array Value} {s:Value} (M:a.eval x=.agg cs) (h:(Instr.buildSlice t 1 #[(0,.agg cs)]).run P w=.ok s w'):(execOp a.eval ⟨dst,.buildSlice t 1 #[(0,x)],ty,pos,after,guard⟩).run P w=.ok (.value s) w':=by
 simp only[execOp,Sem.run_bind,List.map_toArray,List.map_cons,List.map_nil,M,h,Result.andThen_ok,Sem.run_pure]
theorem DG {t:TypeId} {x y:Operand} {u v s:Value} (O:a.eval x=u) (M:a.eval y=v) (h:(Builtin.append_ #[t,t] ty #[u,v]).run P w=.ok s w'):(execOp a.eval ⟨dst,.call {callee:=.builtin .append,args:=#[x,y],argTypes:=#[t,t]},ty,pos,after,guard⟩).run P w=.ok (.value s) w':=by
 simp only[execOp,resolve,invoke,builtin,Sem.run_bind,Sem.run_pure,Result.andThen_ok,List.map_toArray,List.map_cons,List.map_nil,O,M,h]
end
theorem Ih {w w':World} {row:Option Nat} (h:w.grownBy w' row):Chg (fun q=>row=some q) w w':=⟨h.os,h.tape,h.output,h.size,fun i hi M=>h.block i hi (fun e=>M e.symm)⟩
structure Stp (w w':World) (B r:Nat) (v v':Value) (on:Bool) (st:Int) (l:List An):Prop where
 rp:Rp w' B r v' on st l
 chg:Chg (RO r v) w w'
 new:∀q,RO r v' q->RO r v q\/w.heap.size<=q
section
variable {w w0 w1 W w2 w5 w6:World} {B r:Nat} {v v1 v2 v6:Value} {on:Bool} {st:Int} {l l1 l2:List An}
theorem Stp.refl (h:Rp w B r v on st l):Stp w w B r v v on st l:=⟨h,Chg.refl _ _,fun q M=>.inl M⟩
theorem Stp.trans {on2:Bool} {st2:Int} (h:Stp w w1 B r v v1 on st l1) (k:Stp w1 w2 B r v1 v2 on2 st2 l2):Stp w w2 B r v v2 on2 st2 l2:=
 ⟨k.rp,h.chg.trans k.chg (fun q M x=>by
  rcases h.new q x with g | g
  ·exact g
  ·omega),fun q M=>by
  rcases k.new q M with g | g
  ·exact h.new q g
  ·exact .inr (Nat.le_trans h.chg.size g)⟩
theorem Stp.below (h:Stp w w1 B r v v1 on st l1) (M:Below w1.heap.size w1 w2):Stp w w2 B r v v1 on st l1:=
 h.trans ⟨h.rp.below M,Chg.of_below M,fun q O=>.inl O⟩
theorem ax (h:Rp W B r v on st l) (hg:W.grownBy w2 v.ownBlock) (ho:w2.ownsRow B 33 4 v1 l1.length (l1.flatMap anC)) (Z:v1.ownBlock=v.ownBlock) (hs:∀x∈l1,x∈l) :
  Stp W (w2.setCell ⟨r,0,none⟩ v1) B r v v1 on st l1:=by
 have M:Chg (fun q=>q=r) w2 (w2.setCell ⟨r,0,none⟩ v1):=Chg.set (p:=⟨r,0,none⟩) (Chg.refl (fun q=>q=r) w2) (.inl rfl) v1;have hc:Chg (RO r v) W (w2.setCell ⟨r,0,none⟩ v1):=((Ih hg).mono (fun q _ x=>.inr x)).trans M (fun q _ x=>.inl x);have O:v1.ownBlock≠some r:=by rw[Z];exact h.vr
 exact⟨⟨(h.blk.grown hg h.vr).set 0 v1,Bt M ho (fun k hk x=>O (x▸hk)),h.lo,O,fun y hy=>h.tm y (hs y hy)⟩,hc,fun q hq=>.inl (hq.imp id (fun x=>Z▸x))⟩
theorem Yi {e:An} (h5:Rp w5 B r v on st l1) (ht:Tm e.t) (ho:w6.ownsRow B 33 4 v6 (l1++[e]).length ((l1++[e]).flatMap anC)) (hg:w5.grownBy w6 v.ownBlock) (hv:v6.ownBlock=v.ownBlock\/v6.ownBlock=some w5.heap.size) :
  Stp w5 (w6.setCell ⟨r,0,none⟩ v6) B r v v6 on st (l1++[e]):=by
 have M:Chg (fun q=>q=r) w6 (w6.setCell ⟨r,0,none⟩ v6):=Chg.set (p:=⟨r,0,none⟩) (Chg.refl (fun q=>q=r) w6) (.inl rfl) v6;have aw:Chg (RO r v) w5 (w6.setCell ⟨r,0,none⟩ v6):=((Ih hg).mono (fun q _ x=>.inr x)).trans M (fun q _ x=>.inl x);have bb:=h5.lt;have av:v6.ownBlock≠some r:=fun x=>by
  rcases hv with g | g
  ·rw[g] at x;exact h5.vr x
  ·rw[g] at x;injection x with x;omega
 refine⟨⟨(h5.blk.grown hg h5.vr).set 0 v6,Bt M ho (fun k hk x=>av (x▸hk)),h5.lo,av,fun y Z=>?_⟩,aw,fun q O=>?_⟩
 ·rcases List.mem_append.1 Z with Z | Z
  ·exact h5.tm y Z
  ·rw[List.mem_singleton] at Z;exact Z▸ht
 ·rcases O with O | O
  ·exact .inl (.inl O)
  ·rcases hv with g | g
   ·exact .inl (.inr (g▸O))
   ·rw[g] at O;injection O with O;exact .inr (by omega)
end
theorem ay {w w1 w2:World} {B r M:Nat} {v v1:Value} {on:Bool} {st:Int} {l:List An} (h:Stp w w1 B r v v1 on st l) (Z:Chg (fun q=>q=M) w1 w2) (hn:∀q,RO r v1 q->¬q=M) (hN:w.heap.size<=M):Stp w w2 B r v v1 on st l:=
 ⟨h.rp.chg Z hn,h.chg.trans Z (fun q O x=>absurd hN (by subst x;omega)),fun q O=>h.new q O⟩
theorem Uo (B r:Nat) (v:Value) (on:Bool) (st:Int) (l:List An) (a:An) (now:Int) (w:World) (h:Rp w B r v on st l) (hs:Tm st) (ha:Tm a.t) (hn:Tm now) (h1:a.c.1.length<=140737488351232) (h2:a.c.2.length<=140737488351232) (hl:l.length<=1000) :
  Calls Tryz.prog 143 #[.pointer (some ⟨r,0,none⟩),.agg (anA a),.int .i64 now] w fun e w'=>e=.returned (.int .i64 (seeE on st l a now))/\∃v',Stp w w' B r v v' on st (seeL on st l a now):=by
 obtain⟨W,eW⟩:=Ak ((w.alloc (.cells (anA a) 33)).alloc (.cells #[.int .i64 now] 3));have hb:Below w.heap.size w W:=eW▸(Ah.alloc Ag _).alloc (by simp) _;have cx:Blk W w.heap.size 33 (anA a):=eW▸(Blk.new w _ _).alloc _;have cq:Blk W (w.heap.size+1) 3 #[.int .i64 now]:=by
  have:=Blk.new (w.alloc (.cells (anA a) 33)) 3 #[.int .i64 now];simp only[World.size_alloc] at this;exact eW▸this
 have cf:=h.below hb;have cr:∀k,w.heap.size<=k->v.ownBlock≠some k:=fun k hk x=>by have:=(World.ownsRow.lt h.row _ x).2;omega
 have ck:=I (show ∀k,w.heap.size<=k->k≠r from fun k hk x=>by have:=h.lt;omega);have cM:=I cr;have C1:=I (fun w1 (hk:Blk w1 r 177 #[v,.bool on,.int .i64 st])=>QS r v on st a.t now w1 hk ha hn hs);have CD:=WO l now (w.heap.size+1) B v W cf.row cf.big (cq.cell 0) ⟨hn,h.tm⟩ (cr _ (by omega)) hl;have CP:=I (fun(w1:World)=>Ca.WK a.c w1 h1 h2);have bq:=I (⟨cf,Chg.of_below hb,fun q hq=>.inl hq⟩:Stp w W B r v v on st l);have O:=I cx;have ec:=I ha;obtain⟨l1,el⟩:=Ak (Ck now l);have EL:=I el;obtain⟨iE,cL,ct,cw,eg⟩:=info_parts Yg;have cX:=I cL;have ea:=I ct;have cR:=I cw;have ei:=I eg;have cB:=I (fun(w1:World)=>Wh.Fj (P:=Tryz.prog) w1 126 33 (anA a) iE _ Tryz.underlying126 cL ct (by rw[cw];rfl) (by simp) (by simp));have er:=I hl;have ka:=cx.cell 2;have kn:=cq.c0;obtain⟨b0,e0⟩:∃b,b=skw on st a.t now:=⟨_,rfl⟩;rw[<-e0] at C1;have E0:=I e0;clear hb cx cq cr h hs ha hn h1 h2 hl cL ct cw eg e0;cases b0 with
 |true=>
  clear CD CP cB O;go_enter Tryz.func143,Tryz.ntmps143
  go_upto_region 1 with fail
  rw[<-eW];clear eW
  go_wp2_with (first
   |(go_at_call 196;refine Aj (C1.o _ bq.o.rp.blk) ?_;rintro w1 hw;subst hw;clear C1)
   |fail)
  go_ret;exact⟨by rw[seeE,if_pos E0.o.symm];rfl,v,by rw[seeL,if_pos E0.o.symm];exact bq.o⟩
 |false=>
  obtain⟨A0,c0,ev,_,_,_⟩:=cf.num;obtain⟨n,en⟩:=Ak (l.length);have k0:W.cell? ⟨r,0,none⟩=some (.slice A0 n c0):=by rw[en,<-ev];exact cf.blk.cell 0
  have EV:=I (show v=.slice A0 n c0 by rw[en];exact ev);have cY:=EV.o;rw[<-el] at CD;rw[cY] at CD;have ej:=I (fun x hx=>Ww (a:=x) (el▸hx):∀x∈l1,x∈l);clear en ev cf el cY;go_enter Tryz.func143,Tryz.ntmps143
  go_upto_region 1 with fail
  rw[<-eW];clear eW
  go_upto_region 6 with(first
   |(go_at_call 196;refine Aj (C1.o _ bq.o.rp.blk) ?_;rintro w1 hw;subst hw;clear C1)
   |(go_at_call 197;refine Calls.mono CD ?_;rintro e w2 ⟨v1,rfl,ho,hg,hv⟩;obtain⟨A1,c1,rfl,_⟩:=Bq BI ho;rw[<-EV.o] at hg hv;have HG:=I hg;have HV:=I hv;have HO:=I ho;clear hg hv ho CD k0;have cP:=bq.o.rp.blk.grown HG.o bq.o.rp.vr;have f0:=cP.frozen 0;have k0:=cP.c0;clear cP)
   |fail)
  obtain⟨m,em⟩:=Ak (l1.length);have EM:=I em;have hm:m<=1000:=by have:=ZS now l;have:=er.o;rw[em,EL.o];omega
  have cp:=bq.o.trans (ax bq.o.rp HG.o HO.o HV.o ej.o);rw[<-em] at cp HV⊢;have HP:=I cp.rp;replace O:=I (Si.Blk.far (O.o.grown HG.o (cM.o _ Ag)) ⟨r,0,none⟩ (.slice A1 m c1) (fun x=>ck.o _ Ag x.symm));obtain⟨W3,ef⟩:=Ak (w2.setCell ⟨r,0,none⟩ (.slice A1 m c1));rw[<-ef] at cp HP O⊢;have Z:=I cp;have bx:Below W3.heap.size W3 W3.drew:=below_drewN Ah 1;replace Z:=I (Z.o.below bx);replace HP:=I Z.o.rp;replace O:=I (O.o.below bx);have CC:=I (show ∀w1:World,Rp w1 B r (.slice A1 m c1) on st l1->Calls Tryz.prog 200 #[.slice A1 m c1,.agg (anA a)] w1 fun e w'=>e=.returned (.bool (decide (a∈l1)))/\Below w1.heap.size w1 w' from fun w1 h=>by
   obtain⟨A2,c2,e2,_,_,hr⟩:=h.num;injection e2 with q1 _ q2;have:=Ly l1 a A1 c1 w1.heap.size w1 (q1▸hr) Ag (by rw[<-EM.o];exact hm);rw[<-EM.o] at this;exact this)
  have cQ:=I (show ∀k,RO r (.slice A1 m c1) k->k=w.heap.size->False from fun k hk e=>by
   rcases hk with hk | hk
   ·exact ck.o k (by omega) hk
   ·rw[HV.o] at hk;exact cM.o k (by omega) hk)
  clear cp bx em ef f0 k0 HG HV HO bq ka kn;obtain⟨b1,e1⟩:∃b,b=decide (a∈l1):=⟨_,rfl⟩;rw[<-e1] at CC;have E1:=I e1;obtain⟨NB,cA⟩:=Ak (w.heap.size);have ed:=I (show NB≠r from ck.o _ (by omega));have et:Hid (Value.ownBlock (.slice A1 m c1)=some NB->False\/True):=I (fun _=>.inr trivial);have ew:=I (show NB<W3.drew.heap.size from by rw[cA];exact O.o.lt);rw[<-cA] at O⊢;have eu:=I (show ∀k,NB<=k->k≠r from fun k hk=>ck.o k (by omega));have cy:=I (show ∀q,RO r (.slice A1 m c1) q->¬q=NB from fun q hq e=>cQ.o q hq (by omega));have eo:=I (show w.heap.size<=NB by omega);clear e1 hm ck cM et cQ cA;cases b1 with
  |true=>
   refine Reg.BR (fun w'=>Blk w' r 177 #[.slice A1 m c1,.bool on,.int .i64 st]/\Blk w' NB 33 (anA a)) 6 rfl (by kernel_rfl) ⟨HP.o.blk,O.o⟩ ?_;refine Reg.ty 0 rfl ⟨HP.o.blk,O.o⟩ ?_;refine Reg.ty 1 rfl ⟨HP.o.blk,O.o⟩ ?_;refine Reg.ty 2 rfl ⟨HP.o.blk,O.o⟩ ?_;refine Reg.tw 3 rfl ⟨HP.o.blk,O.o⟩ (fun w' hS=>by(have kq:=hS.1.c0;go_simp<;>rfl)) ?_;refine Reg.tw 4 (v:=.agg (anA a)) rfl ⟨HP.o.blk,O.o⟩ (fun w' hS=>by exact Wh.BG (.tmp 4) rfl rfl hS.2 Tryz.underlying33 rfl JO) ?_;refine Reg.b1 5 ?_
   right
   refine⟨_,_,_,_,_,_,200,#[.slice A1 m c1,.agg (anA a)],rfl,by rfl,by go_simp,?_⟩;refine(CC.o _ HP.o).mono ?_;rintro e WB ⟨rfl,hb⟩;replace Z:=I (Z.o.below hb);replace HP:=I Z.o.rp;replace O:=I (O.o.below hb);clear hb;refine⟨_,rfl,⟨HP.o.blk,O.o⟩,?_⟩;simp only[Act.put,U,Aa,Ab];refine wpAnyH_done (by kernel_rfl) ?_ _
   go_wp2
   go_ret;have hk:a∈Ck now l:=by rw[<-EL.o];exact of_decide_eq_true E1.o.symm
   exact⟨by rw[seeE,if_neg (by rw[<-E0.o];simp),if_pos hk];rfl,_,by rw[seeL,if_neg (by rw[<-E0.o];simp),if_pos (.inl hk),<-EL.o];exact Z.o⟩
  |false=>
   refine Reg.BR (fun w'=>Blk w' r 177 #[.slice A1 m c1,.bool on,.int .i64 st]/\Blk w' NB 33 (anA a)) 6 rfl (by kernel_rfl) ⟨HP.o.blk,O.o⟩ ?_;refine Reg.ty 0 rfl ⟨HP.o.blk,O.o⟩ ?_;refine Reg.ty 1 rfl ⟨HP.o.blk,O.o⟩ ?_;refine Reg.ty 2 rfl ⟨HP.o.blk,O.o⟩ ?_;refine Reg.tw 3 rfl ⟨HP.o.blk,O.o⟩ (fun w' hS=>by(have kq:=hS.1.c0;go_simp<;>rfl)) ?_;refine Reg.tw 4 (v:=.agg (anA a)) rfl ⟨HP.o.blk,O.o⟩ (fun w' hS=>by exact Wh.BG (.tmp 4) rfl rfl hS.2 Tryz.underlying33 rfl JO) ?_;refine Reg.b1 5 ?_
   right
   refine⟨_,_,_,_,_,_,200,#[.slice A1 m c1,.agg (anA a)],rfl,by rfl,by go_simp,?_⟩;refine(CC.o _ HP.o).mono ?_;rintro e WB ⟨rfl,hb⟩;replace Z:=I (Z.o.below hb);replace HP:=I Z.o.rp;replace O:=I (O.o.below hb);clear hb;refine⟨_,rfl,⟨HP.o.blk,O.o⟩,?_⟩;simp only[Act.put,U,Aa,Ab];refine wpAnyH_done (by kernel_rfl) ?_ _;clear CC
   by_cases hfull:8<=m
   ·have t1:decide ((8:Int)<=(m:Int))=true:=decide_eq_true (by omega)
    have kr:WB.cell? ⟨r,0,none⟩=some (.slice A1 m c1):=HP.o.blk.cell 0;have HF:=I hfull;clear hfull
    go_wp2
    go_ret;have hk:¬a∈Ck now l:=by rw[<-EL.o];exact of_decide_eq_false E1.o.symm
    have hf:8<=(Ck now l).length:=by rw[<-EL.o,<-EM.o];exact HF.o
    exact⟨by rw[seeE,if_neg (by rw[<-E0.o];simp),if_neg hk,if_pos hf];rfl,_,by rw[seeL,if_neg (by rw[<-E0.o];simp),if_pos (.inr hf),<-EL.o];exact Z.o⟩
   ·have t1:decide ((8:Int)<=(m:Int))=false:=decide_eq_false (by omega)
    have kr:WB.cell? ⟨r,0,none⟩=some (.slice A1 m c1):=HP.o.blk.cell 0;have HF:=I hfull;clear hfull
    go_upto_region 10 with fail
    clear kr t1;have q0:=O.c0;have q1:=O.c1
    go_upto_region 11 with(first
     |(go_at_call 68;refine Aj (CP.o _) ?_;rintro bn hb;clear CP q0 q1;replace Z:=I (Z.o.below hb);replace HP:=I Z.o.rp;replace O:=I (O.o.below hb);clear hb;have q0:=O.o.cell 0;have q1:=O.o.cell 1;have ek:=O.o.frozen 0;have ep:=O.o.frozen 1)
     |fail)
    have eb:Blk ((bn.setCell ⟨NB,0,none⟩ (.string ⟨a.c.1.toArray⟩)).setCell ⟨NB,1,none⟩ (.string ⟨a.c.2.toArray⟩)) NB 33 (anA a):=(O.o.set 0 _).set 1 _;have cT:Chg (fun q=>q=NB) bn ((bn.setCell ⟨NB,0,none⟩ (.string ⟨a.c.1.toArray⟩)).setCell ⟨NB,1,none⟩ (.string ⟨a.c.2.toArray⟩)):=((Chg.refl (fun q=>q=NB) bn).set (p:=⟨NB,0,none⟩) (.inl rfl) _).set (p:=⟨NB,1,none⟩) (.inl rfl) _;clear q0 q1 ek ep;replace Z:=I (ay Z.o cT cy.o eo.o);replace HP:=I Z.o.rp;replace O:=I eb;obtain⟨M,cc⟩:=Ak (((bn.setCell ⟨NB,0,none⟩ (.string ⟨a.c.1.toArray⟩)).setCell ⟨NB,1,none⟩ (.string ⟨a.c.2.toArray⟩)));rw[<-cc] at Z HP O⊢;clear eb cT cc;have bx:Below M.heap.size M M.drew:=below_drewN Ah 1;replace Z:=I (Z.o.below bx);replace HP:=I Z.o.rp;replace O:=I (O.o.below bx);clear bx;refine Reg.BR (fun w'=>Blk w' NB 33 (anA a)) 11 rfl (by kernel_rfl) O.o ?_;refine Reg.ty 0 rfl O.o ?_;refine Reg.ty 1 rfl O.o ?_;refine Reg.ty 2 rfl O.o ?_;refine Reg.ty 3 rfl O.o ?_;refine Reg.tw 5 (v:=.agg (anA a)) rfl O.o (fun w' hS=>by exact Wh.BG (.tmp 4) rfl rfl hS Tryz.underlying33 rfl JO) ?_;refine Reg.b2 4 6 ?_ ?_
    ·left
     have kr:M.drew.cell? ⟨r,0,none⟩=some (.slice A1 m c1):=HP.o.blk.cell 0;refine⟨_,_,_,_,_,_,_,_,rfl,by rfl,by(go_simp;rfl),O.o,?_⟩;simp only[Act.put,U,Aa,Ab];clear kr;refine Reg.b1 6 ?_
     left
     have hb:Below M.drew.heap.size M.drew (M.drew.alloc (.cells (anA a) 33)):=Ah.alloc Ag _;refine⟨_,_,_,_,_,_,.slice (some ⟨M.drew.heap.size,0,none⟩) 1 1,(M.drew.alloc (.cells (anA a) 33)),rfl,by rfl,Cl rfl (cB.o _),O.o.below hb,?_⟩;simp only[Act.put,U,Aa,Ab];have ca:=I (Blk.new M.drew 33 (anA a));replace Z:=I (Z.o.below hb);replace HP:=I Z.o.rp;replace O:=I (O.o.below hb);clear hb;obtain⟨cu,cd⟩:=Ak ((M.drew.alloc (.cells (anA a) 33)));rw[<-cd] at ca Z HP O⊢;clear cd;refine Reg.b1 7 ?_
     left
     obtain⟨v6,w6,aw,bz,av,cn⟩:=Wh.FG (P:=Tryz.prog) anC 4 48 BI Lw cu 126 126 33 iE _ Tryz.underlying126 cX.o ea.o cR.o ei.o rfl (by omega) B (.slice A1 m c1) l1 HP.o.row a M.drew.heap.size ca.o (by have:=EM.o;have:=HF.o;omega) (by omega) HP.o.big;have bb:=Z.o.trans (Yi HP.o ec.o bz av cn);have bB:=HP.o.blk.grown av HP.o.vr;replace O:=I (O.o.grown av (fun x=>cy.o _ (.inr x) rfl));refine⟨_,_,_,_,_,_,v6,w6,rfl,by rfl,DG rfl rfl aw,O.o,?_⟩;simp only[Act.put,U,Aa,Ab];refine Reg.ty 8 rfl O.o ?_;refine Reg.ty 9 rfl O.o ?_;obtain⟨A7,c7,e7,_⟩:=Bq BI bz;obtain⟨m7,cj⟩:=Ak ((l1++[a]).length);rw[<-cj] at e7;subst e7;have f0:=bB.frozen 0;have k6:=bB.c0;refine Reg.BD 10 (w6.setCell ⟨r,0,none⟩ (.slice A7 m7 c7)) rfl (by kernel_rfl) (by rfl) (by go_simp) (Si.Blk.far O.o _ _ (fun x=>ed.o x.symm)) ?_;simp only[Act.put,U,Aa,Ab];clear f0 k6 bB bz av cn aw cj O ca HP;refine wpAnyH_done (by kernel_rfl) ?_ _;have cg:=I bb;clear bb Z
     go_wp2
     go_ret;have hk:¬a∈Ck now l:=by rw[<-EL.o];exact of_decide_eq_false E1.o.symm
     have hf:¬8<=(Ck now l).length:=by rw[<-EL.o,<-EM.o];exact HF.o
     exact⟨by rw[seeE,if_neg (by rw[<-E0.o];simp),if_neg hk,if_neg hf];rfl,_,by rw[seeL,if_neg (by rw[<-E0.o];simp),if_neg (fun x=>x.elim hk hf),<-EL.o];exact cg.o⟩
    ·left
     have hb:Below M.drew.heap.size M.drew (M.drew.alloc (.cells (anA a) 33)):=Ah.alloc Ag _;refine⟨_,_,_,_,_,_,.slice (some ⟨M.drew.heap.size,0,none⟩) 1 1,(M.drew.alloc (.cells (anA a) 33)),rfl,by rfl,Cl rfl (cB.o _),O.o.below hb,?_⟩;simp only[Act.put,U,Aa,Ab];have ca:=I (Blk.new M.drew 33 (anA a));replace Z:=I (Z.o.below hb);replace HP:=I Z.o.rp;replace O:=I (O.o.below hb);clear hb;obtain⟨cm,cb⟩:=Ak ((M.drew.alloc (.cells (anA a) 33)));rw[<-cb] at ca Z HP O⊢;clear cb;refine Reg.b1 4 ?_
     left
     have kr:cm.cell? ⟨r,0,none⟩=some (.slice A1 m c1):=HP.o.blk.cell 0;refine⟨_,_,_,_,_,_,_,_,rfl,by rfl,by(go_simp;rfl),O.o,?_⟩;simp only[Act.put,U,Aa,Ab];clear kr;refine Reg.b1 7 ?_
     left
     obtain⟨v6,w6,aw,bz,av,cn⟩:=Wh.FG (P:=Tryz.prog) anC 4 48 BI Lw cm 126 126 33 iE _ Tryz.underlying126 cX.o ea.o cR.o ei.o rfl (by omega) B (.slice A1 m c1) l1 HP.o.row a M.drew.heap.size ca.o (by have:=EM.o;have:=HF.o;omega) (by omega) HP.o.big;have bb:=Z.o.trans (Yi HP.o ec.o bz av cn);have bB:=HP.o.blk.grown av HP.o.vr;replace O:=I (O.o.grown av (fun x=>cy.o _ (.inr x) rfl));refine⟨_,_,_,_,_,_,v6,w6,rfl,by rfl,DG rfl rfl aw,O.o,?_⟩;simp only[Act.put,U,Aa,Ab];refine Reg.ty 8 rfl O.o ?_;refine Reg.ty 9 rfl O.o ?_;obtain⟨A7,c7,e7,_⟩:=Bq BI bz;obtain⟨m7,cj⟩:=Ak ((l1++[a]).length);rw[<-cj] at e7;subst e7;have f0:=bB.frozen 0;have k6:=bB.c0;refine Reg.BD 10 (w6.setCell ⟨r,0,none⟩ (.slice A7 m7 c7)) rfl (by kernel_rfl) (by rfl) (by go_simp) (Si.Blk.far O.o _ _ (fun x=>ed.o x.symm)) ?_;simp only[Act.put,U,Aa,Ab];clear f0 k6 bB bz av cn aw cj O ca HP;refine wpAnyH_done (by kernel_rfl) ?_ _;have cg:=I bb;clear bb Z
     go_wp2
     go_ret;have hk:¬a∈Ck now l:=by rw[<-EL.o];exact of_decide_eq_false E1.o.symm
     have hf:¬8<=(Ck now l).length:=by rw[<-EL.o,<-EM.o];exact HF.o
     exact⟨by rw[seeE,if_neg (by rw[<-E0.o];simp),if_neg hk,if_neg hf];rfl,_,by rw[seeL,if_neg (by rw[<-E0.o];simp),if_neg (fun x=>x.elim hk hf),<-EL.o];exact cg.o⟩
structure Mkd (w w':World) (r:Nat) (v:Value) (on:Bool) (st:Int) (l:List An):Prop where
 rp:Rp w' w.heap.size r v on st l
 low:Below w.heap.size w w'
theorem Hx (t:Int) (w:World):Calls Tryz.prog 74 #[.int .i64 t] w fun e w'=>∃r,e=.returned (.pointer (some ⟨r,0,none⟩))/\Mkd w w' r (.slice none 0 0) (!decide (t=0)) t []:=by
 obtain⟨b,M⟩:=Ak (!decide (t=0));have O:((t:Int) != 0)=b:=by rw[M];rfl
 rw[<-M];clear M;go_enter Tryz.func74,Tryz.ntmps74
 go_wp2
 go_ret;exact⟨_,rfl,⟨Blk.new _ _ _,⟨rfl,.inl ⟨rfl,rfl⟩⟩,Nat.le_refl _,by simp [Value.ownBlock],by simp⟩,Ah.alloc Ag _⟩
section
variable {w w1 w2:World} {B r:Nat} {v v2:Value} {on on2:Bool} {st st2:Int} {l l2:List An}
end
structure DRp (w:World) (B r:Nat) (v:Value) (on:Bool) (st:Int) (l:List An):Prop where
 blk:Blk w r 128 #[v,.bool on,.int .i64 st]
 row:w.ownsRow B 33 4 v l.length (l.flatMap anC)
 lo:B<=r
 vr:v.ownBlock≠some r
 tm:∀a∈l,Tm a.t
section
variable {w w' w1 w2:World} {B r:Nat} {v v' v1 v2:Value} {on on2:Bool} {st st2:Int} {l l' l1 l2:List An} {S:Nat->Prop}
theorem DRp.lt (h:DRp w B r v on st l):r<w.heap.size:=h.blk.lt
theorem DRp.big (h:DRp w B r v on st l):B<=w.heap.size:=by have:=h.lo;have:=h.lt;omega
theorem DRp.chg (h:DRp w B r v on st l) (M:Chg S w w') (hs:∀k,RO r v k->¬S k):DRp w' B r v on st l:=
 ⟨M.blk h.blk (hs r (.inl rfl)),Bt M h.row (fun k hk=>hs k (.inr hk)),h.lo,h.vr,h.tm⟩
theorem DRp.below (h:DRp w B r v on st l) (M:Below w.heap.size w w'):DRp w' B r v on st l:=h.chg (S:=fun _=>False) (Chg.of_below M) (fun _ _ x=>x)
structure DStp (w w':World) (B r:Nat) (v v':Value) (on:Bool) (st:Int) (l:List An):Prop where
 rp:DRp w' B r v' on st l
 chg:Chg (RO r v) w w'
 new:∀q,RO r v' q->RO r v q\/w.heap.size<=q
theorem DStp.trans (h:DStp w w1 B r v v1 on st l1) (k:DStp w1 w2 B r v1 v2 on2 st2 l2):DStp w w2 B r v v2 on2 st2 l2:=
 ⟨k.rp,h.chg.trans k.chg (fun q M x=>by
  rcases h.new q x with g | g
  ·exact g
  ·omega),fun q M=>by
  rcases k.new q M with g | g
  ·exact h.new q g
  ·exact .inr (Nat.le_trans h.chg.size g)⟩
theorem DStp.below (h:DStp w w1 B r v v1 on st l1) (M:Below w1.heap.size w1 w2):DStp w w2 B r v v1 on st l1:=
 h.trans ⟨h.rp.below M,Chg.of_below M,fun q O=>.inl O⟩
end
theorem WT (t:Int) (w:World):Calls Tryz.prog 76 #[.int .i64 t] w fun e w'=>∃r,e=.returned (.pointer (some ⟨r,0,none⟩))/\DRp w' w.heap.size r (.slice none 0 0) (!decide (t=0)) t []/\Below w.heap.size w w':=by
 obtain⟨b,M⟩:=Ak (!decide (t=0));have O:((t:Int) != 0)=b:=by rw[M];rfl
 rw[<-M];clear M;go_enter Tryz.func76,Tryz.ntmps76
 go_wp2
 go_ret;exact⟨_,rfl,⟨Blk.new _ _ _,⟨rfl,.inl ⟨rfl,rfl⟩⟩,Nat.le_refl _,by simp [Value.ownBlock],by simp⟩,Ah.alloc Ag _⟩
end Rp
end Go.Proofs.YtfbnjcdhipplpaaGreat
