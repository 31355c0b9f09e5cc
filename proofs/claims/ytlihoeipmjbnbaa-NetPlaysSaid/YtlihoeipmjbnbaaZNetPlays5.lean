import Derived.Test.YtlihoeipmjbnbaaProg
import Derived.StillTailTactics
import Derived.Deep.CutBlock
import Derived.Laws.StructEq
import Derived.Deep.RegionHeld3
import Derived.Deep.LoopGhost
import Derived.Test.YtlihoeipmjbnbaaZNetPlays1
import Derived.Test.YtlihoeipmjbnbaaZNetPlays2
import Derived.Test.YtlihoeipmjbnbaaZNetPlays3
import Derived.Test.YtlihoeipmjbnbaaZNetPlays4
section
set_option linter.unusedVariables false
namespace Go.Proofs.Ytlihoeipmjbnbaa.Nt
open Go.RowKit Go.Proofs.Ytlihoeipmjbnbaa.Mem Go.Proofs.Ytlihoeipmjbnbaa.Se
open Go.Proofs.Ytlihoeipmjbnbaa.Nm (L)
open Go.Proofs.Ytlihoeipmjbnbaa.Ca (Own1 rd_chg row_blk row_mk)
open Go.Proofs.Ytlihoeipmjbnbaa.Rg (flat_len flat_at flat_one RdR own_rdr own_chg)
structure DN (w:World) (B r:Nat) (vs vw:Value) (es:List En) (ws:List En):Prop where
 blk:Blk w r 29 #[vw,vs]
 row:w.ownsRow B 32 3 vs es.length (es.flatMap enC)
 way:w.ownsRow B 32 3 vw ws.length (ws.flatMap enC)
 lo:B≤r
 vr:vs.ownBlock≠some r
 wr:vw.ownBlock≠some r
 sw:∀k,vs.ownBlock=some k→vw.ownBlock≠some k
 rd:∀e∈es,Rd w w.heap.size e.A (bvs e.p.b)
 off:∀e∈es,∀a,e.A=some a→B≤a.block∧a.block≠r∧vs.ownBlock≠some a.block∧vw.ownBlock≠some a.block∧a.block<w.heap.size
def DO (r:Nat) (vs vw:Value) (es:List En) (k:Nat):Prop:=k=r∨vs.ownBlock=some k∨vw.ownBlock=some k∨∃e∈es,∃a,e.A=some a∧a.block=k
def DT (r:Nat) (vs vw:Value) (k:Nat):Prop:=k=r∨vs.ownBlock=some k∨vw.ownBlock=some k
section
variable {w w':World} {B r:Nat} {vs vw vs' vw':Value} {es es':List En} {ws ws':List En} {S:Nat→Prop}
theorem dt_do {q:Nat} (h:DT r vs vw q):DO r vs vw es q:=by
 rcases h with h | h | h
 ·exact .inl h
 ·exact .inr (.inl h)
 ·exact .inr (.inr (.inl h))
theorem DN.lt (h:DN w B r vs vw es ws):r<w.heap.size:=h.blk.lt
theorem DN.big (h:DN w B r vs vw es ws):B≤w.heap.size:=by have:=h.lo;have:=h.lt;omega
theorem DN.own_lo (h:DN w B r vs vw es ws) {k:Nat} (hk:DO r vs vw es k):B≤k:=by
 rcases hk with hk | hk | hk | ⟨e,he,a,ha,hk⟩
 ·subst hk;exact h.lo
 ·exact(World.ownsRow.lt h.row k hk).1
 ·exact(World.ownsRow.lt h.way k hk).1
 ·exact hk▸(h.off e he a ha).1
theorem DN.own_lt (h:DN w B r vs vw es ws) {k:Nat} (hk:DO r vs vw es k):k<w.heap.size:=by
 rcases hk with hk | hk | hk | ⟨e,he,a,ha,hk⟩
 ·subst hk;exact h.lt
 ·exact(World.ownsRow.lt h.row k hk).2
 ·exact(World.ownsRow.lt h.way k hk).2
 ·exact hk▸(h.off e he a ha).2.2.2.2
theorem DN.chg (h:DN w B r vs vw es ws) (hc:Chg S w w') (hs:∀k,DO r vs vw es k→¬S k):DN w' B r vs vw es ws:=
 ⟨hc.blk h.blk (hs r (.inl rfl)),own_chg hc h.row (fun k hk=>hs k (.inr (.inl hk))),own_chg hc h.way (fun k hk=>hs k (.inr (.inr (.inl hk)))),h.lo,h.vr,h.wr,h.sw,
  fun e he=>rd_chg (h.rd e he) hc (fun a ha=>hs _ (.inr (.inr (.inr ⟨e,he,a,ha,rfl⟩)))),
  fun e he a ha=>have q:=h.off e he a ha;⟨q.1,q.2.1,q.2.2.1,q.2.2.2.1,Nat.lt_of_lt_of_le q.2.2.2.2 hc.size⟩⟩
theorem DN.below (h:DN w B r vs vw es ws) (hb:Below w.heap.size w w'):DN w' B r vs vw es ws:=h.chg (S:=fun _=>False) (Chg.of_below hb) (fun _ _ x=>x)
theorem DN.drew (h:DN w B r vs vw es ws):DN w.drew B r vs vw es ws:=h.below (below_drewN (Below.refl _ _) 1)
theorem DN.num (h:DN w B r vs vw es ws):∃A c,vs = .slice A es.length c∧es.length≤c∧c≤maxLen∧RdR w w.heap.size A enC 3 es:=own_rdr enC_length h.row
theorem DN.num2 (h:DN w B r vs vw es ws):∃A c,vw = .slice A ws.length c∧ws.length≤c∧c≤maxLen∧RdR w w.heap.size A enC 3 ws:=own_rdr enC_length h.way
theorem DN.c1 (h:DN w B r vs vw es ws):w.cell? ⟨r,1,none⟩=some vs:=h.blk.cell 1
theorem DN.c0 (h:DN w B r vs vw es ws):w.cell? ⟨r,0,none⟩=some vw:=h.blk.cell 0
theorem DN.not (h:DN w B r vs vw es ws) {k:Nat} (hk:w.heap.size≤k):¬DO r vs vw es k:=fun x=>by have:=h.own_lt x;omega
theorem DN.low (h:DN w B r vs vw es ws) {k:Nat} (hk:k<B):¬DO r vs vw es k:=fun x=>by have:=h.own_lo x;omega
end
section
variable {w0 w5 w6:World} {B r:Nat} {vs vw v6:Value} {es:List En} {ws ws6:List En} {e:En}
theorem dn_way (h:DN w0 B r vs vw es ws) (hb:Below w0.heap.size w0 w5) (h5:DN w5 B r vs vw es ws) (ho:w6.ownsRow B 32 3 v6 ws6.length (ws6.flatMap enC)) (hg:w5.grownBy w6 vw.ownBlock) (hv:v6.ownBlock=vw.ownBlock∨v6.ownBlock=some w5.heap.size) :
  DN (w6.setCell ⟨r,0,none⟩ v6) B r vs v6 es ws6∧Chg (DT r vs vw) w0 (w6.setCell ⟨r,0,none⟩ v6)∧(∀q,DO r vs v6 es q→DO r vs vw es q∨w0.heap.size≤q):=by
 have hset:Chg (fun q=>q=r) w6 (w6.setCell ⟨r,0,none⟩ v6):=Chg.set (p:=⟨r,0,none⟩) (Chg.refl (fun q=>q=r) w6) (.inl rfl) v6
 have hg6:Chg (fun q=>vw.ownBlock=some q) w5 w6:=⟨hg.os,hg.tape,hg.output,hg.size,fun i hi hn=>hg.block i hi (fun e=>hn e.symm)⟩
 have hc5:Chg (fun q=>q=r∨vw.ownBlock=some q) w5 (w6.setCell ⟨r,0,none⟩ v6):=(hg6.mono (fun q _ x=>.inr x)).trans hset (fun q _ x=>.inl x)
 have hc:Chg (DT r vs vw) w0 (w6.setCell ⟨r,0,none⟩ v6):=(Chg.of_below hb).trans hc5 (fun q _ x=>x.elim .inl (fun y=>.inr (.inr y)))
 have hrl:=h.lt
 have hwr:v6.ownBlock≠some r:=fun x=>by
  rcases hv with g | g
  ·rw[g] at x;exact h.wr x
  ·rw[g] at x;injection x with x;have:=hb.size;omega
 refine⟨⟨(h5.blk.grown hg h5.wr).set 0 v6,own_chg hc5 h5.row (fun k hk x=>?_),own_chg hset ho (fun k hk x=>hwr (x▸hk)),h.lo,h.vr,hwr,fun k hk x=>?_,fun y hy=>?_,fun y hy a ha=>?_⟩,hc,fun q hq=>?_⟩
 ·rcases x with x | x
  ·exact h.vr (x▸hk)
  ·exact h.sw k hk x
 ·rcases hv with g | g
  ·rw[g] at x;exact h.sw k hk x
  ·rw[g] at x;injection x with x;have:=(World.ownsRow.lt h5.row k hk).2;omega
 ·exact rd_chg (h5.rd y hy) hc5 (fun a ha x=>by
   have q2:=h5.off y hy a ha
   rcases x with x | x
   ·exact q2.2.1 x
   ·exact q2.2.2.2.1 x)
 ·have q:=h5.off y hy a ha
  refine⟨q.1,q.2.1,q.2.2.1,fun x=>?_,Nat.lt_of_lt_of_le q.2.2.2.2 hc5.size⟩
  rcases hv with g | g
  ·rw[g] at x;exact q.2.2.2.1 x
  ·rw[g] at x;injection x with x;omega
 ·rcases hq with hq | hq | hq | hq
  ·exact .inl (.inl hq)
  ·exact .inl (.inr (.inl hq))
  ·rcases hv with g | g
   ·exact .inl (.inr (.inr (.inl (g▸hq))))
   ·rw[g] at hq;injection hq with hq;have:=hb.size;exact .inr (by omega)
  ·exact .inl (.inr (.inr (.inr hq)))
theorem dn_sent (h:DN w0 B r vs vw es ws) (hb:Below w0.heap.size w0 w5) (h5:DN w5 B r vs vw es ws) (hn:Rd w5 w5.heap.size e.A (bvs e.p.b)) (hx:∀a,e.A=some a→B≤a.block∧¬DT r vs vw a.block∧a.block<w5.heap.size) (ho:w6.ownsRow B 32 3 v6 (es++[e]).length ((es++[e]).flatMap enC)) (hg:w5.grownBy w6 vs.ownBlock) (hv:v6.ownBlock=vs.ownBlock∨v6.ownBlock=some w5.heap.size) :
  DN (w6.setCell ⟨r,1,none⟩ v6) B r v6 vw (es++[e]) ws∧Chg (DT r vs vw) w0 (w6.setCell ⟨r,1,none⟩ v6)∧(∀q,DO r v6 vw (es++[e]) q→DO r vs vw es q∨w0.heap.size≤q∨∃a,e.A=some a∧a.block=q):=by
 have hset:Chg (fun q=>q=r) w6 (w6.setCell ⟨r,1,none⟩ v6):=Chg.set (p:=⟨r,1,none⟩) (Chg.refl (fun q=>q=r) w6) (.inl rfl) v6
 have hg6:Chg (fun q=>vs.ownBlock=some q) w5 w6:=⟨hg.os,hg.tape,hg.output,hg.size,fun i hi hn=>hg.block i hi (fun e=>hn e.symm)⟩
 have hc5:Chg (fun q=>q=r∨vs.ownBlock=some q) w5 (w6.setCell ⟨r,1,none⟩ v6):=(hg6.mono (fun q _ x=>.inr x)).trans hset (fun q _ x=>.inl x)
 have hc:Chg (DT r vs vw) w0 (w6.setCell ⟨r,1,none⟩ v6):=(Chg.of_below hb).trans hc5 (fun q _ x=>x.elim .inl (fun y=>.inr (.inl y)))
 have hrl:=h.lt
 have hvr:v6.ownBlock≠some r:=fun x=>by
  rcases hv with g | g
  ·rw[g] at x;exact h.vr x
  ·rw[g] at x;injection x with x;have:=hb.size;omega
 have hmem:∀y,y∈es++[e]→y∈es∨y=e:=fun y hy=>by simpa using hy
 refine⟨⟨(h5.blk.grown hg h5.vr).set 1 v6,own_chg hset ho (fun k hk x=>hvr (x▸hk)),own_chg hc5 h5.way (fun k hk x=>?_),h.lo,hvr,h.wr,fun k hk x=>?_,fun y hy=>?_,fun y hy a ha=>?_⟩,hc,fun q hq=>?_⟩
 ·rcases x with x | x
  ·exact h.wr (x▸hk)
  ·exact h.sw k x hk
 ·rcases hv with g | g
  ·rw[g] at hk;exact h.sw k hk x
  ·rw[g] at hk;injection hk with hk;have:=(World.ownsRow.lt h5.way k x).2;omega
 ·rcases hmem y hy with hy | rfl
  ·exact rd_chg (h5.rd y hy) hc5 (fun a ha x=>by
    have q2:=h5.off y hy a ha
    rcases x with x | x
    ·exact q2.2.1 x
    ·exact q2.2.2.1 x)
  ·exact rd_chg hn hc5 (fun a ha x=>(hx a ha).2.1 (x.elim .inl (fun y=>.inr (.inl y))))
 ·rcases hmem y hy with hy | rfl
  ·have q:=h5.off y hy a ha
   refine⟨q.1,q.2.1,fun x=>?_,q.2.2.2.1,Nat.lt_of_lt_of_le q.2.2.2.2 hc5.size⟩
   rcases hv with g | g
   ·rw[g] at x;exact q.2.2.1 x
   ·rw[g] at x;injection x with x;omega
  ·have q:=hx a ha
   refine⟨q.1,fun x=>q.2.1 (.inl x),fun x=>?_,fun x=>q.2.1 (.inr (.inr x)),Nat.lt_of_lt_of_le q.2.2 hc5.size⟩
   rcases hv with g | g
   ·rw[g] at x;exact q.2.1 (.inr (.inl x))
   ·rw[g] at x;injection x with x;omega
 ·rcases hq with hq | hq | hq | ⟨y,hy,a,ha,hq⟩
  ·exact .inl (.inl hq)
  ·rcases hv with g | g
   ·exact .inl (.inr (.inl (g▸hq)))
   ·rw[g] at hq;injection hq with hq;have:=hb.size;exact .inr (.inl (by omega))
  ·exact .inl (.inr (.inr (.inl hq)))
  ·rcases hmem y hy with hy | rfl
   ·exact .inl (.inr (.inr (.inr ⟨y,hy,a,ha,hq⟩)))
   ·exact .inr (.inr ⟨a,ha,hq⟩)
end
end Go.Proofs.Ytlihoeipmjbnbaa.Nt
end

section
set_option linter.unusedVariables false
set_option linter.unusedSimpArgs false
namespace Go.Proofs.Ytlihoeipmjbnbaa.Nt
open Go.RowKit Go.Proofs.Ytlihoeipmjbnbaa.Mem Go.Proofs.Ytlihoeipmjbnbaa.Se
open Go.Proofs.Ytlihoeipmjbnbaa.Nm (L)
open Go.Proofs.Ytlihoeipmjbnbaa.Ca (Own1 rd_chg row_blk row_mk)
open Go.Proofs.Ytlihoeipmjbnbaa.Rg (flat_len flat_at flat_one RdR own_rdr own_chg)
structure DSp (w w':World) (B r:Nat) (vs vw vs' vw':Value) (es es' ws':List En):Prop where
 nt:DN w' B r vs' vw' es' ws'
 chg:Chg (DO r vs vw es) w w'
 new:∀q,DO r vs' vw' es' q→DO r vs vw es q∨w.heap.size≤q
section
variable {w w' w2:World} {B r:Nat} {vs vw vs' vw':Value} {es es' ws ws':List En}
theorem DSp.low (h:DSp w w' B r vs vw vs' vw' es es' ws') (hn:DN w B r vs vw es ws):Below B w w':=h.chg.below hn.big (fun k _ hk=>hn.own_lo hk)
theorem DSp.not (h:DSp w w' B r vs vw vs' vw' es es' ws') {k:Nat} (hk:¬DO r vs vw es k) (hl:k<w.heap.size):¬DO r vs' vw' es' k:=fun x=>by
 rcases h.new k x with y | y
 ·exact hk y
 ·omega
end
set_option maxHeartbeats 1600000 in
set_option maxRecDepth 100000 in
theorem dat_no (B r:Nat) (vs vw:Value) (es ws:List En) (i:Int) (w:World) (h:DN w B r vs vw es ws) (hno:hasB ws.length i=false) :
  Calls Try.prog 18 #[.pointer (some ⟨r,0,none⟩),.int .i64 i] w fun e w'=>e = .returned (.tuple #[.agg (pkA pk0 none 0),.bool false])∧Below w.heap.size w w':=by
 obtain⟨zs,ezs⟩:∃zs,zs=pkA pk0 none 0:=⟨_,rfl⟩
 have EZ2:=Lib.hid (ezs.trans z_pk)
 have HZS:=Lib.hid (show zs.size=3 by rw[ezs,pkA_size])
 obtain⟨W,eW⟩:∃W,W=w.alloc (.cells zs 32):=⟨_,rfl⟩
 have hb:Below w.heap.size w W:=eW▸(Below.refl _ _).alloc (Nat.le_refl _) _
 have HZ:=Lib.hid (show Blk W w.heap.size 32 zs from eW▸Blk.new w _ _)
 obtain⟨A1,c1,evw,_⟩:=h.num2
 have k0:=(h.below hb).c0
 obtain⟨n,en⟩:∃n,n=ws.length:=⟨_,rfl⟩
 rw[evw,←en] at k0
 rw[←en] at hno
 have HB:=Lib.hid hb
 clear ezs hb h evw en
 by_cases hi:i<0
 ·have t0:decide (i<0)=true:=decide_eq_true hi
  clear hi hno
  go_enter Try.func18,Try.ntmps18
  go_upto_region 1 with fail
  rw[←EZ2.out,←eW]
  clear eW EZ2
  go_wp2_with (first
   |(refine Wh.store_over (by rfl) 32 (.tmp 4) (.tmp 17) (by rfl) w.heap.size 32 zs HZ.out (pkA pk0 none 0) (by rfl) (by rfl) (by rw[HZS.out,pkA_size]) (by rw[pkA_size];exact pk_info) (pkA_one _ _ _) ?_;rintro V2 hV2 hg;have HV:=Lib.hid hV2;replace HB:=Lib.hid (btg HB.out hg (Nat.le_refl _));clear hV2 hg)
   |fail)
  refine bodyPost_ret (v:=.tuple #[.agg (pkA pk0 none 0),.bool false]) ?_ ?_ ?_
  ·exact results_pair 4 5 32 ⟨w.heap.size,0,none⟩ Try.results18 (by rfl) (Wh.load_blk HV.out Try.underlying32 (by rfl) (by rw[pkA_size];exact pk_info)) (by rfl)
  ·rfl
  ·exact⟨rfl,HB.out⟩
 ·have t0:decide (i<0)=false:=decide_eq_false hi
  have t1:(n:Int)≤i:=by
   unfold hasB at hno
   simp at hno
   have:=hno (by omega)
   omega
  have t2:decide ((n:Int)≤i)=true:=decide_eq_true t1
  clear hi hno
  go_enter Try.func18,Try.ntmps18
  go_upto_region 1 with fail
  rw[←EZ2.out,←eW]
  clear eW EZ2
  go_wp2_with (first
   |(refine Wh.store_over (by rfl) 32 (.tmp 4) (.tmp 17) (by rfl) w.heap.size 32 zs HZ.out (pkA pk0 none 0) (by rfl) (by rfl) (by rw[HZS.out,pkA_size]) (by rw[pkA_size];exact pk_info) (pkA_one _ _ _) ?_;rintro V2 hV2 hg;have HV:=Lib.hid hV2;replace HB:=Lib.hid (btg HB.out hg (Nat.le_refl _));clear hV2 hg)
   |fail)
  refine bodyPost_ret (v:=.tuple #[.agg (pkA pk0 none 0),.bool false]) ?_ ?_ ?_
  ·exact results_pair 4 5 32 ⟨w.heap.size,0,none⟩ Try.results18 (by rfl) (Wh.load_blk HV.out Try.underlying32 (by rfl) (by rw[pkA_size];exact pk_info)) (by rfl)
  ·rfl
  ·exact⟨rfl,HB.out⟩
set_option maxHeartbeats 1600000 in
set_option maxRecDepth 100000 in
theorem dat_ok (B r:Nat) (vs vw:Value) (es ws:List En) (i:Nat) (x:En) (w:World) (h:DN w B r vs vw es ws) (hi:ws[i]? = some x) :
  Calls Try.prog 18 #[.pointer (some ⟨r,0,none⟩),.int .i64 (i:Int)] w fun e w'=>e = .returned (.tuple #[.agg (pkA x.p x.A x.c),.bool true])∧Below w.heap.size w w':=by
 have hin:i<ws.length:=(List.getElem?_eq_some_iff.1 hi).1
 obtain⟨zs,ezs⟩:∃zs,zs=pkA pk0 none 0:=⟨_,rfl⟩
 have EZ2:=Lib.hid (ezs.trans z_pk)
 have HZS:=Lib.hid (show zs.size=3 by rw[ezs,pkA_size])
 obtain⟨W,eW⟩:∃W,W=w.alloc (.cells zs 32):=⟨_,rfl⟩
 have hb:Below w.heap.size w W:=eW▸(Below.refl _ _).alloc (Nat.le_refl _) _
 have HZ:=Lib.hid (show Blk W w.heap.size 32 zs from eW▸Blk.new w _ _)
 obtain⟨A1,c1,evw,_,_,hr⟩:=(h.below hb).num2
 obtain⟨g,rfl,_,hra⟩:=hr.at_ hi
 have k0:=(h.below hb).c0
 obtain⟨n,en⟩:∃n,n=ws.length:=⟨_,rfl⟩
 rw[evw,←en] at k0
 rw[←en] at hin
 obtain⟨xs,exs⟩:∃xs,xs=pkA x.p x.A x.c:=⟨_,rfl⟩
 have HRA:=Lib.hid (show W.rangeAt g (i*3) xs.toList by rw[exs];exact hra)
 have HXS:=Lib.hid (show xs.size=3 by rw[exs];rfl)
 have HXI:=Lib.hid (show(Try.prog.info? 32).map (·.size)=some xs.size by rw[exs];exact pk_info)
 have HX1:=Lib.hid (show xs.all (·.oneCell')=true by rw[exs];exact pkA_one _ _ _)
 have t0:decide ((i:Int)<0)=false:=by simp
 have t1:¬(n:Int)≤(i:Int):=by omega
 have t2:decide ((n:Int)≤(i:Int))=false:=decide_eq_false t1
 have t3:(0:Int)≤(i:Int):=by omega
 have t4:(i:Int)<(n:Int):=by omega
 have HB:=Lib.hid hb
 rw[←exs]
 clear ezs hb h evw en hr hra hin hi exs
 go_enter Try.func18,Try.ntmps18
 go_upto_region 1 with fail
 rw[←EZ2.out,←eW]
 clear eW EZ2
 go_wp2_with (first
  |(refine Wh.load_g (by rfl) 32 (.tmp 23) (by rfl) g _ (by rfl) xs _ HRA.out Try.underlying32 (by rfl) HXI.out ?_)
  |(refine Wh.store_over (by rfl) 32 (.tmp 4) (.tmp 24) (by rfl) w.heap.size 32 zs HZ.out xs (by rfl) (by rfl) (by rw[HZS.out,HXS.out]) HXI.out HX1.out ?_;rintro V2 hV2 hg;have HV:=Lib.hid hV2;replace HB:=Lib.hid (btg HB.out hg (Nat.le_refl _));clear hV2 hg)
  |fail)
 refine bodyPost_ret (v:=.tuple #[.agg xs,.bool true]) ?_ ?_ ?_
 ·exact results_pair 4 5 32 ⟨w.heap.size,0,none⟩ Try.results18 (by rfl) (Wh.load_blk HV.out Try.underlying32 (by rfl) HXI.out) (by rfl)
 ·rfl
 ·exact⟨rfl,HB.out⟩
set_option maxHeartbeats 1600000 in
set_option maxRecDepth 100000 in
theorem dsend_no (B r:Nat) (vs vw:Value) (es ws:List En) (p:Pk) (A:Option Addr) (c:Nat) (w:World) (h:DN w B r vs vw es ws) (hno:¬(ws.length<32∧1≤p.b.length∧p.b.length≤2000)) :
  Calls Try.prog 11 #[.pointer (some ⟨r,0,none⟩),.agg (pkA p A c)] w fun e w'=>e = .returned (.bool false)∧Below w.heap.size w w':=by
 obtain⟨n,en⟩:∃n,n=p.b.length:=⟨_,rfl⟩
 obtain⟨xs,exs⟩:∃xs,xs=pkA p A c:=⟨_,rfl⟩
 rw[←exs]
 obtain⟨W,eW⟩:∃W,W=w.alloc (.cells xs 32):=⟨_,rfl⟩
 have hb:Below w.heap.size w W:=eW▸(Below.refl _ _).alloc (Nat.le_refl _) _
 have hp:Blk W w.heap.size 32 xs:=eW▸Blk.new w _ _
 have k2:W.cell? ⟨w.heap.size,2,none⟩=some (.slice A n c):=by rw[hp.cell,exs,en];rfl
 obtain⟨A1,c1,evw,_⟩:=h.num2
 have k0:=(h.below hb).c0
 obtain⟨m,em⟩:∃m,m=ws.length:=⟨_,rfl⟩
 rw[evw,←em] at k0
 have HB:=Lib.hid hb
 rw[←em,←en] at hno
 clear h hb hp en em exs evw
 by_cases h1:32≤m
 ·have s0:(32:Int)≤(m:Int):=by omega
  go_enter Try.func11,Try.ntmps11
  go_upto_region 1 with fail
  rw[←eW]
  clear eW
  go_wp2
  go_ret
  exact⟨rfl,HB.out⟩
 ·have s0:¬(32:Int)≤(m:Int):=by omega
  by_cases h2:n<1
  ·have t0:(n:Int)<1:=by omega
   clear h1 h2 hno
   go_enter Try.func11,Try.ntmps11
   go_upto_region 1 with fail
   rw[←eW]
   clear eW
   go_wp2
   go_ret
   exact⟨rfl,HB.out⟩
  ·have t0:¬(n:Int)<1:=by omega
   have t2:(2000:Int)<(n:Int):=by omega
   clear h1 h2 hno
   go_enter Try.func11,Try.ntmps11
   go_upto_region 1 with fail
   rw[←eW]
   clear eW
   go_wp2
   go_ret
   exact⟨rfl,HB.out⟩
set_option maxHeartbeats 3200000 in
set_option maxRecDepth 100000 in
theorem dsend_ok (B r:Nat) (vs vw:Value) (es ws:List En) (p:Pk) (A:Option Addr) (c:Nat) (w:World) (h:DN w B r vs vw es ws) (hr:Rd w w.heap.size A (bvs p.b)) (h1:ws.length<32) (h2:1≤p.b.length) (h3:p.b.length≤2000) (h4:es.length≤50000) :
  Calls Try.prog 11 #[.pointer (some ⟨r,0,none⟩),.agg (pkA p A c)] w fun e w'=>e = .returned (.bool true)∧∃vs' vw' A' c',DSp w w' B r vs vw vs' vw' es (es++[⟨p,A',c'⟩]) (ws++[⟨p,A',c'⟩]):=by
 obtain⟨n,en⟩:∃n,n=p.b.length:=⟨_,rfl⟩
 have EN:=Lib.hid en
 obtain⟨W,eW⟩:∃W,W=w.alloc (.cells #[.int .i64 p.f,.int .i64 p.t,.slice A n c] 32):=⟨_,rfl⟩
 have hb:Below w.heap.size w W:=eW▸(Below.refl _ _).alloc (Nat.le_refl _) _
 have hp:Blk W w.heap.size 32 #[.int .i64 p.f,.int .i64 p.t,.slice A n c]:=eW▸Blk.new w _ _
 have k2:W.cell? ⟨w.heap.size,2,none⟩=some (.slice A n c):=hp.cell 2
 obtain⟨A1,c1,evw,_⟩:=h.num2
 have k0:=(h.below hb).c0
 obtain⟨m,em⟩:∃m,m=ws.length:=⟨_,rfl⟩
 rw[evw,←em] at k0
 rw[←em] at evw
 have HB:=Lib.hid hb
 have HN:=Lib.hid h
 have HP:=Lib.hid hp
 have HRL:=Lib.hid h.lt
 have HNW:=Lib.hid h
 have EVW:=Lib.hid evw
 have s0:¬(32:Int)≤(m:Int):=by omega
 have t0:¬(n:Int)<1:=by omega
 have t2:¬(2000:Int)<(n:Int):=by omega
 have HL1:=Lib.hid h1;have HL4:=Lib.hid h4;have HL3:=Lib.hid h3
 obtain⟨i0,hi0,hz0,hs0,hb0⟩:=info_parts Nm.u8_row
 have KI1:=Lib.hid hi0;have KI2:=Lib.hid hz0;have KI3:=Lib.hid hs0;have KI4:=Lib.hid hb0
 obtain⟨iP,hiP,hzP,hsP,hbP⟩:=info_parts pk_all
 have KP1:=Lib.hid hiP;have KP2:=Lib.hid hzP;have KP3:=Lib.hid hsP;have KP4:=Lib.hid hbP
 have hb2:Below W.heap.size W (W.alloc (.cells #[] 5)):=(Below.refl _ _).alloc (Nat.le_refl _) _
 have HO:=Lib.hid (World.ownsRow_made (base:=W.heap.size) W (e:=5) (size:=1) #[] 0 (Nat.le_refl _) (by decide) rfl)
 have HB2:=Lib.hid hb2
 have HR2:=Lib.hid (((hr.below hb).more hb.size).below hb2)
 have e9:(W.alloc (.cells #[] 5)).cell? ⟨w.heap.size,2,none⟩=some (.slice A n c):=(hb2.cell (p:=⟨w.heap.size,2,none⟩) hp.lt).trans k2
 unfold pkA
 rw[←en]
 clear h hb hp en em evw hr h1 h2 h3 h4 hb2 hi0 hz0 hs0 hb0 hiP hzP hsP hbP
 go_enter Try.func11,Try.ntmps11
 go_upto_region 1 with fail
 rw[←eW]
 clear eW
 go_upto_region 4 with(first
  |(refine wpList_append_rd _ rfl (.tmp 23) (.tmp 25) 30 rfl W.heap.size 5 i0 _ 1 Try.underlying30 KI1.out KI2.out KI3.out KI4.out rfl _ 0 [] rfl HO.out W.heap.size _ n c (bvs p.b) rfl (by rw[bvs_length];exact EN.out) HR2.out (bvs_one _) (by have:=HL3.out;have:=EN.out;unfold maxLen;omega) (by have:=HL3.out;have:=EN.out;omega) HB2.out.size ?_;intro v5 w2 ho hg hv;rw[Nat.zero_add,List.nil_append] at ho;obtain⟨A5,c5,rfl,ho5,_⟩:=Own1.of_own ho;have hb3:=below_g HB2.out hg HB2.out.size (Nat.le_refl _);have HO5:=Lib.hid ho5;have h0:=HP.out.below hb3;have e8:w2.cell? ⟨w.heap.size,2,none⟩=some (.slice A n c):=h0.cell 2;have f8:=h0.frozen 2;have HP2:=Lib.hid h0;have HB3:=Lib.hid (HB.out.trans (hb3.mono HB.out.size));clear ho hg hv ho5 hb3 HO HB2 HR2 e9 k2 k0 h0)
  |fail)
 obtain⟨W3,eW3⟩:∃W3,W3=w2.setCell ⟨w.heap.size,2,none⟩ (.slice A5 n c5):=⟨_,rfl⟩
 obtain⟨xs,exs⟩:∃xs:Array Value,xs=pkA p A5 c5:=⟨_,rfl⟩
 have EXS:=Lib.hid exs
 have hp3:Blk W3 w.heap.size 32 xs:=by rw[exs,eW3];have h:=HP2.out.set 2 (.slice A5 n c5);unfold pkA;rw[←EN.out];exact h
 have hc3:Chg (fun k=>k=w.heap.size) w2 W3:=eW3▸Chg.set (p:=⟨w.heap.size,2,none⟩) (Chg.refl (fun k=>k=w.heap.size) w2) (.inl rfl) _
 have hbw:Below w.heap.size w W3:=HB3.out.trans (hc3.below HB3.out.size (fun q _ hq=>Nat.le_of_eq hq.symm))
 have ho3:Own1 W W3 A5 (bvs p.b):=HO5.out.chg hc3 (fun q hq e=>by have:=(HO5.out.lo q hq).1;have:=HP.out.lt;omega)
 have HXO:=Lib.hid (show ∀a,A5=some a→w.heap.size≤a.block∧a.block<W3.heap.size∧a.block≠w.heap.size from fun a ha=>by have q:=ho3.lo a ha;have:=HP.out.lt;exact⟨by omega,q.2,by omega⟩)
 have HRD:=Lib.hid ho3.rd
 have HN3:=Lib.hid (HN.out.below hbw)
 have HBW:=Lib.hid hbw
 have HP3:=Lib.hid hp3
 have HXI:=Lib.hid (show(Try.prog.info? 32).map (·.size)=some xs.size by rw[exs];exact pk_info)
 have SP:=Lib.hid (fun(w1:World)=>Wh.run_build_one (P:=Try.prog) w1 27 32 xs iP _ Try.underlying27 KP1.out KP2.out (by rw[KP3.out,exs];rfl) (by rw[exs,pkA_size];omega) (by rw[exs,pkA_size];omega))
 have HNP:=Lib.hid (show ¬DO r vs vw es w.heap.size from HN.out.not (Nat.le_refl _))
 rw[←eW3]
 clear eW3 exs hp3 hc3 hbw ho3 e8 f8 HP2 HB3 HO5 HB HP
 obtain⟨NP,eNP⟩:∃NP,NP=w.heap.size:=⟨_,rfl⟩
 have ENP:=Lib.hid eNP
 rw[←eNP] at HP3 HNP HXO⊢
 clear eNP
 replace HN:=Lib.hid HN3.out
 have HP:=Lib.hid HP3.out
 obtain⟨A0s,c0s,evs,_⟩:=HN3.out.num
 obtain⟨ns,ens⟩:∃ns,ns=es.length:=⟨_,rfl⟩
 rw[←ens] at evs
 have EVS:=Lib.hid evs
 clear ens evs
 go_cut [] from 28 to 37 (fun wx=>∃v7,DN wx B r vs v7 es (ws++[⟨p,A5,c5⟩])∧Blk wx NP 32 xs∧Chg (DT r vs vw) W3 wx∧(∀q,DO r vs v7 es q→DO r vs vw es q∨W3.heap.size≤q))
 case first=>
  have HN0:=Lib.hid HN.out;have HP0:=Lib.hid HP.out
  have HB:=Lib.hid (Below.refl W3.heap.size W3)
  have hb:Below W3.heap.size W3 W3.drew:=below_drewN (Below.refl _ _) 1
  replace HN:=Lib.hid (HN.out.below hb)
  replace HP:=Lib.hid (HP.out.below hb)
  replace HB:=Lib.hid (HB.out.trans (hb.mono HB.out.size))
  clear hb
  obtain⟨wda,ewd⟩:∃z,z=W3.drew:=⟨_,rfl⟩
  refine Reg.any_begin (fun w'=>Blk w' NP 32 xs) 11 rfl (by kernel_rfl) HP.out ?_
  rw[←ewd] at HN HP HB⊢
  clear ewd
  refine Reg.tk 0 (v:=?va1) rfl HP.out (fun w' hS=>?ha1) ?ra1
  case ha1=>go_simp<;>rfl
  simp only[Act.put,Reg.s0,Reg.s1,Reg.s2]
  refine Reg.tk 1 (v:=?va2) rfl HP.out (fun w' hS=>?ha2) ?ra2
  case ha2=>go_simp<;>rfl
  simp only[Act.put,Reg.s0,Reg.s1,Reg.s2]
  refine Reg.tk 2 (v:=?va3) rfl HP.out (fun w' hS=>?ha3) ?ra3
  case ha3=>go_simp<;>rfl
  simp only[Act.put,Reg.s0,Reg.s1,Reg.s2]
  refine Reg.tk 3 (v:=?va4) rfl HP.out (fun w' hS=>?ha4) ?ra4
  case ha4=>go_simp<;>rfl
  simp only[Act.put,Reg.s0,Reg.s1,Reg.s2]
  refine Reg.tk 5 (v:=.agg xs) rfl HP.out (fun w' hS=>?ha5) ?ra5
  case ha5=>exact Wh.exec_load (.tmp 3) rfl rfl hS Try.underlying32 rfl HXI.out
  simp only[Act.put,Reg.s0,Reg.s1,Reg.s2]
  refine Reg.both_all [4,6] (by kernel_rfl) (by simp) ?_
  intro j0 hj0
  have hj0:j0=4∨j0=6:=by simpa using hj0
  rcases hj0 with rfl | rfl
  ·left
   refine⟨_,_,_,_,_,_,(.slice A1 m c1),wda,rfl,by rfl,(by have kw:=(EVW.out▸HN.out.c0:World.cell? _ ⟨r,0,none⟩=some (.slice A1 m c1));(go_simp<;>rfl)),HP.out,?_⟩
   simp only[Act.put,Reg.s0,Reg.s1,Reg.s2]
   refine Reg.both_all [6] (by kernel_rfl) (by simp) ?_
   intro j0 hj0
   obtain rfl:j0=6:=by simpa using hj0
   clear hj0
   left
   have hb:Below wda.heap.size wda (wda.alloc (.cells xs 32)):=(Below.refl _ _).alloc (Nat.le_refl _) _
   refine⟨_,_,_,_,_,_,.slice (some ⟨wda.heap.size,0,none⟩) 1 1,(wda.alloc (.cells xs 32)),rfl,by rfl,exec_slice rfl (SP.out _),(HP.out.below hb),?_⟩
   simp only[Act.put,Reg.s0,Reg.s1,Reg.s2]
   have HNB:=Lib.hid (Blk.new wda 32 xs)
   replace HN:=Lib.hid (HN.out.below hb)
   replace HP:=Lib.hid (HP.out.below hb)
   replace HB:=Lib.hid (HB.out.trans (hb.mono HB.out.size))
   clear hb
   obtain⟨wa6,ewa6⟩:∃z,z=(wda.alloc (.cells xs 32)):=⟨_,rfl⟩
   rw[←ewa6] at HN HP HB HNB⊢
   clear ewa6
   obtain⟨Gwa6,eGwa6⟩:∃z,z=wda.heap.size:=⟨_,rfl⟩
   rw[←eGwa6] at HNB⊢
   clear eGwa6
   refine Reg.both_all [7] (by kernel_rfl) (by simp) ?_
   intro j0 hj0
   obtain rfl:j0=7:=by simpa using hj0
   clear hj0
   left
   obtain⟨v6,wa7,hrun,ho6,hg6,hv6⟩:=Wh.app_run (P:=Try.prog) enC 3 40 enC_length enC_one wa6 27 27 32 iP _ Try.underlying27 KP1.out KP2.out KP3.out KP4.out (by rfl) (by omega) B vw ws HN.out.way (⟨p,A5,c5⟩:En) Gwa6 (show Blk _ _ _ (pkA p A5 c5) from EXS.out▸HNB.out) (by have:=HL1.out;have:=HL4.out;omega) (by omega) HN.out.big
   obtain⟨hn6,hc6,hq6⟩:=dn_way HN0.out HB.out HN.out ho6 hg6 hv6
   have hr6:=HN.out.blk.grown hg6 HN.out.wr
   have hpx:=HP.out.grown hg6 (fun x=>HNP.out (.inr (.inr (.inl x))))
   refine⟨_,_,_,_,_,_,v6,wa7,rfl,by rfl,exec_app (by rw[EVW.out];rfl) rfl hrun,hpx,?_⟩
   simp only[Act.put,Reg.s0,Reg.s1,Reg.s2]
   refine Reg.tk 8 (v:=?va8) rfl hpx (fun w' hS=>?ha8) ?ra8
   case ha8=>go_simp<;>rfl
   simp only[Act.put,Reg.s0,Reg.s1,Reg.s2]
   refine Reg.tk 9 (v:=?va9) rfl hpx (fun w' hS=>?ha9) ?ra9
   case ha9=>go_simp<;>rfl
   simp only[Act.put,Reg.s0,Reg.s1,Reg.s2]
   obtain⟨A7,c7,e7,_⟩:=own_rdr enC_length ho6
   obtain⟨m7,em7⟩:∃m7,m7=(ws++[(⟨p,A5,c5⟩:En)]).length:=⟨_,rfl⟩
   rw[←em7] at e7
   subst e7
   have f0:=hr6.frozen 0
   have k6:wa7.cell? ⟨r,0,none⟩=some vw:=hr6.cell 0
   refine Reg.any_store 10 (wa7.setCell ⟨r,0,none⟩ (.slice A7 m7 c7)) rfl (by kernel_rfl) (by rfl) (by go_simp) (Si.Blk.far hpx _ _ (fun e=>HNP.out (.inl e.symm))) ?_
   simp only[Act.put,Reg.s0,Reg.s1,Reg.s2]
   refine wpAnyH_done (by kernel_rfl) ?_ _
   clear em7 f0 k6
   go_wp2_with fail
   go_meet
   exact⟨_,hn6,hc6.blk HP0.out (fun x=>HNP.out (dt_do x)),hc6,fun q hq=>hq6 q hq⟩
  ·left
   have hb:Below wda.heap.size wda (wda.alloc (.cells xs 32)):=(Below.refl _ _).alloc (Nat.le_refl _) _
   refine⟨_,_,_,_,_,_,.slice (some ⟨wda.heap.size,0,none⟩) 1 1,(wda.alloc (.cells xs 32)),rfl,by rfl,exec_slice rfl (SP.out _),(HP.out.below hb),?_⟩
   simp only[Act.put,Reg.s0,Reg.s1,Reg.s2]
   have HNB:=Lib.hid (Blk.new wda 32 xs)
   replace HN:=Lib.hid (HN.out.below hb)
   replace HP:=Lib.hid (HP.out.below hb)
   replace HB:=Lib.hid (HB.out.trans (hb.mono HB.out.size))
   clear hb
   obtain⟨wa10,ewa10⟩:∃z,z=(wda.alloc (.cells xs 32)):=⟨_,rfl⟩
   rw[←ewa10] at HN HP HB HNB⊢
   clear ewa10
   obtain⟨Gwa10,eGwa10⟩:∃z,z=wda.heap.size:=⟨_,rfl⟩
   rw[←eGwa10] at HNB⊢
   clear eGwa10
   refine Reg.both_all [4] (by kernel_rfl) (by simp) ?_
   intro j0 hj0
   obtain rfl:j0=4:=by simpa using hj0
   clear hj0
   left
   refine⟨_,_,_,_,_,_,(.slice A1 m c1),wa10,rfl,by rfl,(by have kw:=(EVW.out▸HN.out.c0:World.cell? _ ⟨r,0,none⟩=some (.slice A1 m c1));(go_simp<;>rfl)),HP.out,?_⟩
   simp only[Act.put,Reg.s0,Reg.s1,Reg.s2]
   refine Reg.both_all [7] (by kernel_rfl) (by simp) ?_
   intro j0 hj0
   obtain rfl:j0=7:=by simpa using hj0
   clear hj0
   left
   obtain⟨v6,wa11,hrun,ho6,hg6,hv6⟩:=Wh.app_run (P:=Try.prog) enC 3 40 enC_length enC_one wa10 27 27 32 iP _ Try.underlying27 KP1.out KP2.out KP3.out KP4.out (by rfl) (by omega) B vw ws HN.out.way (⟨p,A5,c5⟩:En) Gwa10 (show Blk _ _ _ (pkA p A5 c5) from EXS.out▸HNB.out) (by have:=HL1.out;have:=HL4.out;omega) (by omega) HN.out.big
   obtain⟨hn6,hc6,hq6⟩:=dn_way HN0.out HB.out HN.out ho6 hg6 hv6
   have hr6:=HN.out.blk.grown hg6 HN.out.wr
   have hpx:=HP.out.grown hg6 (fun x=>HNP.out (.inr (.inr (.inl x))))
   refine⟨_,_,_,_,_,_,v6,wa11,rfl,by rfl,exec_app (by rw[EVW.out];rfl) rfl hrun,hpx,?_⟩
   simp only[Act.put,Reg.s0,Reg.s1,Reg.s2]
   refine Reg.tk 8 (v:=?va12) rfl hpx (fun w' hS=>?ha12) ?ra12
   case ha12=>go_simp<;>rfl
   simp only[Act.put,Reg.s0,Reg.s1,Reg.s2]
   refine Reg.tk 9 (v:=?va13) rfl hpx (fun w' hS=>?ha13) ?ra13
   case ha13=>go_simp<;>rfl
   simp only[Act.put,Reg.s0,Reg.s1,Reg.s2]
   obtain⟨A7,c7,e7,_⟩:=own_rdr enC_length ho6
   obtain⟨m7,em7⟩:∃m7,m7=(ws++[(⟨p,A5,c5⟩:En)]).length:=⟨_,rfl⟩
   rw[←em7] at e7
   subst e7
   have f0:=hr6.frozen 0
   have k6:wa11.cell? ⟨r,0,none⟩=some vw:=hr6.cell 0
   refine Reg.any_store 10 (wa11.setCell ⟨r,0,none⟩ (.slice A7 m7 c7)) rfl (by kernel_rfl) (by rfl) (by go_simp) (Si.Blk.far hpx _ _ (fun e=>HNP.out (.inl e.symm))) ?_
   simp only[Act.put,Reg.s0,Reg.s1,Reg.s2]
   refine wpAnyH_done (by kernel_rfl) ?_ _
   clear em7 f0 k6
   go_wp2_with fail
   go_meet
   exact⟨_,hn6,hc6.blk HP0.out (fun x=>HNP.out (dt_do x)),hc6,fun q hq=>hq6 q hq⟩
 case rest=>
  obtain⟨v7,hn,hp,hc,hq⟩:=hcut
  have HTT:=Lib.hid (show ∀q,q<W3.heap.size→DT r vs v7 q→DT r vs vw q from fun q hq' x=>by
   rcases x with x | x | x
   ·exact .inl x
   ·exact .inr (.inl x)
   ·rcases hq q (.inr (.inr (.inl x))) with k | k
    ·rcases k with k | k | k | ⟨y,hy,a,ha,k⟩
     ·exact .inl k
     ·exact .inr (.inl k)
     ·exact .inr (.inr k)
     ·exact absurd (k▸x) (hn.off y hy a ha).2.2.2.1
    ·omega)
  have HND:=Lib.hid (show ∀k,NP≤k→k<W3.heap.size→¬DO r vs v7 es k from fun k hk hl x=>by
   rcases hq k x with y | y
   ·have h1:=HNW.out.own_lt y;have:=ENP.out;omega
   ·omega)
  have HXD:=Lib.hid (show ∀a,A5=some a→B≤a.block∧¬DT r vs v7 a.block∧a.block<wc.heap.size from fun a ha=>by
   have q:=HXO.out a ha
   exact⟨Nat.le_trans HNW.out.big (by have:=ENP.out;omega),fun x=>HND.out _ q.1 q.2.1 (dt_do x),Nat.lt_of_lt_of_le q.2.1 hc.size⟩)
  replace HRD:=Lib.hid (rd_chg HRD.out hc (fun a ha x=>by
   have q:=HXO.out a ha
   have h1:=HNW.out.own_lt (dt_do (es:=es) x);have:=ENP.out;omega))
  have HCW:=Lib.hid hc;have HQW:=Lib.hid hq
  replace HNP:=Lib.hid (show ¬DO r vs v7 es NP from HND.out NP (Nat.le_refl _) HP3.out.lt)
  replace HN:=Lib.hid hn;replace HP:=Lib.hid hp
  have HN0:=Lib.hid HN.out
  have HB:=Lib.hid (Below.refl wc.heap.size wc)
  clear hn hp hc hq
  go_upto_region 5 with fail
  have hb:Below wc.heap.size wc wc.drew:=below_drewN (Below.refl _ _) 1
  replace HN:=Lib.hid (HN.out.below hb)
  replace HP:=Lib.hid (HP.out.below hb)
  replace HB:=Lib.hid (HB.out.trans (hb.mono HB.out.size))
  replace HRD:=Lib.hid ((HRD.out.below hb).more hb.size)
  replace HXD:=Lib.hid (show ∀a,A5=some a→B≤a.block∧¬DT r vs v7 a.block∧a.block<_ from fun a ha=>have q:=HXD.out a ha;⟨q.1,q.2.1,Nat.lt_of_lt_of_le q.2.2 hb.size⟩)
  clear hb
  obtain⟨wdb,ewd⟩:∃z,z=wc.drew:=⟨_,rfl⟩
  refine Reg.any_begin (fun w'=>Blk w' NP 32 xs) 11 rfl (by kernel_rfl) HP.out ?_
  rw[←ewd] at HN HP HB HRD HXD⊢
  clear ewd
  refine Reg.tk 0 (v:=?vb14) rfl HP.out (fun w' hS=>?hb14) ?rb14
  case hb14=>go_simp<;>rfl
  simp only[Act.put,Reg.s0,Reg.s1,Reg.s2]
  refine Reg.tk 1 (v:=?vb15) rfl HP.out (fun w' hS=>?hb15) ?rb15
  case hb15=>go_simp<;>rfl
  simp only[Act.put,Reg.s0,Reg.s1,Reg.s2]
  refine Reg.tk 2 (v:=?vb16) rfl HP.out (fun w' hS=>?hb16) ?rb16
  case hb16=>go_simp<;>rfl
  simp only[Act.put,Reg.s0,Reg.s1,Reg.s2]
  refine Reg.tk 3 (v:=?vb17) rfl HP.out (fun w' hS=>?hb17) ?rb17
  case hb17=>go_simp<;>rfl
  simp only[Act.put,Reg.s0,Reg.s1,Reg.s2]
  refine Reg.tk 5 (v:=.agg xs) rfl HP.out (fun w' hS=>?hb18) ?rb18
  case hb18=>exact Wh.exec_load (.tmp 3) rfl rfl hS Try.underlying32 rfl HXI.out
  simp only[Act.put,Reg.s0,Reg.s1,Reg.s2]
  refine Reg.both_all [4,6] (by kernel_rfl) (by simp) ?_
  intro j0 hj0
  have hj0:j0=4∨j0=6:=by simpa using hj0
  rcases hj0 with rfl | rfl
  ·left
   refine⟨_,_,_,_,_,_,(.slice A0s ns c0s),wdb,rfl,by rfl,(by have kw:=(EVS.out▸HN.out.c1:World.cell? _ ⟨r,1,none⟩=some (.slice A0s ns c0s));(go_simp<;>rfl)),HP.out,?_⟩
   simp only[Act.put,Reg.s0,Reg.s1,Reg.s2]
   refine Reg.both_all [6] (by kernel_rfl) (by simp) ?_
   intro j0 hj0
   obtain rfl:j0=6:=by simpa using hj0
   clear hj0
   left
   have hb:Below wdb.heap.size wdb (wdb.alloc (.cells xs 32)):=(Below.refl _ _).alloc (Nat.le_refl _) _
   refine⟨_,_,_,_,_,_,.slice (some ⟨wdb.heap.size,0,none⟩) 1 1,(wdb.alloc (.cells xs 32)),rfl,by rfl,exec_slice rfl (SP.out _),(HP.out.below hb),?_⟩
   simp only[Act.put,Reg.s0,Reg.s1,Reg.s2]
   have HNB:=Lib.hid (Blk.new wdb 32 xs)
   replace HN:=Lib.hid (HN.out.below hb)
   replace HP:=Lib.hid (HP.out.below hb)
   replace HB:=Lib.hid (HB.out.trans (hb.mono HB.out.size))
   replace HRD:=Lib.hid ((HRD.out.below hb).more hb.size)
   replace HXD:=Lib.hid (show ∀a,A5=some a→B≤a.block∧¬DT r vs v7 a.block∧a.block<_ from fun a ha=>have q:=HXD.out a ha;⟨q.1,q.2.1,Nat.lt_of_lt_of_le q.2.2 hb.size⟩)
   clear hb
   obtain⟨wb19,ewb19⟩:∃z,z=(wdb.alloc (.cells xs 32)):=⟨_,rfl⟩
   rw[←ewb19] at HN HP HB HRD HXD HNB⊢
   clear ewb19
   obtain⟨Gwb19,eGwb19⟩:∃z,z=wdb.heap.size:=⟨_,rfl⟩
   rw[←eGwb19] at HNB⊢
   clear eGwb19
   refine Reg.both_all [7] (by kernel_rfl) (by simp) ?_
   intro j0 hj0
   obtain rfl:j0=7:=by simpa using hj0
   clear hj0
   left
   obtain⟨v6,wb20,hrun,ho6,hg6,hv6⟩:=Wh.app_run (P:=Try.prog) enC 3 40 enC_length enC_one wb19 27 27 32 iP _ Try.underlying27 KP1.out KP2.out KP3.out KP4.out (by rfl) (by omega) B vs es HN.out.row (⟨p,A5,c5⟩:En) Gwb19 (show Blk _ _ _ (pkA p A5 c5) from EXS.out▸HNB.out) (by have:=HL1.out;have:=HL4.out;omega) (by omega) HN.out.big
   obtain⟨hn6,hc6,hq6⟩:=dn_sent (e:=⟨p,A5,c5⟩) HN0.out HB.out HN.out HRD.out HXD.out ho6 hg6 hv6
   have hr6:=HN.out.blk.grown hg6 HN.out.vr
   have hpx:=HP.out.grown hg6 (fun x=>HNP.out (.inr (.inl x)))
   refine⟨_,_,_,_,_,_,v6,wb20,rfl,by rfl,exec_app (by rw[EVS.out];rfl) rfl hrun,hpx,?_⟩
   simp only[Act.put,Reg.s0,Reg.s1,Reg.s2]
   refine Reg.tk 8 (v:=?vb21) rfl hpx (fun w' hS=>?hb21) ?rb21
   case hb21=>go_simp<;>rfl
   simp only[Act.put,Reg.s0,Reg.s1,Reg.s2]
   refine Reg.tk 9 (v:=?vb22) rfl hpx (fun w' hS=>?hb22) ?rb22
   case hb22=>go_simp<;>rfl
   simp only[Act.put,Reg.s0,Reg.s1,Reg.s2]
   obtain⟨A7,c7,e7,_⟩:=own_rdr enC_length ho6
   obtain⟨m7,em7⟩:∃m7,m7=(es++[(⟨p,A5,c5⟩:En)]).length:=⟨_,rfl⟩
   rw[←em7] at e7
   subst e7
   have f0:=hr6.frozen 1
   have k6:wb20.cell? ⟨r,1,none⟩=some vs:=hr6.cell 1
   refine Reg.any_store 10 (wb20.setCell ⟨r,1,none⟩ (.slice A7 m7 c7)) rfl (by kernel_rfl) (by rfl) (by go_simp) (Si.Blk.far hpx _ _ (fun e=>HNP.out (.inl e.symm))) ?_
   simp only[Act.put,Reg.s0,Reg.s1,Reg.s2]
   refine wpAnyH_done (by kernel_rfl) ?_ _
   have HFN:=Lib.hid hn6;have HFC:=Lib.hid hc6;have HFQ:=Lib.hid hq6
   clear f0 k6 hr6 ho6 hg6 hv6 hrun em7 hpx hn6 hc6 hq6
   go_wp2
   go_ret
   refine⟨rfl,_,_,A5,c5,HFN.out,(Chg.of_below HBW.out).trans (HCW.out.trans HFC.out (fun q hq x=>HTT.out q hq x)) (fun q _ x=>dt_do x),fun q hq=>?_⟩
   rcases HFQ.out q hq with k | k | ⟨a,ha,k⟩
   ·rcases HQW.out q k with k | k
    ·exact .inl k
    ·exact .inr (Nat.le_trans HBW.out.size k)
   ·exact .inr (Nat.le_trans HBW.out.size (Nat.le_trans HCW.out.size k))
   ·exact .inr (by have h:=(HXO.out a ha).1;rw[ENP.out] at h;omega)
  ·left
   have hb:Below wdb.heap.size wdb (wdb.alloc (.cells xs 32)):=(Below.refl _ _).alloc (Nat.le_refl _) _
   refine⟨_,_,_,_,_,_,.slice (some ⟨wdb.heap.size,0,none⟩) 1 1,(wdb.alloc (.cells xs 32)),rfl,by rfl,exec_slice rfl (SP.out _),(HP.out.below hb),?_⟩
   simp only[Act.put,Reg.s0,Reg.s1,Reg.s2]
   have HNB:=Lib.hid (Blk.new wdb 32 xs)
   replace HN:=Lib.hid (HN.out.below hb)
   replace HP:=Lib.hid (HP.out.below hb)
   replace HB:=Lib.hid (HB.out.trans (hb.mono HB.out.size))
   replace HRD:=Lib.hid ((HRD.out.below hb).more hb.size)
   replace HXD:=Lib.hid (show ∀a,A5=some a→B≤a.block∧¬DT r vs v7 a.block∧a.block<_ from fun a ha=>have q:=HXD.out a ha;⟨q.1,q.2.1,Nat.lt_of_lt_of_le q.2.2 hb.size⟩)
   clear hb
   obtain⟨wb23,ewb23⟩:∃z,z=(wdb.alloc (.cells xs 32)):=⟨_,rfl⟩
   rw[←ewb23] at HN HP HB HRD HXD HNB⊢
   clear ewb23
   obtain⟨Gwb23,eGwb23⟩:∃z,z=wdb.heap.size:=⟨_,rfl⟩
   rw[←eGwb23] at HNB⊢
   clear eGwb23
   refine Reg.both_all [4] (by kernel_rfl) (by simp) ?_
   intro j0 hj0
   obtain rfl:j0=4:=by simpa using hj0
   clear hj0
   left
   refine⟨_,_,_,_,_,_,(.slice A0s ns c0s),wb23,rfl,by rfl,(by have kw:=(EVS.out▸HN.out.c1:World.cell? _ ⟨r,1,none⟩=some (.slice A0s ns c0s));(go_simp<;>rfl)),HP.out,?_⟩
   simp only[Act.put,Reg.s0,Reg.s1,Reg.s2]
   refine Reg.both_all [7] (by kernel_rfl) (by simp) ?_
   intro j0 hj0
   obtain rfl:j0=7:=by simpa using hj0
   clear hj0
   left
   obtain⟨v6,wb24,hrun,ho6,hg6,hv6⟩:=Wh.app_run (P:=Try.prog) enC 3 40 enC_length enC_one wb23 27 27 32 iP _ Try.underlying27 KP1.out KP2.out KP3.out KP4.out (by rfl) (by omega) B vs es HN.out.row (⟨p,A5,c5⟩:En) Gwb23 (show Blk _ _ _ (pkA p A5 c5) from EXS.out▸HNB.out) (by have:=HL1.out;have:=HL4.out;omega) (by omega) HN.out.big
   obtain⟨hn6,hc6,hq6⟩:=dn_sent (e:=⟨p,A5,c5⟩) HN0.out HB.out HN.out HRD.out HXD.out ho6 hg6 hv6
   have hr6:=HN.out.blk.grown hg6 HN.out.vr
   have hpx:=HP.out.grown hg6 (fun x=>HNP.out (.inr (.inl x)))
   refine⟨_,_,_,_,_,_,v6,wb24,rfl,by rfl,exec_app (by rw[EVS.out];rfl) rfl hrun,hpx,?_⟩
   simp only[Act.put,Reg.s0,Reg.s1,Reg.s2]
   refine Reg.tk 8 (v:=?vb25) rfl hpx (fun w' hS=>?hb25) ?rb25
   case hb25=>go_simp<;>rfl
   simp only[Act.put,Reg.s0,Reg.s1,Reg.s2]
   refine Reg.tk 9 (v:=?vb26) rfl hpx (fun w' hS=>?hb26) ?rb26
   case hb26=>go_simp<;>rfl
   simp only[Act.put,Reg.s0,Reg.s1,Reg.s2]
   obtain⟨A7,c7,e7,_⟩:=own_rdr enC_length ho6
   obtain⟨m7,em7⟩:∃m7,m7=(es++[(⟨p,A5,c5⟩:En)]).length:=⟨_,rfl⟩
   rw[←em7] at e7
   subst e7
   have f0:=hr6.frozen 1
   have k6:wb24.cell? ⟨r,1,none⟩=some vs:=hr6.cell 1
   refine Reg.any_store 10 (wb24.setCell ⟨r,1,none⟩ (.slice A7 m7 c7)) rfl (by kernel_rfl) (by rfl) (by go_simp) (Si.Blk.far hpx _ _ (fun e=>HNP.out (.inl e.symm))) ?_
   simp only[Act.put,Reg.s0,Reg.s1,Reg.s2]
   refine wpAnyH_done (by kernel_rfl) ?_ _
   have HFN:=Lib.hid hn6;have HFC:=Lib.hid hc6;have HFQ:=Lib.hid hq6
   clear f0 k6 hr6 ho6 hg6 hv6 hrun em7 hpx hn6 hc6 hq6
   go_wp2
   go_ret
   refine⟨rfl,_,_,A5,c5,HFN.out,(Chg.of_below HBW.out).trans (HCW.out.trans HFC.out (fun q hq x=>HTT.out q hq x)) (fun q _ x=>dt_do x),fun q hq=>?_⟩
   rcases HFQ.out q hq with k | k | ⟨a,ha,k⟩
   ·rcases HQW.out q k with k | k
    ·exact .inl k
    ·exact .inr (Nat.le_trans HBW.out.size k)
   ·exact .inr (Nat.le_trans HBW.out.size (Nat.le_trans HCW.out.size k))
   ·exact .inr (by have h:=(HXO.out a ha).1;rw[ENP.out] at h;omega)
end Go.Proofs.Ytlihoeipmjbnbaa.Nt
end
