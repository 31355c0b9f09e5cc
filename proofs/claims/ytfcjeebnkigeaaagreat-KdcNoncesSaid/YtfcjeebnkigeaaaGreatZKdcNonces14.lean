import Derived.Deep.LoopGhost
import Derived.DeepKeys
import Derived.Laws.StructEq
import Derived.StillTailTactics
import Derived.Laws.OwnMore
import Derived.SizedLaws
import Derived.Test.YtfcjeebnkigeaaaGreatRows
import Derived.Lib.SmallJoins
import Derived.Deep.Strs
import Derived.ChangeSame
import Derived.Deep.RegionHeld3
import Derived.Deep.MidRow
import Derived.BigQuiet
import Derived.Deep.QuietTactic
import Derived.Test.YtfcjeebnkigeaaaGreatZKdcNonces1
import Derived.Test.YtfcjeebnkigeaaaGreatZKdcNonces2
import Derived.Test.YtfcjeebnkigeaaaGreatZKdcNonces3
import Derived.Test.YtfcjeebnkigeaaaGreatZKdcNonces4
import Derived.Test.YtfcjeebnkigeaaaGreatZKdcNonces5
import Derived.Test.YtfcjeebnkigeaaaGreatZKdcNonces6
import Derived.Test.YtfcjeebnkigeaaaGreatZKdcNonces7
import Derived.Test.YtfcjeebnkigeaaaGreatZKdcNonces8
import Derived.Test.YtfcjeebnkigeaaaGreatZKdcNonces9
import Derived.Test.YtfcjeebnkigeaaaGreatZKdcNonces10
import Derived.Test.YtfcjeebnkigeaaaGreatZKdcNonces11
import Derived.Test.YtfcjeebnkigeaaaGreatZKdcNonces12
import Derived.Test.YtfcjeebnkigeaaaGreatZKdcNonces13
section
set_option linter.unusedVariables false
namespace Go.Proofs.YtfcjeebnkigeaaaGreat.Kd
open Go.RowKit Go.Proofs.YtfcjeebnkigeaaaGreat.Mem Go.Proofs.YtfcjeebnkigeaaaGreat.Se Go.Proofs.YtfcjeebnkigeaaaGreat.Nm
open Go.Proofs.YtfcjeebnkigeaaaGreat.Rg (It Ent Ring RO DRing DO its)
open Go.Proofs.YtfcjeebnkigeaaaGreat.Ms (Re Tg reC tgC)
open Go.Proofs.YtfcjeebnkigeaaaGreat.Rt (Tp kl)
theorem key_bvs {l:L} (h:l.length=32):key32 (ksOf l)=(bvs l).toArray:=by
 show((List.range 32).map (fun i=>bv (ksOf l i))).toArray=(bvs l).toArray
 congr 1
 apply List.ext_getElem?
 intro i
 simp only[List.getElem?_map,bvs]
 by_cases g:i<32
 ·rw[List.getElem?_range g,List.getElem?_eq_getElem (by omega)]
  simp [ksOf,List.getD,h,g]
 ·rw[List.getElem?_eq_none (by simp;omega),List.getElem?_eq_none (by omega)]
  rfl
theorem put_one (w:World) (g o:Nat) (u:Value):Chg (fun j=>j=g) w (w.setCell ⟨g,o,none⟩ u):=(Chg.refl (fun j=>j=g) w).set (p:=⟨g,o,none⟩) (.inl rfl) u
def SlK (K:Nat→Prop) (w:World) (v:Value) (ls:List L):Prop:=∃A c,v = .slice A ls.length c∧ls.length≤c∧(ls = []∨∃b o,A=some ⟨b,o,none⟩∧K b∧∀i u,(strs ls)[i]? = some u→w.cell? ⟨b,o+i,none⟩=some u)
def SpK (K:Nat→Prop) (w:World) (v:Value) (P:List (L×L)):Prop:=∃A c,v = .slice A P.length c∧P.length≤c∧(P = []∨∃b o,A=some ⟨b,o,none⟩∧K b∧∀i,i<P.length→w.cell? ⟨b,o+i*2,none⟩=some (.string ⟨(kl P i).1.toArray⟩)∧w.cell? ⟨b,o+i*2+1,none⟩=some (.string ⟨(kl P i).2.toArray⟩))
structure TpK (K:Nat→Prop) (w:World) (v1 v2 v3:Value) (T:Tp):Prop where
 r:SlK K w v1 T.R
 k:SpK K w v2 T.K
 n:v3 = .slice none 0 0
 p:T.P = []
section
variable {K K' S:Nat→Prop} {w w':World} {v v1 v2 v3:Value} {ls:List L} {P:List (L×L)} {T:Tp}
theorem SlK.keep (h:SlK K w v ls) (hk:∀b o,K b→w'.cell? ⟨b,o,none⟩=w.cell? ⟨b,o,none⟩) (hm:∀b,K b→K' b):SlK K' w' v ls:=by
 obtain⟨A,c,h1,h2,h3⟩:=h
 refine⟨A,c,h1,h2,?_⟩
 rcases h3 with h3 | ⟨b,o,e,hb,hc⟩
 ·exact .inl h3
 ·exact .inr ⟨b,o,e,hm b hb,fun i u hu=>(hk b _ hb).trans (hc i u hu)⟩
theorem SpK.keep (h:SpK K w v P) (hk:∀b o,K b→w'.cell? ⟨b,o,none⟩=w.cell? ⟨b,o,none⟩) (hm:∀b,K b→K' b):SpK K' w' v P:=by
 obtain⟨A,c,h1,h2,h3⟩:=h
 refine⟨A,c,h1,h2,?_⟩
 rcases h3 with h3 | ⟨b,o,e,hb,hc⟩
 ·exact .inl h3
 ·exact .inr ⟨b,o,e,hm b hb,fun i hi=>⟨(hk b _ hb).trans (hc i hi).1,(hk b _ hb).trans (hc i hi).2⟩⟩
theorem TpK.keep (h:TpK K w v1 v2 v3 T) (hk:∀b o,K b→w'.cell? ⟨b,o,none⟩=w.cell? ⟨b,o,none⟩) (hm:∀b,K b→K' b):TpK K' w' v1 v2 v3 T:=⟨h.r.keep hk hm,h.k.keep hk hm,h.n,h.p⟩
theorem TpK.chg (h:TpK K w v1 v2 v3 T) (hc:Chg S w w') (hs:∀b,K b→b<w.heap.size∧¬S b):TpK K w' v1 v2 v3 T:=
 h.keep (fun b o hb=>World.cell?_of_block (a:=⟨b,o,none⟩) (hc.block b (hs b hb).1 (hs b hb).2)) (fun _ x=>x)
theorem SlK.slv {B:Nat} (h:SlK K w v ls) (hK:∀b,K b→b<B):Rt.SlV w B v ls:=by
 obtain⟨A,c,h1,h2,h3⟩:=h
 refine⟨A,c,h1,h2,?_⟩
 rcases h3 with h3 | ⟨b,o,e,hb,hc⟩
 ·subst h3;exact .inl rfl
 ·exact .inr ⟨b,o,e,hK b hb,hc⟩
theorem SpK.slp {B:Nat} (h:SpK K w v P) (hK:∀b,K b→b<B):Rt.SlP w B v P:=by
 obtain⟨A,c,h1,h2,h3⟩:=h
 refine⟨A,c,h1,h2,?_⟩
 rcases h3 with h3 | ⟨b,o,e,hb,hc⟩
 ·exact .inl h3
 ·exact .inr ⟨b,o,e,hK b hb,hc⟩
theorem TpK.tpv {B:Nat} (h:TpK K w v1 v2 v3 T) (hK:∀b,K b→b<B):Rt.TpV w B (.agg #[v1,v2,v3]) T:=
 ⟨v1,v2,v3,rfl,h.r.slv hK,h.k.slp hK,none,0,by rw[h.n,h.p];rfl,by rw[h.p];exact Nat.le_refl _,.inl h.p⟩
theorem TpK.sizes (h:TpK K w v1 v2 v3 T):∃A1 c1 A2 c2,v1 = .slice A1 T.R.length c1∧v2 = .slice A2 T.K.length c2∧v3 = .slice none 0 0:=by
 obtain⟨A1,c1,h1,_⟩:=h.r
 obtain⟨A2,c2,h2,_⟩:=h.k
 exact⟨A1,c1,A2,c2,h1,h2,h.n⟩
end
def SlN (S:Nat→Prop) (w:World) (v:Value) (l:L):Prop:=∃A c,v = .slice A l.length c∧l.length≤c∧RdA S w A (bvs l)
section
variable {S S' T:Nat→Prop} {w w':World} {v:Value} {l:L}
theorem SlN.keep (h:SlN S w v l) (hc:Chg T w w') (ht:∀i,i<w.heap.size→T i→S i) (hs:∀i,i<w.heap.size→S' i→S i):SlN S' w' v l:=by
 obtain⟨A,c,h1,h2,h4⟩:=h
 exact⟨A,c,h1,h2,h4.keep hc ht hs⟩
theorem SlN.below (h:SlN S w v l) (hb:Below w.heap.size w w'):SlN S w' v l:=h.keep (Chg.of_below (S:=fun _=>False) hb) (fun _ _ x=>x.elim) (fun _ _ x=>x)
theorem SlN.mono (h:SlN S w v l) (hs:∀i,i<w.heap.size→S' i→S i):SlN S' w v l:=h.keep (Chg.refl (fun _=>False) w) (fun _ _ x=>x.elim) hs
theorem SlN.sl (h:SlN S w v l):Ms.SlB w w.heap.size v l:=by
 obtain⟨A,c,h1,h2,h4⟩:=h
 exact⟨A,c,h1,h2,h4.rd⟩
end
def ReN (S:Nat→Prop) (w:World) (cs:Array Value) (x:Re):Prop:=∃b a,cs=(reC x b a).toArray∧SlN S w b x.t.b∧SlN S w a x.b
def TgN (S:Nat→Prop) (w:World) (cs:Array Value) (x:Tg):Prop:=∃b a,cs=(tgC x b a).toArray∧SlN S w b x.t.b∧SlN S w a x.a
section
variable {S S' T:Nat→Prop} {w w':World} {cs:Array Value} {x:Re} {y:Tg}
theorem ReN.keep (h:ReN S w cs x) (hc:Chg T w w') (ht:∀i,i<w.heap.size→T i→S i) (hs:∀i,i<w.heap.size→S' i→S i):ReN S' w' cs x:=by
 obtain⟨b,a,h1,h2,h3⟩:=h
 exact⟨b,a,h1,h2.keep hc ht hs,h3.keep hc ht hs⟩
theorem ReN.below (h:ReN S w cs x) (hb:Below w.heap.size w w'):ReN S w' cs x:=h.keep (Chg.of_below (S:=fun _=>False) hb) (fun _ _ x=>x.elim) (fun _ _ x=>x)
theorem TgN.keep (h:TgN S w cs y) (hc:Chg T w w') (ht:∀i,i<w.heap.size→T i→S i) (hs:∀i,i<w.heap.size→S' i→S i):TgN S' w' cs y:=by
 obtain⟨b,a,h1,h2,h3⟩:=h
 exact⟨b,a,h1,h2.keep hc ht hs,h3.keep hc ht hs⟩
theorem TgN.below (h:TgN S w cs y) (hb:Below w.heap.size w w'):TgN S w' cs y:=h.keep (Chg.of_below (S:=fun _=>False) hb) (fun _ _ x=>x.elim) (fun _ _ x=>x)
theorem re0_n:ReN S w (reC Ms.re0 (.slice none 0 0) (.slice none 0 0)).toArray Ms.re0:=⟨_,_,rfl,⟨none,0,rfl,Nat.le_refl _,.inl rfl⟩,⟨none,0,rfl,Nat.le_refl _,.inl rfl⟩⟩
end
structure KP where
 k:Nat
 r:Nat
 lo:Nat
 hi:Nat
 R:L
 T:Tp
 v:Value
 v1:Value
 v2:Value
 v3:Value
def KT (p:KP) (j:Nat):Prop:=p.lo≤j∧j<p.hi
def KO (p:KP) (es:List Ent) (j:Nat):Prop:=j=p.k∨RO p.r p.v es j
def KA (p:KP) (es:List Ent) (j:Nat):Prop:=KO p es j∨KT p j
structure KD (w:World) (B:Nat) (p:KP) (es:List Ent) (n i:Nat):Prop where
 blk:Blk w p.k 136 #[.string ⟨p.R.toArray⟩,p.v1,p.v2,p.v3,.pointer (some ⟨p.r,0,none⟩),.int .i64 (n:Int),.int .i64 (i:Int)]
 ring:Ring w B p.r p.v es
 tp:TpK (KT p) w p.v1 p.v2 p.v3 p.T
 lo:B≤p.k
 tlo:B≤p.lo
 hi:p.hi≤w.heap.size
 kr:¬RO p.r p.v es p.k
 kt:¬KT p p.k
 rt:∀j,RO p.r p.v es j→¬KT p j
section
variable {w w':World} {B:Nat} {p:KP} {es es':List Ent} {n i n' i':Nat} {S:Nat→Prop}
theorem KD.ko_lt (h:KD w B p es n i) {j:Nat} (hj:KO p es j):j<w.heap.size:=by
 rcases hj with hj | hj
 ·subst hj;exact h.blk.lt
 ·exact h.ring.own_lt hj
theorem KD.ka_lt (h:KD w B p es n i) {j:Nat} (hj:KA p es j):j<w.heap.size:=by
 rcases hj with hj | hj
 ·exact h.ko_lt hj
 ·have:=hj.2;have:=h.hi;omega
theorem KD.ko_lo (h:KD w B p es n i) {j:Nat} (hj:KO p es j):B≤j:=by
 rcases hj with hj | hj
 ·subst hj;exact h.lo
 ·exact h.ring.own_lo hj
theorem KD.lt (h:KD w B p es n i):p.k<w.heap.size:=h.blk.lt
theorem KD.chg (h:KD w B p es n i) (hc:Chg S w w') (hs:∀j,KA p es j→¬S j):KD w' B p es n i:=
 ⟨hc.blk h.blk (hs _ (.inl (.inl rfl))),h.ring.chg hc (fun j hj=>hs j (.inl (.inr hj))),h.tp.chg hc (fun j hj=>⟨by have:=hj.2;have:=h.hi;omega,hs j (.inr hj)⟩),h.lo,h.tlo,Nat.le_trans h.hi hc.size,h.kr,h.kt,h.rt⟩
theorem KD.below (h:KD w B p es n i) (hb:Below w.heap.size w w'):KD w' B p es n i:=h.chg (S:=fun _=>False) (Chg.of_below hb) (fun _ _ x=>x)
theorem KD.drew (h:KD w B p es n i):KD w.drew B p es n i:=h.below (below_drewN (Below.refl _ _) 1)
theorem KD.use (h:KD w B p es n i) {q:Nat} {e:Ent} (he:es[q]? = some e) {h':Option Nat} {a o z:Nat} (hr:Ring w' B p.r p.v (es.set q ⟨e.it,e.b,h',a,o,z⟩)) (hs:StepO w w' e.b e.h h'):KD w' B p (es.set q ⟨e.it,e.b,h',a,o,z⟩) n i:=by
 have hk:∀j,KT p j→j<w.heap.size:=fun j hj=>by have:=hj.2;have:=h.hi;omega
 refine⟨hs.1.blk h.blk (fun x=>h.kr (Rg.ow_ro he x)),hr,h.tp.chg hs.1 (fun j hj=>⟨hk j hj,fun x=>h.rt j (Rg.ow_ro he x) hj⟩),h.lo,h.tlo,Nat.le_trans h.hi hs.1.size,fun x=>?_,h.kt,fun j hj x=>?_⟩
 ·rcases h.ring.use_new he a o z hs _ x with y | y
  ·exact h.kr y
  ·have:=h.lt;omega
 ·rcases h.ring.use_new he a o z hs j hj with y | y
  ·exact h.rt j y x
  ·have:=hk j x;omega
def New' (w:World) (p:KP) (es es':List Ent):Prop:=∀j,KO p es' j→KO p es j∨w.heap.size≤j
theorem New'.refl (w:World) (p:KP) (es:List Ent):New' w p es es:=fun _ h=>.inl h
theorem New'.trans {es2:List Ent} {a:World} (h:New' a p es es') (g:New' w p es' es2) (hs:a.heap.size≤w.heap.size):New' a p es es2:=fun j hj=>by
 rcases g j hj with x | x
 ·exact h j x
 ·exact .inr (by omega)
theorem KD.use_new (h:KD w B p es n i) {q:Nat} {e:Ent} (he:es[q]? = some e) {h':Option Nat} (a o z:Nat) (hs:StepO w w' e.b e.h h'):New' w p es (es.set q ⟨e.it,e.b,h',a,o,z⟩):=fun j hj=>by
 rcases hj with hj | hj
 ·exact .inl (.inl hj)
 ·rcases h.ring.use_new he a o z hs j hj with y | y
  ·exact .inl (.inr y)
  ·exact .inr y
theorem ow_ko {q:Nat} {e:Ent} (he:es[q]? = some e) {j:Nat} (h:Ow e.b e.h j):KO p es j:=.inr (Rg.ow_ro he h)
theorem KD.put5 (h:KD w B p es n i) (n':Nat):KD (w.setCell ⟨p.k,5,none⟩ (.int .i64 (n':Int))) B p es n' i:=by
 have hc:Chg (fun j=>j=p.k) w (w.setCell ⟨p.k,5,none⟩ (.int .i64 (n':Int))):=put_one _ _ _ _
 refine⟨?_,h.ring.chg hc (fun j hj x=>h.kr (x▸hj)),h.tp.chg hc (fun j hj=>⟨by have:=hj.2;have:=h.hi;omega,fun x=>h.kt (x▸hj)⟩),h.lo,h.tlo,Nat.le_trans h.hi hc.size,h.kr,h.kt,h.rt⟩
 have:=h.blk.set 5 (.int .i64 (n':Int))
 simpa using this
theorem KD.put6 (h:KD w B p es n i) (i':Nat):KD (w.setCell ⟨p.k,6,none⟩ (.int .i64 (i':Int))) B p es n i':=by
 have hc:Chg (fun j=>j=p.k) w (w.setCell ⟨p.k,6,none⟩ (.int .i64 (i':Int))):=put_one _ _ _ _
 refine⟨?_,h.ring.chg hc (fun j hj x=>h.kr (x▸hj)),h.tp.chg hc (fun j hj=>⟨by have:=hj.2;have:=h.hi;omega,fun x=>h.kt (x▸hj)⟩),h.lo,h.tlo,Nat.le_trans h.hi hc.size,h.kr,h.kt,h.rt⟩
 have:=h.blk.set 6 (.int .i64 (i':Int))
 simpa using this
end
structure DP where
 x:Nat
 q:Nat
 lo:Nat
 hi:Nat
 R:L
 T:Tp
 v:Value
 v1:Value
 v2:Value
 v3:Value
def DT (p:DP) (j:Nat):Prop:=p.lo≤j∧j<p.hi
def DA (p:DP) (j:Nat):Prop:=j=p.x∨DO p.q p.v j∨DT p j
structure DK (w:World) (B:Nat) (p:DP) (l:List It) (n m:Nat):Prop where
 blk:Blk w p.x 63 #[.string ⟨p.R.toArray⟩,p.v1,p.v2,p.v3,.pointer (some ⟨p.q,0,none⟩),.int .i64 (n:Int),.int .i64 (m:Int)]
 ring:DRing w B p.q p.v l
 tp:TpK (DT p) w p.v1 p.v2 p.v3 p.T
 lo:B≤p.x
 tlo:B≤p.lo
 hi:p.hi≤w.heap.size
 xr:¬DO p.q p.v p.x
 xt:¬DT p p.x
section
variable {w w':World} {B:Nat} {p:DP} {l:List It} {n m:Nat} {S:Nat→Prop}
theorem DK.da_lt (h:DK w B p l n m) {j:Nat} (hj:DA p j):j<w.heap.size:=by
 rcases hj with hj | hj | hj
 ·subst hj;exact h.blk.lt
 ·exact h.ring.own_lt hj
 ·have:=hj.2;have:=h.hi;omega
theorem DK.lt (h:DK w B p l n m):p.x<w.heap.size:=h.blk.lt
theorem DK.chg (h:DK w B p l n m) (hc:Chg S w w') (hs:∀j,DA p j→¬S j):DK w' B p l n m:=
 ⟨hc.blk h.blk (hs _ (.inl rfl)),h.ring.chg hc (fun j hj=>hs j (.inr (.inl hj))),h.tp.chg hc (fun j hj=>⟨by have:=hj.2;have:=h.hi;omega,hs j (.inr (.inr hj))⟩),h.lo,h.tlo,Nat.le_trans h.hi hc.size,h.xr,h.xt⟩
theorem DK.below (h:DK w B p l n m) (hb:Below w.heap.size w w'):DK w' B p l n m:=h.chg (S:=fun _=>False) (Chg.of_below hb) (fun _ _ x=>x)
theorem DK.drew (h:DK w B p l n m):DK w.drew B p l n m:=h.below (below_drewN (Below.refl _ _) 1)
theorem DK.put5 (h:DK w B p l n m) (n':Nat):DK (w.setCell ⟨p.x,5,none⟩ (.int .i64 (n':Int))) B p l n' m:=by
 have hc:Chg (fun j=>j=p.x) w (w.setCell ⟨p.x,5,none⟩ (.int .i64 (n':Int))):=put_one _ _ _ _
 refine⟨?_,h.ring.chg hc (fun j hj x=>h.xr (x▸hj)),h.tp.chg hc (fun j hj=>⟨by have:=hj.2;have:=h.hi;omega,fun x=>h.xt (x▸hj)⟩),h.lo,h.tlo,Nat.le_trans h.hi hc.size,h.xr,h.xt⟩
 have:=h.blk.set 5 (.int .i64 (n':Int))
 simpa using this
theorem DK.put6 (h:DK w B p l n m) (m':Nat):DK (w.setCell ⟨p.x,6,none⟩ (.int .i64 (m':Int))) B p l n m':=by
 have hc:Chg (fun j=>j=p.x) w (w.setCell ⟨p.x,6,none⟩ (.int .i64 (m':Int))):=put_one _ _ _ _
 refine⟨?_,h.ring.chg hc (fun j hj x=>h.xr (x▸hj)),h.tp.chg hc (fun j hj=>⟨by have:=hj.2;have:=h.hi;omega,fun x=>h.xt (x▸hj)⟩),h.lo,h.tlo,Nat.le_trans h.hi hc.size,h.xr,h.xt⟩
 have:=h.blk.set 6 (.int .i64 (m':Int))
 simpa using this
end
end Go.Proofs.YtfcjeebnkigeaaaGreat.Kd
end

section
set_option linter.unusedVariables false
namespace Go.Proofs.YtfcjeebnkigeaaaGreat.Kd
open Go.RowKit Go.Proofs.YtfcjeebnkigeaaaGreat.Mem Go.Proofs.YtfcjeebnkigeaaaGreat.Se
open Go.Proofs.YtfcjeebnkigeaaaGreat.Rg (It Ent Ring RO its)
def Cz (es:List Ent) (c:Nat):Prop:=∀(j:Nat) (e:Ent),es[j]? = some e→e.a≤c∧e.o≤c∧e.r≤c
theorem Cz.mono {es:List Ent} {c c':Nat} (h:Cz es c) (hc:c≤c'):Cz es c':=fun j e he=>by have:=h j e he;omega
theorem Cz.set {es:List Ent} {c q:Nat} {e:Ent} (h:Cz es c) (he:es[q]? = some e) {h':Option Nat} {a o r:Nat} (h1:a≤e.a+1) (h2:o≤e.o+1) (h3:r≤e.r+1):Cz (es.set q ⟨e.it,e.b,h',a,o,r⟩) (c+1):=fun j f hf=>by
 have hq:=(List.getElem?_eq_some_iff.1 he).1
 by_cases g:q=j
 ·subst g
  rw[List.getElem?_set_self hq] at hf
  injection hf with hf
  subst hf
  have:=h q e he
  show a≤c+1∧o≤c+1∧r≤c+1
  omega
 ·rw[List.getElem?_set_ne g] at hf
  have:=h j f hf
  omega
def bts (es:List Ent):List (It×Nat):=es.map fun e=>(e.it,e.b)
theorem bts_its {es es':List Ent} (h:bts es'=bts es):its es'=its es:=by
 have h1:its es'=(bts es').map Prod.fst:=by simp [its,bts]
 have h2:its es=(bts es).map Prod.fst:=by simp [its,bts]
 rw[h1,h2,h]
theorem bts_set {es:List Ent} {q:Nat} {e:Ent} (he:es[q]? = some e) (h':Option Nat) (a o r:Nat):bts (es.set q ⟨e.it,e.b,h',a,o,r⟩)=bts es:=by
 have hi:=(List.getElem?_eq_some_iff.1 he).1
 unfold bts
 apply List.ext_getElem?
 intro j
 rw[List.getElem?_map,List.getElem?_map]
 by_cases g:q=j
 ·subst g;rw[List.getElem?_set_self hi,he];rfl
 ·rw[List.getElem?_set_ne g]
theorem bts_at {es es':List Ent} (h:bts es'=bts es) {q:Nat} {e:Ent} (he:es[q]? = some e):∃e',es'[q]? = some e'∧e'.it=e.it∧e'.b=e.b:=by
 have h1:(bts es)[q]? = some (e.it,e.b):=by simp [bts,he]
 rw[←h] at h1
 have h1:(es'[q]?).map (fun e=>(e.it,e.b))=some (e.it,e.b):=by simpa [bts] using h1
 obtain⟨e',h2,h3⟩:=Option.map_eq_some_iff.1 h1
 injection h3 with h4 h5
 exact⟨e',h2,h4,h5⟩
structure Ss where
 b:Nat
 ks:Nat→UInt8
 h:Option Nat
 a:Nat
 o:Nat
 r:Nat
def SO (s:Option Ss) (j:Nat):Prop:=∃z,s=some z∧Ow z.b z.h j
def KSO (p:KP) (es:List Ent) (s:Option Ss) (j:Nat):Prop:=KO p es j∨SO s j
structure KS (w:World) (B:Nat) (p:KP) (es:List Ent) (s:Option Ss) (n i c:Nat):Prop where
 k:KD w B p es n i
 hB:B≤w.heap.size
 sx:∀z,s=some z→Box w z.b z.ks z.h z.a z.o z.r∧z.a≤c∧z.o≤c∧z.r≤c
 ap:∀j,SO s j→¬KA p es j
 sl:∀j,SO s j→B≤j
 cz:Cz es c
structure Kn (w0 w:World) (B:Nat) (p:KP) (es0:List Ent) (s0:Option Ss) (es:List Ent) (s:Option Ss) (n i c:Nat):Prop where
 st:KS w B p es s n i c
 eq:bts es=bts es0
 sq:∀z0,s0=some z0→∃z,s=some z∧z.b=z0.b∧z.ks=z0.ks
 chg:Chg (KSO p es0 s0) w0 w
 nw:∀j,KSO p es s j→KSO p es0 s0 j∨w0.heap.size≤j
section
variable {w0 w w':World} {B:Nat} {p:KP} {es0 es es':List Ent} {s0 s s':Option Ss} {n i c n' i' c':Nat}
theorem KS.kso_lt (h:KS w B p es s n i c) {j:Nat} (hj:KSO p es s j):j<w.heap.size:=by
 rcases hj with hj | ⟨z,hz,hj⟩
 ·exact h.k.ko_lt hj
 ·exact(h.sx z hz).1.own_lt j hj
theorem KS.kso_lo (h:KS w B p es s n i c) {j:Nat} (hj:KSO p es s j):B≤j:=by
 rcases hj with hj | hj
 ·exact h.k.ko_lo hj
 ·exact h.sl j hj
theorem KS.below (h:KS w B p es s n i c) (hb:Below w.heap.size w w'):KS w' B p es s n i c:=
 ⟨h.k.below hb,Nat.le_trans h.hB hb.size,fun z hz=>⟨(h.sx z hz).1.below hb,(h.sx z hz).2⟩,h.ap,h.sl,h.cz⟩
theorem KS.chg {S:Nat→Prop} (h:KS w B p es s n i c) (hc:Chg S w w') (hs:∀j,KA p es j∨SO s j→¬S j):KS w' B p es s n i c:=
 ⟨h.k.chg hc (fun j hj=>hs j (.inl hj)),Nat.le_trans h.hB hc.size,fun z hz=>⟨(h.sx z hz).1.chg hc (fun j hj=>hs j (.inr ⟨z,hz,hj⟩)),(h.sx z hz).2⟩,h.ap,h.sl,h.cz⟩
theorem KS.drew (h:KS w B p es s n i c):KS w.drew B p es s n i c:=h.below (below_drewN (Below.refl _ _) 1)
theorem KS.more (h:KS w B p es s n i c) (hc:c≤c'):KS w B p es s n i c':=⟨h.k,h.hB,fun z hz=>⟨(h.sx z hz).1,by have:=(h.sx z hz).2;omega⟩,h.ap,h.sl,h.cz.mono hc⟩
theorem KS.no_s (h:KS w B p es s n i c):KS w B p es none n i c:=⟨h.k,h.hB,fun z hz=>(by cases hz),fun j hj=>(by obtain⟨z,hz,_⟩:=hj;cases hz),fun j hj=>(by obtain⟨z,hz,_⟩:=hj;cases hz),h.cz⟩
theorem Kn.refl (h:KS w B p es s n i c):Kn w w B p es s es s n i c:=⟨h,rfl,fun z hz=>⟨z,hz,rfl,rfl⟩,Chg.refl _ _,fun _ x=>.inl x⟩
theorem Kn.below (h:Kn w0 w B p es0 s0 es s n i c) (hb:Below w.heap.size w w'):Kn w0 w' B p es0 s0 es s n i c:=
 ⟨h.st.below hb,h.eq,h.sq,h.chg.trans (Chg.of_below (S:=fun _=>False) hb) (fun _ _ x=>x.elim),h.nw⟩
theorem Kn.drew (h:Kn w0 w B p es0 s0 es s n i c):Kn w0 w.drew B p es0 s0 es s n i c:=h.below (below_drewN (Below.refl _ _) 1)
theorem Kn.start (h:KS w B p es s n i c) (hb:Below w.heap.size w w'):Kn w w' B p es s es s n i c:=(Kn.refl h).below hb
theorem Kn.size (h:Kn w0 w B p es0 s0 es s n i c):w0.heap.size≤w.heap.size:=h.chg.size
theorem Kn.trans (h:Kn w0 w B p es0 s0 es s n i c) (g:Kn w w' B p es s es' s' n' i' c'):Kn w0 w' B p es0 s0 es' s' n' i' c':=by
 refine⟨g.st,g.eq.trans h.eq,fun z0 hz0=>?_,h.chg.trans g.chg (fun j hj x=>?_),fun j hj=>?_⟩
 ·obtain⟨z,hz,h1,h2⟩:=h.sq z0 hz0
  obtain⟨z',hz',h3,h4⟩:=g.sq z hz
  exact⟨z',hz',h3.trans h1,h4.trans h2⟩
 ·rcases h.nw j x with y | y
  ·exact y
  ·omega
 ·rcases g.nw j hj with y | y
  ·exact h.nw j y
  ·have:=h.size;exact .inr (by omega)
theorem Kn.blk {P:Nat} {t:TypeId} {cs:Array Value} (h:Kn w0 w B p es0 s0 es s n i c) (hb:Blk w0 P t cs) (hn:¬KSO p es0 s0 P):Blk w P t cs:=h.chg.blk hb hn
theorem Kn.not {P:Nat} (h:Kn w0 w B p es0 s0 es s n i c) (hn:¬KSO p es0 s0 P) (hl:P<w0.heap.size):¬KSO p es s P:=fun x=>by
 rcases h.nw P x with y | y
 ·exact hn y
 ·omega
theorem Kn.sl {v:Value} {l:Nm.L} (h:Kn w0 w B p es0 s0 es s n i c) (hs:SlN (KSO p es0 s0) w0 v l):SlN (KSO p es s) w v l:=
 hs.keep h.chg (fun _ _ x=>x) (fun j hj x=>by
  rcases h.nw j x with y | y
  ·exact y
  ·omega)
def Out (w0:World) (p:KP) (es:List Ent) (s:Option Ss) (j:Nat):Prop:=j<w0.heap.size∨KSO p es s j
theorem Kn.out {v:Value} {l:Nm.L} {a:World} (h:Kn w0 w B p es0 s0 es s n i c) (ha:a.heap.size≤w0.heap.size) (hs:SlN (Out a p es0 s0) w0 v l):SlN (Out a p es s) w v l:=
 hs.keep h.chg (fun _ _ x=>.inr x) (fun j hj x=>by
  rcases x with x | x
  ·exact .inl x
  ·rcases h.nw j x with y | y
   ·exact .inr y
   ·omega)
theorem Out.old {v:Value} {l:Nm.L} {a b:World} (ha:a.heap.size≤b.heap.size) (hs:SlN (Out b p es s) w v l):SlN (Out a p es s) w v l:=hs.mono (fun j _ x=>by
 rcases x with x | x
 ·exact .inl (by omega)
 ·exact .inr x)
theorem Out.kso {v:Value} {l:Nm.L} {a:World} (hs:SlN (Out a p es s) w v l):SlN (KSO p es s) w v l:=hs.mono (fun j _ x=>.inr x)
theorem Out.new {A:Option Addr} {l:Nm.L} {m:Nat} {a:World} (h:KS w B p es s n i c) (hw:Below w.heap.size w w') (ha:a.heap.size≤w.heap.size) (hm:l.length≤m) (hr:RdA (fun j=>j<w.heap.size) w' A (bvs l)):SlN (Out a p es s) w' (.slice A l.length m) l:=
 ⟨A,m,rfl,hm,hr.mono (fun j _ x=>by
  rcases x with x | x
  ·omega
  ·exact h.kso_lt x)⟩
def Hdl (es:List Ent) (s:Option Ss) (x:Nat) (ks:Nat→UInt8):Prop:=(∃(q:Nat) (e:Ent),es[q]? = some e∧e.b=x∧e.it.k=ks)∨(∃z,s=some z∧z.b=x∧z.ks=ks)
theorem Kn.hdl {x:Nat} {ks:Nat→UInt8} (h:Kn w0 w B p es0 s0 es s n i c) (hh:Hdl es0 s0 x ks):Hdl es s x ks:=by
 rcases hh with⟨q,e,he,h1,h2⟩ | ⟨z,hz,h1,h2⟩
 ·obtain⟨e',he',h3,h4⟩:=bts_at h.eq he
  exact .inl ⟨q,e',he',by rw[h4];exact h1,by rw[h3];exact h2⟩
 ·obtain⟨z',hz',h3,h4⟩:=h.sq z hz
  exact .inr ⟨z',hz',h3.trans h1,h4.trans h2⟩
theorem KS.use_r (h:KS w B p es s n i c) {q:Nat} {e:Ent} (he:es[q]? = some e) {h':Option Nat} {a o r:Nat} (hx:Box w' e.b e.it.k h' a o r) (hs:StepO w w' e.b e.h h') (h1:a≤e.a+1) (h2:o≤e.o+1) (h3:r≤e.r+1) :
  Kn w w' B p es s (es.set q ⟨e.it,e.b,h',a,o,r⟩) s n i (c+1):=by
 have hr:=h.k.ring.use he hx hs h.hB
 have hk:=h.k.use he hr hs
 have hn:=h.k.use_new he a o r hs
 refine⟨⟨hk,Nat.le_trans h.hB hs.1.size,fun z hz=>⟨(h.sx z hz).1.chg hs.1 (fun j hj x=>h.ap j ⟨z,hz,hj⟩ (.inl (ow_ko he x))),by have:=(h.sx z hz).2;omega⟩,fun j hj x=>?_,h.sl,h.cz.set he h1 h2 h3⟩,bts_set he _ _ _ _,fun z hz=>⟨z,hz,rfl,rfl⟩,hs.1.mono (fun j _ x=>.inl (ow_ko he x)),fun j hj=>?_⟩
 ·rcases x with x | x
  ·rcases hn j x with y | y
   ·exact h.ap j hj (.inl y)
   ·obtain⟨z,hz,hj⟩:=hj
    have:=(h.sx z hz).1.own_lt j hj
    omega
  ·exact h.ap j hj (.inr x)
 ·rcases hj with hj | hj
  ·rcases hn j hj with y | y
   ·exact .inl (.inl y)
   ·exact .inr y
  ·exact .inl (.inr hj)
theorem KS.use_s {z:Ss} (h:KS w B p es (some z) n i c) {h':Option Nat} {a o r:Nat} (hx:Box w' z.b z.ks h' a o r) (hs:StepO w w' z.b z.h h') (h1:a≤z.a+1) (h2:o≤z.o+1) (h3:r≤z.r+1) :
  Kn w w' B p es (some z) es (some ⟨z.b,z.ks,h',a,o,r⟩) n i (c+1):=by
 have hz:=h.sx z rfl
 have hnew:∀j,Ow z.b h' j→Ow z.b z.h j∨w.heap.size≤j:=fun j hj=>by
  rcases Nat.lt_or_ge j w.heap.size with g | g
  ·exact .inl (hs.own j g hj)
  ·exact .inr g
 have hso:∀j,SO (some ⟨z.b,z.ks,h',a,o,r⟩) j→Ow z.b h' j:=fun j hj=>by
  obtain⟨y,hy,hj⟩:=hj
  injection hy with hy
  subst hy
  exact hj
 refine⟨⟨h.k.chg hs.1 (fun j hj x=>h.ap j ⟨z,rfl,x⟩ hj),Nat.le_trans h.hB hs.1.size,fun y hy=>?_,fun j hj x=>?_,fun j hj=>?_,h.cz.mono (by omega)⟩,rfl,fun y hy=>?_,hs.1.mono (fun j _ x=>.inr ⟨z,rfl,x⟩),fun j hj=>?_⟩
 ·injection hy with hy
  subst hy
  refine⟨hx,?_,?_,?_⟩
  ·show a≤c+1;omega
  ·show o≤c+1;omega
  ·show r≤c+1;omega
 ·rcases hnew j (hso j hj) with y | y
  ·exact h.ap j ⟨z,rfl,y⟩ x
  ·have:=h.k.ka_lt x;omega
 ·rcases hnew j (hso j hj) with y | y
  ·exact h.sl j ⟨z,rfl,y⟩
  ·have:=h.hB;omega
 ·injection hy with hy
  subst hy
  exact⟨_,rfl,rfl,rfl⟩
 ·rcases hj with hj | hj
  ·exact .inl (.inl hj)
  ·rcases hnew j (hso j hj) with y | y
   ·exact .inl (.inr ⟨z,rfl,y⟩)
   ·exact .inr y
theorem KS.put5 (h:KS w B p es s n i c) (n':Nat):Kn w (w.setCell ⟨p.k,5,none⟩ (.int .i64 (n':Int))) B p es s es s n' i c:=by
 have hc:Chg (fun j=>j=p.k) w (w.setCell ⟨p.k,5,none⟩ (.int .i64 (n':Int))):=put_one _ _ _ _
 exact⟨⟨h.k.put5 n',Nat.le_trans h.hB hc.size,fun z hz=>⟨(h.sx z hz).1.chg hc (fun j hj x=>h.ap j ⟨z,hz,hj⟩ (x▸.inl (.inl rfl))),(h.sx z hz).2⟩,h.ap,h.sl,h.cz⟩,rfl,fun z hz=>⟨z,hz,rfl,rfl⟩,hc.mono (fun j _ x=>.inl (.inl x)),fun _ x=>.inl x⟩
theorem KS.put6 (h:KS w B p es s n i c) (i':Nat):Kn w (w.setCell ⟨p.k,6,none⟩ (.int .i64 (i':Int))) B p es s es s n i' c:=by
 have hc:Chg (fun j=>j=p.k) w (w.setCell ⟨p.k,6,none⟩ (.int .i64 (i':Int))):=put_one _ _ _ _
 exact⟨⟨h.k.put6 i',Nat.le_trans h.hB hc.size,fun z hz=>⟨(h.sx z hz).1.chg hc (fun j hj x=>h.ap j ⟨z,hz,hj⟩ (x▸.inl (.inl rfl))),(h.sx z hz).2⟩,h.ap,h.sl,h.cz⟩,rfl,fun z hz=>⟨z,hz,rfl,rfl⟩,hc.mono (fun j _ x=>.inl (.inl x)),fun _ x=>.inl x⟩
theorem Kn.drop (h:Kn w0 w B p es0 none es s n i c):Kn w0 w B p es0 none es none n i c:=
 ⟨h.st.no_s,h.eq,fun z hz=>(by cases hz),h.chg,fun j hj=>h.nw j (by
  rcases hj with hj | ⟨z,hz,_⟩
  ·exact .inl hj
  ·cases hz)⟩
theorem Kn.base (h:Kn w0 w B p es0 s0 es s n i c) (hk:KS w0 B p es0 s0 n' i' c'):Below B w0 w:=h.chg.below hk.hB (fun j _ hj=>hk.kso_lo hj)
end
end Go.Proofs.YtfcjeebnkigeaaaGreat.Kd
end

section
set_option linter.unusedVariables false
namespace Go.Proofs.YtfcjeebnkigeaaaGreat.Kd
open Go.RowKit Go.Proofs.YtfcjeebnkigeaaaGreat.Mem Go.Proofs.YtfcjeebnkigeaaaGreat.Se
open Go.Proofs.YtfcjeebnkigeaaaGreat.Rg (It Ent its addL addE addN Num lastN)
theorem step_a (a:Bool) {j:Nat} {i:It} (h:(itX a)[j]? = some i):addE ((itX a).take j) i.p=0:=by
 cases a with
 |false=>
  match j,h with
  |0,h=>injection h with h;subst h;decide +kernel
  |1,h=>injection h with h;subst h;decide +kernel
  |2,h=>injection h with h;subst h;decide +kernel
  |3,h=>injection h with h;subst h;decide +kernel
  |4,h=>injection h with h;subst h;decide +kernel
  |j+5,h=>simp [itX,itA] at h
 |true=>
  match j,h with
  |0,h=>injection h with h;subst h;decide +kernel
  |1,h=>injection h with h;subst h;decide +kernel
  |2,h=>injection h with h;subst h;decide +kernel
  |3,h=>injection h with h;subst h;decide +kernel
  |j+4,h=>simp [itX,itE] at h
theorem step_n (a:Bool) {j:Nat} {i:It} (h:(itX a)[j]? = some i):lastN ((itX a).take j) i.p=0∧i.n=1:=by
 cases a with
 |false=>
  match j,h with
  |0,h=>injection h with h;subst h;decide +kernel
  |1,h=>injection h with h;subst h;decide +kernel
  |2,h=>injection h with h;subst h;decide +kernel
  |3,h=>injection h with h;subst h;decide +kernel
  |4,h=>injection h with h;subst h;decide +kernel
  |j+5,h=>simp [itX,itA] at h
 |true=>
  match j,h with
  |0,h=>injection h with h;subst h;decide +kernel
  |1,h=>injection h with h;subst h;decide +kernel
  |2,h=>injection h with h;subst h;decide +kernel
  |3,h=>injection h with h;subst h;decide +kernel
  |j+4,h=>simp [itX,itE] at h
theorem step_l (a:Bool) {j:Nat} {i:It} (h:(itX a)[j]? = some i):(itX a).take (j+1)=(itX a).take j++[⟨i.p,lastN ((itX a).take j) i.p+1,i.k⟩]:=by
 obtain⟨h1,h2⟩:=step_n a h
 rw[h1,List.take_add_one,h]
 obtain⟨p,n,k⟩:=i
 simp only at h2
 subst h2
 rfl
theorem num_take {l:List It} (h:Num l) (k:Nat):Num (l.take k):=by
 intro j i hj
 have hjk:j<k:=by
  have:=(List.getElem?_eq_some_iff.1 hj).1
  rw[List.length_take] at this;omega
 rw[List.getElem?_take_of_lt hjk] at hj
 have h1:=h j i hj
 have e:Rg.lastTo (l.take k) i.p j=Rg.lastTo l i.p j:=by
  have h2:j≤(l.take k).length:=by
   have:=(List.getElem?_eq_some_iff.1 hj).1
   rw[List.length_take];omega
  have h3:=Rg.lastTo_app (l:=l.take k) (m:=l.drop k) (p:=i.p) h2
  rw[List.take_append_drop] at h3
  exact h3.symm
 rw[e,h1]
 congr 1
 cases ho:Rg.lastTo l i.p j with
 |none=>rfl
 |some q=>
  have hq:=(Rg.lastTo_some ho).1
  show((l[q]?).map (·.n)).getD 0=(((l.take k)[q]?).map (·.n)).getD 0
  rw[List.getElem?_take_of_lt (by omega)]
end Go.Proofs.YtfcjeebnkigeaaaGreat.Kd
end

section
set_option linter.unusedVariables false
namespace Go.Proofs.YtfcjeebnkigeaaaGreat.OpenQ
open Go.Joins Go.ChangeShapes Go.WideShapes Go.ChangeAt Go.RowKit Go.Deep Go.Proofs.YtfcjeebnkigeaaaGreat Go.Proofs.YtfcjeebnkigeaaaGreat.Mem Go.Proofs.YtfcjeebnkigeaaaGreat.Rg Go.Proofs.YtfcjeebnkigeaaaGreat.Se
structure Ac where
 k:Int
 p:Pr
 y:Nat→UInt8
 n:Int
def aC (a:Ac):List Value:=.int .i64 a.k :: .string ⟨a.p.1.toArray⟩ :: .string ⟨a.p.2.toArray⟩ :: ((key32 a.y).toList++[.int .i64 a.n])
def RdAc (w:World) (B:Nat) (A:Option Addr) (l:List Ac):Prop:=
 l = []∨∃g o,A=some ⟨g,o,none⟩∧g<B∧∀i x,l[i]? = some x→w.rangeAt g (o+i*36) (aC x)
theorem RdAc.keep {w w':World} {B:Nat} {A:Option Addr} {l:List Ac} (h:RdAc w B A l) (hb:Below B w w'):RdAc w' B A l:=by
 rcases h with h | ⟨g,o,h1,h2,h3⟩
 ·exact .inl h
 ·exact .inr ⟨g,o,h1,h2,fun i x hx j v hv=>(hb.cell (p:=⟨g,_,none⟩) h2).trans (h3 i x hx j v hv)⟩
theorem RdAc.at_ {w:World} {B:Nat} {A:Option Addr} {l:List Ac} {i:Nat} {x:Ac} (h:RdAc w B A l) (hx:l[i]? = some x):∃g o,A=some ⟨g,o,none⟩∧g<B∧w.rangeAt g (o+i*36) (aC x):=by
 rcases h with h | ⟨g,o,h1,h2,h3⟩
 ·subst h;simp at hx
 ·exact⟨g,o,h1,h2,h3 i x hx⟩
section
variable {H:Type} {enc:TypeId×Value→H} {W:World}
end
end Go.Proofs.YtfcjeebnkigeaaaGreat.OpenQ
end

section
set_option linter.unusedVariables false
set_option linter.unusedSimpArgs false
namespace Go.Proofs.YtfcjeebnkigeaaaGreat.Rg
open Go.RowKit Go.Proofs.YtfcjeebnkigeaaaGreat.Mem Go.Proofs.YtfcjeebnkigeaaaGreat.Se Go.Proofs.YtfcjeebnkigeaaaGreat.OpenQ
section
variable {w:World} {g:Nat} {t:TypeId} {x:Ac}
end
section
variable {w w':World} {B r q:Nat} {v v' dv dv':Value} {es es':List Ent} {l l':List It} {g:Nat}
def Ap (r:Nat) (v:Value) (es:List Ent) (q:Nat) (dv:Value):Prop:=∀k,DO q dv k→¬RO r v es k
theorem ap_code (h:Ap r v es q dv) (hd:DRing w B q dv l) (hn:∀k,RO r v' es' k→RO r v es k∨w.heap.size≤k):Ap r v' es' q dv:=fun k hk x=>by
 rcases hn k x with y | y
 ·exact h k hk y
 ·have:=hd.own_lt hk;omega
theorem ap_doc (h:Ap r v es q dv) (hr:Ring w B r v es) (hn:∀k,DO q dv' k→DO q dv k∨w.heap.size≤k):Ap r v es q dv':=fun k hk x=>by
 rcases hn k hk with y | y
 ·exact h k y x
 ·have:=hr.own_lt x;omega
theorem doc_add (h:Ap r v es q dv) (hd:DRing w B q dv l) (hc:Chg (AT r v) w w'):DRing w' B q dv l:=hd.chg hc (fun k hk x=>h k hk (at_ro x))
theorem code_add (h:Ap r v es q dv) (hr:Ring w B r v es) (hc:Chg (DO q dv) w w'):Ring w' B r v es:=hr.chg hc (fun k hk x=>h k x hk)
end
end Go.Proofs.YtfcjeebnkigeaaaGreat.Rg
end

section
set_option linter.unusedVariables false
namespace Go.Proofs.YtfcjeebnkigeaaaGreat.Kd
open Go.RowKit Go.Proofs.YtfcjeebnkigeaaaGreat.Mem Go.Proofs.YtfcjeebnkigeaaaGreat.Se
open Go.Proofs.YtfcjeebnkigeaaaGreat.Ms (Pt Rp Re Tk ptC rpC reC tkC prC pr0)
abbrev prV (p:Nm.L×Nm.L):Value:=.agg #[.string ⟨p.1.toArray⟩,.string ⟨p.2.toArray⟩]
abbrev keyA (d:Nm.L):Array Value:=(bvs d).toArray
abbrev ptA (P:Pt):Array Value:=(ptC P).toArray
abbrev rpA (P:Rp):Array Value:=(rpC P).toArray
theorem one_list {l:List Value} (h:∀v∈l,v.oneCell'=true):l.toArray.all (·.oneCell')=true:=by
 rw[List.all_toArray,List.all_eq_true];exact h
theorem pr_one (p:Nm.L×Nm.L):∀v∈prC p,v.oneCell'=true:=by
 intro v hv
 simp only[prC,List.mem_cons,List.not_mem_nil,or_false] at hv
 rcases hv with rfl | rfl<;>rfl
theorem keyA_size {d:Nm.L} (h:d.length=32):(keyA d).size=32:=by simp [bvs,h]
theorem key_info {d:Nm.L} (h:d.length=32):(Tryz.prog.info? 47).map (·.size)=some (keyA d).size:=by rw[keyA_size h];kernel_rfl
theorem ptA_size {P:Pt} (h:P.ss.length=32):(ptA P).size=37:=by simp [ptC,prC,bvs,h]
theorem ptA_one (P:Pt):(ptA P).all (·.oneCell')=true:=one_list fun v hv=>by
 simp only[ptC,List.mem_append,List.mem_cons,List.not_mem_nil,or_false] at hv
 rcases hv with hv | hv | rfl | rfl | rfl
 ·exact pr_one _ v hv
 ·exact bvs_one _ v hv
 ·rfl
 ·rfl
 ·rfl
theorem pt_info {P:Pt} (h:P.ss.length=32):(Tryz.prog.info? 71).map (·.size)=some (ptA P).size:=by rw[ptA_size h];kernel_rfl
theorem rpA_size {P:Rp} (h:P.ss.length=32):(rpA P).size=37:=by simp [rpC,prC,bvs,h]
theorem rpA_one (P:Rp):(rpA P).all (·.oneCell')=true:=one_list fun v hv=>by
 simp only[rpC,List.mem_append,List.mem_cons,List.not_mem_nil,or_false] at hv
 rcases hv with hv | hv | rfl | rfl | rfl
 ·exact bvs_one _ v hv
 ·exact pr_one _ v hv
 ·rfl
 ·rfl
 ·rfl
theorem rp_info {P:Rp} (h:P.ss.length=32):(Tryz.prog.info? 75).map (·.size)=some (rpA P).size:=by rw[rpA_size h];kernel_rfl
section
variable {w:World} {g:Nat} {t:TypeId} {P:Pt}
theorem pt_at (h:P.ss.length=32) {o:Nat} {mid:List Value} (hb:Blk w g t (ptA P)) (hc:∃pre post,ptC P=pre++(mid++post)∧o=pre.length):w.rangeAt g o mid:=by
 obtain⟨pre,post,h1,h2⟩:=hc
 exact Wh.range_at (pre:=pre) (post:=post) hb (by rw[←h1]) o h2
theorem pt_key (h:P.ss.length=32) (hb:Blk w g t (ptA P)):w.rangeAt g 2 (keyA P.ss).toList:=by
 refine pt_at h hb ⟨prC P.c,[.string ⟨P.tr.toArray⟩,.int .i64 P.st,.int .i64 P.en],?_,rfl⟩
 simp [ptC]
theorem pt_0 (hb:Blk w g t (ptA P)):w.cell? ⟨g,0,none⟩=some (.string ⟨P.c.1.toArray⟩):=by rw[hb.cell];rfl
theorem pt_1 (hb:Blk w g t (ptA P)):w.cell? ⟨g,1,none⟩=some (.string ⟨P.c.2.toArray⟩):=by rw[hb.cell];rfl
theorem pt_tl (h:P.ss.length=32) (hb:Blk w g t (ptA P)):w.rangeAt g 34 [.string ⟨P.tr.toArray⟩,.int .i64 P.st,.int .i64 P.en]:=by
 refine pt_at h hb ⟨prC P.c++bvs P.ss,[],?_,?_⟩
 ·simp [ptC]
 ·simp [prC,bvs,h]
theorem pt_35 (h:P.ss.length=32) (hb:Blk w g t (ptA P)):w.cell? ⟨g,35,none⟩=some (.int .i64 P.st):=pt_tl h hb 1 _ rfl
theorem pt_36 (h:P.ss.length=32) (hb:Blk w g t (ptA P)):w.cell? ⟨g,36,none⟩=some (.int .i64 P.en):=pt_tl h hb 2 _ rfl
end
theorem bk_rp (f:Nat→UInt8) (s:Nm.L×Nm.L) (a b n:Int):Tryz.prog.built 75 [(0,.agg (key32 f)),(1,prV s),(2,.int .i64 a),(3,.int .i64 b),(4,.int .i64 n)]=some ((key32 f).toList++(prC s++([.int .i64 a,.int .i64 b,.int .i64 n]:List Value))).toArray:=by
 kernel_rfl
theorem bk_pt0 (f:Nat→UInt8) (c:Nm.L×Nm.L) (a b:Int):Tryz.prog.built 71 [(0,prV c),(1,.agg (key32 f)),(3,.int .i64 a),(4,.int .i64 b)]=some (prC c++((key32 f).toList++([.string ⟨([]:Nm.L).toArray⟩,.int .i64 a,.int .i64 b]:List Value))).toArray:=by
 kernel_rfl
theorem built_rp {ss:Nm.L} (h:ss.length=32) (s:Nm.L×Nm.L) (a b n:Int):Tryz.prog.built 75 [(0,.agg (keyA ss)),(1,prV s),(2,.int .i64 a),(3,.int .i64 b),(4,.int .i64 n)]=some (rpA ⟨ss,s,a,b,n⟩):=by
 have e:keyA ss=key32 (ksOf ss):=(key_bvs h).symm
 have e2:rpA ⟨ss,s,a,b,n⟩=((key32 (ksOf ss)).toList++(prC s++([.int .i64 a,.int .i64 b,.int .i64 n]:List Value))).toArray:=by rw[←e];simp [rpC]
 rw[e2,e]
 exact bk_rp _ s a b n
theorem built_pt0 {ss:Nm.L} (h:ss.length=32) (c:Nm.L×Nm.L) (a b:Int):Tryz.prog.built 71 [(0,prV c),(1,.agg (keyA ss)),(3,.int .i64 a),(4,.int .i64 b)]=some (ptA ⟨c,ss,[],a,b⟩):=by
 have e:keyA ss=key32 (ksOf ss):=(key_bvs h).symm
 have e2:ptA ⟨c,ss,[],a,b⟩=(prC c++((key32 (ksOf ss)).toList++([.string ⟨([]:Nm.L).toArray⟩,.int .i64 a,.int .i64 b]:List Value))).toArray:=by rw[←e];simp [ptC]
 rw[e2,e]
 exact bk_pt0 _ c a b
theorem re_info:(Tryz.prog.info? 38).map (·.size)=some 7:=by kernel_rfl
end Go.Proofs.YtfcjeebnkigeaaaGreat.Kd
end

section
set_option linter.unusedVariables false
namespace Go.Proofs.YtfcjeebnkigeaaaGreat.Kd
open Go.RowKit Go.Proofs.YtfcjeebnkigeaaaGreat.Mem Go.Proofs.YtfcjeebnkigeaaaGreat.Se
open Go.Proofs.YtfcjeebnkigeaaaGreat.Rg (It Ent Ring RO DRing DO Ap its addL addE addN Num lastN prB)
structure Sc (a:Bool) (w:World) (B r:Nat) (v:Value) (es:List Ent) (q:Nat) (dv:Value) (j:Nat) (G:Nat→Prop):Prop where
 c:Ring w B r v es
 d:DRing w B q dv ((itX a).take j)
 e:its es=(itX a).take j
 z:Cz es 0
 ap:Ap r v es q dv
 g:∀k,G k→k<w.heap.size∧¬RO r v es k∧¬DO q dv k
section
variable {a:Bool} {G:Nat→Prop} {w w':World} {B r q j:Nat} {v dv:Value} {es:List Ent}
theorem Sc.below (h:Sc a w B r v es q dv j G) (hb:Below w.heap.size w w'):Sc a w' B r v es q dv j G:=⟨h.c.below hb,h.d.below hb,h.e,h.z,h.ap,fun k hk=>⟨Nat.lt_of_lt_of_le (h.g k hk).1 hb.size,(h.g k hk).2⟩⟩
theorem Sc.more {G2:Nat→Prop} (h:Sc a w B r v es q dv j G) (hg:∀k,G2 k→G k∨(k<w.heap.size∧¬RO r v es k∧¬DO q dv k)):Sc a w B r v es q dv j G2:=⟨h.c,h.d,h.e,h.z,h.ap,fun k hk=>(hg k hk).elim (h.g k) id⟩
theorem Sc.put (h:Sc a w B r v es q dv j G) {g:Nat} (hG:G g) (hg:w.grownBy w' (some g)):Sc a w' B r v es q dv j G:=by
 have hc:Chg (fun k=>k=g) w w':=⟨hg.os,hg.tape,hg.output,hg.size,fun i hi hn=>hg.block i hi (fun e=>hn (by injection e))⟩
 exact⟨h.c.chg hc (fun k hk e=>(h.g g hG).2.1 (e▸hk)),h.d.chg hc (fun k hk e=>(h.g g hG).2.2 (e▸hk)),h.e,h.z,h.ap,fun k hk=>⟨Nat.lt_of_lt_of_le (h.g k hk).1 hg.size,(h.g k hk).2⟩⟩
theorem take_len (h:Sc a w B r v es q dv j G):es.length≤5∧((itX a).take j).length≤5:=by
 have h1:(itX a).length≤5:=by cases a<;>decide
 have h2:((itX a).take j).length≤5:=by rw[List.length_take];omega
 have h3:=congrArg List.length h.e
 rw[Rg.its_length] at h3
 omega
theorem addE_ok {l:List It} {p:Ms.Pr} (h:addE l p=0) (k:Nat→UInt8):prB p=true∧l.length<40∧addL l p k=l++[⟨p,lastN l p+1,k⟩]:=by
 unfold addE at h
 split at h
 ·rename_i h1
  split at h
  ·rename_i h2
   refine⟨h1,h2,?_⟩
   rw[addL,if_pos h1,if_pos h2]
  ·cases h
 ·cases h
theorem p_small (a:Bool) {i:It} (h:(itX a)[j]? = some i):i.p.1.length≤1000∧i.p.2.length≤1000:=by
 have h1:=addE_ok (step_a a h) i.k
 have:=Ms.pr_len (p:=i.p) h1.1
 omega
theorem sc_code (h:Sc a w B r v es q dv j G) (hB:B≤w.heap.size) {i:It} (hi:(itX a)[j]? = some i) {cK:Array Value} (ecK:cK=key32 i.k):Calls Tryz.prog 44 #[.pointer (some ⟨r,0,none⟩),prV i.p,.agg cK] w fun e w'=>
  (∃n:Int,e = .returned (.tuple #[.int .i64 n,.int .i64 0]))∧∃v' es',Ring w' B r v' es'∧DRing w' B q dv ((itX a).take j)∧its es'=(itX a).take (j+1)∧Cz es' 0∧Ap r v' es' q dv∧(∀k,G k→k<w'.heap.size∧¬RO r v' es' k∧¬DO q dv k)∧(∀k,G k→w'.heap[k]? = w.heap[k]?)∧Below B w w':=by
 subst ecK
 have hp:=p_small a hi
 have hl:=take_len h
 refine(Rg.add_any B r v es i.p i.k w h.c hB (by omega) (by omega) (by omega) (by rw[h.e];exact num_take (numX a) j)).mono ?_
 rintro e w' ⟨rfl,v',es',h1,h2,h3,h4,h5⟩
 rw[h.e,step_a a hi]
 refine⟨⟨_,rfl⟩,v',es',h1,Rg.doc_add h.ap h.d h4,?_,?_,Rg.ap_code h.ap h.d h5,fun k hk=>⟨Nat.lt_of_lt_of_le (h.g k hk).1 h4.size,fun x=>?_,(h.g k hk).2.2⟩,fun k hk=>h4.block k (h.g k hk).1 (fun x=>(h.g k hk).2.1 (Rg.at_ro x)),h4.below hB (fun k _ x=>h.c.own_lo (Rg.at_ro x))⟩
 rotate_left 2
 ·rcases h5 k x with y | y
  ·exact(h.g k hk).2.1 y
  ·have:=(h.g k hk).1;omega
 ·rw[h2,h.e,(addE_ok (step_a a hi) i.k).2.2,step_l a hi]
 ·rcases h3 with rfl | ⟨x,rfl,z1,z2,z3⟩
  ·exact h.z
  ·intro j2 e2 he
   by_cases g:j2<es.length
   ·rw[List.getElem?_append_left g] at he
    exact h.z j2 e2 he
   ·rw[List.getElem?_append_right (by omega)] at he
    have:e2=x:=by
     rcases hk:j2 - es.length with _ | k
     ·rw[hk] at he;injection he with he;exact he.symm
     ·rw[hk] at he;simp at he
    subst this
    omega
theorem sc_doc {v':Value} {es':List Ent} (hc:Ring w B r v' es') (hd:DRing w B q dv ((itX a).take j)) (he:its es'=(itX a).take (j+1)) (hz:Cz es' 0) (hap:Ap r v' es' q dv) (hg:∀k,G k→k<w.heap.size∧¬RO r v' es' k∧¬DO q dv k) (hB:B≤w.heap.size) {i:It} (hi:(itX a)[j]? = some i) {cK:Array Value} (ecK:cK=key32 i.k):Calls Tryz.prog 45 #[.pointer (some ⟨q,0,none⟩),prV i.p,.agg cK] w fun e w'=>
  (∃n:Int,e = .returned (.tuple #[.int .i64 n,.int .i64 0]))∧∃dv',Sc a w' B r v' es' q dv' (j+1) G∧(∀k,G k→w'.heap[k]? = w.heap[k]?)∧Below B w w':=by
 subst ecK
 have hp:=p_small a hi
 have hk:=addE_ok (step_a a hi) i.k
 have hn:=(step_n a hi).1
 refine(Rg.dadd_ok B q dv _ i.p i.k w hd hB (by omega) (by omega) hk.1 hk.2.1 (by omega)).mono ?_
 rintro e w' ⟨rfl,dv',h1,h2,h3⟩
 refine⟨⟨_,rfl⟩,dv',⟨Rg.code_add hap hc h2,by rw[step_l a hi];exact h1,he,hz,Rg.ap_doc hap hc h3,fun k hk=>⟨Nat.lt_of_lt_of_le (hg k hk).1 h2.size,(hg k hk).2.1,fun x=>?_⟩⟩,fun k hk=>h2.block k (hg k hk).1 (hg k hk).2.2,h2.below hB (fun k _ x=>hd.own_lo x)⟩
 rcases h3 k x with y | y
 ·exact(hg k hk).2.2 y
 ·have:=(hg k hk).1;omega
end
end Go.Proofs.YtfcjeebnkigeaaaGreat.Kd
end

section
set_option linter.unusedVariables false
namespace Go.Proofs.YtfcjeebnkigeaaaGreat.Ms
open Go.RowKit Go.Proofs.YtfcjeebnkigeaaaGreat.Mem Go.Proofs.YtfcjeebnkigeaaaGreat.DerP
theorem blob_in (b:L):inB (b.length:Int) 1 800=blobB b:=by
 rw[inB,blobB]
 have e1:decide ((1:Int)≤(b.length:Int))=decide (1≤b.length):=by rw[decide_eq_decide];omega
 have e2:decide ((b.length:Int)≤800)=decide (b.length≤800):=by rw[decide_eq_decide];omega
 rw[e1,e2]
theorem isprinc_any (p:Pr) (w:World) (h1:p.1.length≤1000000000) (h2:p.2.length≤1000000000):Calls Tryz.prog 33 #[prV p] w fun e w'=>e = .returned (.bool (prB p))∧Below w.heap.size w w':=Nm.risprinc_any p.1 p.2 w h1 h2
def pSm (p:Pr):Prop:=p.1.length≤1000000000∧p.2.length≤1000000000
end Go.Proofs.YtfcjeebnkigeaaaGreat.Ms
end

section
set_option linter.unusedVariables false
namespace Go.Proofs.YtfcjeebnkigeaaaGreat.Ms
open Go.RowKit Go.Proofs.YtfcjeebnkigeaaaGreat.Mem Go.Proofs.YtfcjeebnkigeaaaGreat.DerP Go.Proofs.YtfcjeebnkigeaaaGreat.DerR
theorem gives_on {w0 w:World} {l:L} {e:Ending} {w':World} (h:Gives w l e w') (hb:Below w0.heap.size w0 w):Gives w0 l e w':=by
 obtain⟨⟨g,c,h1,h2,h3,h4⟩,h5⟩:=h
 exact⟨⟨g,c,h1,Nat.le_trans hb.size h2,h3,h4⟩,hb.trans (h5.mono hb.size)⟩
end Go.Proofs.YtfcjeebnkigeaaaGreat.Ms
end

section
set_option linter.unusedVariables false
set_option linter.unusedSimpArgs false
namespace Go.Proofs.YtfcjeebnkigeaaaGreat.Ms
open Go.RowKit Go.Proofs.YtfcjeebnkigeaaaGreat.Mem Go.Proofs.YtfcjeebnkigeaaaGreat.DerP Go.Proofs.YtfcjeebnkigeaaaGreat.DerR
def EncR (w:World) (o:Option L) (e:Ending) (w':World):Prop:=
 (∃v i,e = .returned (.tuple #[v,.int .i64 i])∧(o=none→v = .slice none 0 0∧i=1)∧∀l,o=some l→i=0∧∃g c,v = .slice (some ⟨g,0,none⟩) l.length c∧w.heap.size≤g∧l.length≤c∧Rd w' w'.heap.size (some ⟨g,0,none⟩) (bvs l))∧Below w.heap.size w w'
theorem range_blk {w:World} {g:Nat} {t:TypeId} {cs:Array Value} (h:Blk w g t cs):w.rangeAt g 0 cs.toList:=fun j v hv=>by
 rw[Nat.zero_add,h.cell];simpa using hv
theorem load_cells {P:Program} {ops:Array Oper} {rest:List Oper} {op:Oper} {a:Act} {w:World} {Q:Exit→Act→World→Prop} (hgd:op.guard=none) (ty:TypeId) (x:Operand) (ho:op.op = .load ty x)
  (g o:Nat) (hx:a.eval x = .pointer (some ⟨g,o,none⟩)) (cs:Array Value) (d:TypeDesc) (hc:w.rangeAt g o cs.toList)
  (hu:P.underlying ty=some d) (hd:d.isRow=true) (hi:(P.info? ty).map (·.size)=some cs.size)
  (h:wpList P ops Q rest (a.put op.dst (.agg cs)) w):wpList P ops Q (op :: rest) a w:=
 wpList_load_mid hgd ty x ho g o hx cs.toList d hc hu hd (by rw[Array.length_toList];exact hi) (by simpa using h)
theorem enc_none {w w':World} (h:Below w.heap.size w w'):EncR w none (.returned (.tuple #[.slice none 0 0,.int .i64 1])) w':=
 ⟨⟨_,_,rfl,(fun _=>⟨rfl,rfl⟩),(fun l e=>by cases e)⟩,h⟩
theorem enc_some {w w':World} {l:L} {g c:Nat} (h:Gives w l (.returned (.slice (some ⟨g,0,none⟩) l.length c)) w'):EncR w (some l) (.returned (.tuple #[.slice (some ⟨g,0,none⟩) l.length c,.int .i64 0])) w':=by
 obtain⟨⟨g',c',h1,h2,h3,h4⟩,h5⟩:=h
 injection h1 with h1
 injection h1 with h1 h6 h7
 injection h1 with h1
 injection h1 with h1
 subst h1;subst h7
 exact⟨⟨_,_,rfl,(fun e=>by cases e),(fun l' e=>by injection e with e;subst e;exact⟨rfl,g,c,rfl,h2,h3,h4⟩)⟩,h5⟩
end Go.Proofs.YtfcjeebnkigeaaaGreat.Ms
end

section
set_option linter.unusedVariables false
set_option linter.unusedSimpArgs false
namespace Go.Proofs.YtfcjeebnkigeaaaGreat.Kd
open Go.RowKit Go.Proofs.YtfcjeebnkigeaaaGreat.Mem Go.Proofs.YtfcjeebnkigeaaaGreat.Se
open Go.Proofs.YtfcjeebnkigeaaaGreat.Rg (It Ent Ring RO its)
open Go.Proofs.YtfcjeebnkigeaaaGreat.SeL (sealR Ns)
def oI:Option Nm.L→Int
 |none=>1
 |some _=>0
theorem enc_to {w w':World} {o:Option Nm.L} {e:Ending} (h:Ms.EncR w o e w'):∃v,e = .returned (.tuple #[v,.int .i64 (oI o)])∧SlN (fun j=>j<w.heap.size) w' v (o.getD [])∧Below w.heap.size w w':=by
 obtain⟨⟨v,i,rfl,h1,h2⟩,hb⟩:=h
 cases o with
 |none=>
  obtain⟨rfl,rfl⟩:=h1 rfl
  exact⟨_,rfl,⟨none,0,rfl,Nat.le_refl _,.inl rfl⟩,hb⟩
 |some l=>
  obtain⟨rfl,g,c,rfl,h3,h4,h5⟩:=h2 l rfl
  refine⟨_,rfl,⟨_,c,rfl,h4,?_⟩,hb⟩
  rcases h5 with h5 | ⟨b,o,h6,h7,h8⟩
  ·exact .inl h5
  ·injection h6 with h6
   injection h6 with e1 e2 _
   subst e1 e2
   exact .inr ⟨_,_,rfl,h7,by omega,h8⟩
section
variable {w w':World} {B:Nat} {p:KP} {es:List Ent} {s:Option Ss} {n i c:Nat}
theorem kso_set {q:Nat} {e:Ent} (he:es[q]? = some e) {h':Option Nat} {a o r j:Nat} (hj:KSO p (es.set q ⟨e.it,e.b,h',a,o,r⟩) s j):KSO p es s j∨Ow e.b h' j:=by
 have hq:=(List.getElem?_eq_some_iff.1 he).1
 rcases hj with(hj | hj | hj | ⟨k,f,hf,hj⟩) | hj
 ·exact .inl (.inl (.inl hj))
 ·exact .inl (.inl (.inr (.inl hj)))
 ·exact .inl (.inl (.inr (.inr (.inl hj))))
 ·by_cases g:q=k
  ·subst g
   rw[List.getElem?_set_self hq] at hf
   injection hf with hf
   subst hf
   exact .inr hj
  ·rw[List.getElem?_set_ne g] at hf
   exact .inl (.inl (.inr (.inr (.inr ⟨k,f,hf,hj⟩))))
 ·exact .inl (.inr hj)
theorem i64_wf {N:Nat} (h:N≤1000000):(Lit.int .i64 ((N:Nat):Int)).wf=true:=by
 simp [Lit.wf,IntKind.min,IntKind.max,IntKind.signed,IntKind.bits];omega
theorem box_seal {x:Nat} {ks:Nat→UInt8} (h:KS w B p es s n i c) (hh:Hdl es s x ks) (hc:c<1000000) (u:Int) (N:Nat) (hN:N≤1000000) (v:Value) (l:Nm.L) (hl:l.length≤2000) (hv:SlN (KSO p es s) w v l) :
  Calls Tryz.prog 159 #[.pointer (some ⟨x,0,none⟩),.int .i64 u,.int .i64 (N:Int),v] w fun e w'=>∃v2 er es' s',e = .returned (.tuple #[v2,.int .i64 er])∧SlN (Out w p es' s') w' v2 (sealR ks u (N:Int) l).1∧Kn w w' B p es s es' s' n i (c+1):=by
 obtain⟨A,m,rfl,hm1,hr⟩:=hv
 rcases hh with⟨q,e,he,rfl,rfl⟩ | ⟨z,hz,rfl,rfl⟩
 ·have hcz:=h.cz q e he
  refine(SeL.seal_res e.b e.it.k e.h e.a e.o e.r u (N:Int) A l.length m l w (by omega) (i64_wf hN) rfl (by unfold maxLen;omega) (hr.mono fun j _ hj=>.inl (ow_ko he hj)) (h.k.ring.box q e he)).mono ?_
  rintro e1 w1 ⟨A2,c2,h',a',rfl,h1,h2,h3,h4,h5,h6⟩
  refine⟨_,_,es.set q ⟨e.it,e.b,h',a',e.o,e.r⟩,s,rfl,⟨A2,c2,rfl,h1,h3.mono fun j _ hj=>?_⟩,h.use_r he h4 h5 h6 (by omega) (by omega)⟩
  rcases hj with hj | hj
  ·exact .inl hj
  ·rcases kso_set he hj with g | g
   ·exact .inl (h.kso_lt g)
   ·exact .inr g
 ·subst hz
  have hx:=h.sx z rfl
  refine(SeL.seal_res z.b z.ks z.h z.a z.o z.r u (N:Int) A l.length m l w (by omega) (i64_wf hN) rfl (by unfold maxLen;omega) (hr.mono fun j _ hj=>.inr ⟨z,rfl,hj⟩) hx.1).mono ?_
  rintro e1 w1 ⟨A2,c2,h',a',rfl,h1,h2,h3,h4,h5,h6⟩
  refine⟨_,_,es,some ⟨z.b,z.ks,h',a',z.o,z.r⟩,rfl,⟨A2,c2,rfl,h1,h3.mono fun j _ hj=>?_⟩,h.use_s h4 h5 h6 (by omega) (by omega)⟩
  rcases hj with hj | hj | ⟨y,hy,hj⟩
  ·exact .inl hj
  ·exact .inl (h.k.ko_lt hj)
  ·injection hy with hy
   subst hy
   exact .inr hj
def SealP (w:World) (B:Nat) (p:KP) (es:List Ent) (s:Option Ss) (n i c:Nat) (l:Nm.L) (e:Ending) (w':World):Prop:=
 ∃v2 es' s',e = .returned v2∧SlN (Out w p es' s') w' v2 l∧Kn w w' B p es s es' s' n i c
set_option maxHeartbeats 1600000 in
theorem kseal_any {x:Nat} {ks:Nat→UInt8} (h:KS w B p es s n i c) (hh:Hdl es s x ks) (hc:c<1000000) (hn:n<999990) (u:Int) (v:Value) (l:Nm.L) (hl:l.length≤2000) (hv:SlN (KSO p es s) w v l) :
  Calls Tryz.prog 110 #[.pointer (some ⟨p.k,0,none⟩),.pointer (some ⟨x,0,none⟩),.int .i64 u,v] w (SealP w B p es s (n+1) i (c+1) (sealR ks u ((n+1:Nat):Int) l).1):=by
 have k1:=h.put5 (n+1)
 have c1:=add_one ⟨p.k,5,none⟩ n w (by omega) (h.k.blk.cell 5) (h.k.blk.frozen 5)
 have c2:=box_seal k1.st (k1.hdl hh) hc u (n+1) (by omega) v l hl (k1.sl hv)
 obtain⟨N,eN⟩:∃N:Int,N=((n+1:Nat):Int):=⟨_,rfl⟩
 rw[←eN] at c1 c2 k1⊢
 obtain⟨A,m,ev,hm1,hr⟩:=hv
 obtain⟨L0,eL⟩:∃L0,L0=l.length:=⟨_,rfl⟩
 rw[←eL] at ev
 subst ev
 have K1:=Lib.hid k1
 have EN:=Lib.hid eN
 clear h hh hc hn k1 hr eN eL hm1 hl
 go_enter Tryz.func110,Tryz.ntmps110
 go_wp2_with (first
  |(go_at_call 111;refine Calls.mono c1 ?_;rintro e w1 ⟨rfl,hw⟩;subst hw;clear c1)
  |(go_at_call 159;refine Calls.mono c2 ?_;rintro e w2 ⟨v2,er,es',s',rfl,hs2,hk2⟩;clear c2;have HS:=Lib.hid hs2;have HK:=Lib.hid hk2;clear hs2 hk2)
  |fail)
 go_ret
 exact⟨_,es',s',rfl,Out.old K1.out.size HS.out,K1.out.trans HK.out⟩
end
end Go.Proofs.YtfcjeebnkigeaaaGreat.Kd
end
