import Derived.Test.YtiecjolmennkfaaGreatZAcceptorTells12
set_option maxHeartbeats 25600000
set_option maxRecDepth 100000
set_option linter.unusedVariables false
set_option linter.unusedSimpArgs false
namespace Go.Proofs.YtiecjolmennkfaaGreat
namespace Ac
open Go.RowKit Af Se Kd
open Nm (L)
open Rg (It Ent Ring RO its)
open Ms (An)
open Rt (Tp)
open Rp (Rp Stp)
structure SP where
 a:Nat
 r:Nat
 q:Nat
 lo:Nat
 hi:Nat
 P:Ms.Pr
 T:Tp
 v:Value
 v1:Value
 v2:Value
 v3:Value
def AT (p:SP) (j:Nat):Prop:=p.lo<=j/\j<p.hi
def AO (p:SP) (es:List Ent) (u:Value) (j:Nat):Prop:=j=p.a\/RO p.r p.v es j\/Rp.RO p.q u j
def AA (p:SP) (es:List Ent) (u:Value) (j:Nat):Prop:=AO p es u j\/AT p j
abbrev Gw (p:SP) (n m:Nat) (k:Int):Array Value:=#[.string ⟨p.P.1.toArray⟩,.string ⟨p.P.2.toArray⟩,p.v1,p.v2,p.v3,.pointer (some ⟨p.r,0,none⟩),.int .i64 (n:Int),.int .i64 (m:Int),.int .i32 k,.int .u32 0,.pointer (some ⟨p.q,0,none⟩)]
structure AD (w:World) (B:Nat) (p:SP) (es:List Ent) (u:Value) (on:Bool) (st:Int) (l:List An) (n m c:Nat):Prop where
 blk:Blk w p.a 100 (Gw p n m 0)
 ring:Ring w B p.r p.v es
 rp:Rp w B p.q u on st l
 tp:TpK (AT p) w p.v1 p.v2 p.v3 p.T
 lo:B<=p.a
 tlo:B<=p.lo
 hi:p.hi<=w.heap.size
 ar:¬RO p.r p.v es p.a
 aq:¬Rp.RO p.q u p.a
 at_:¬AT p p.a
 rt:∀j,RO p.r p.v es j->¬AT p j
 qt:∀j,Rp.RO p.q u j->¬AT p j
 rq:∀j,RO p.r p.v es j->¬Rp.RO p.q u j
 cz:Cz es c
structure Av (w0 w:World) (B:Nat) (p:SP) (es0:List Ent) (u0:Value) (es:List Ent) (u:Value) (on:Bool) (st:Int) (l:List An) (n m c:Nat):Prop where
 st:AD w B p es u on st l n m c
 eq:bts es=bts es0
 chg:Chg (AO p es0 u0) w0 w
 nw:∀j,AO p es u j->AO p es0 u0 j\/w0.heap.size<=j
section
variable {w0 w w':World} {B:Nat} {p:SP} {es0 es es':List Ent} {u0 u u':Value} {on on':Bool} {st st':Int} {l l':List An} {n m c n' m' c':Nat}
theorem AD.ao_lt (h:AD w B p es u on st l n m c) {j:Nat} (M:AO p es u j):j<w.heap.size:=by
 rcases M with M | M | M
 ·subst M;exact h.blk.lt
 ·exact h.ring.own_lt M
 ·exact h.rp.own_lt M
theorem AD.aa_lt (h:AD w B p es u on st l n m c) {j:Nat} (M:AA p es u j):j<w.heap.size:=by
 rcases M with M | M
 ·exact h.ao_lt M
 ·have:=M.2;have:=h.hi;omega
theorem AD.ao_lo (h:AD w B p es u on st l n m c) {j:Nat} (M:AO p es u j):B<=j:=by
 rcases M with M | M | M
 ·subst M;exact h.lo
 ·exact h.ring.own_lo M
 ·exact h.rp.own_lo M
theorem AD.hB (h:AD w B p es u on st l n m c):B<=w.heap.size:=by have:=h.lo;have:=h.blk.lt;omega
theorem AD.chg {S:Nat->Prop} (h:AD w B p es u on st l n m c) (O:Chg S w w') (hs:∀j,AA p es u j->¬S j):AD w' B p es u on st l n m c:=
 ⟨O.blk h.blk (hs _ (.inl (.inl rfl))),h.ring.chg O (fun j M=>hs j (.inl (.inr (.inl M)))),h.rp.chg O (fun j M=>hs j (.inl (.inr (.inr M)))),h.tp.chg O (fun j M=>⟨h.aa_lt (.inr M),hs j (.inr M)⟩),h.lo,h.tlo,Nat.le_trans h.hi O.size,h.ar,h.aq,h.at_,h.rt,h.qt,h.rq,h.cz⟩
theorem AD.below (h:AD w B p es u on st l n m c) (M:Below w.heap.size w w'):AD w' B p es u on st l n m c:=h.chg (S:=fun _=>False) (Chg.of_below M) (fun _ _ x=>x)
theorem AD.more (h:AD w B p es u on st l n m c) (M:c<=c'):AD w B p es u on st l n m c':=⟨h.blk,h.ring,h.rp,h.tp,h.lo,h.tlo,h.hi,h.ar,h.aq,h.at_,h.rt,h.qt,h.rq,h.cz.mono M⟩
theorem AD.rs (h:AD w B p es u on st l n m c):RS w B p.r p.v es none c:=⟨h.ring,h.hB,fun z M=>(by cases M),fun j O=>(by obtain⟨z,M,_⟩:=O;cases M),fun j O=>(by obtain⟨z,M,_⟩:=O;cases M),h.cz⟩
theorem Av.refl (h:AD w B p es u on st l n m c):Av w w B p es u es u on st l n m c:=⟨h,rfl,Chg.refl _ _,fun _ x=>.inl x⟩
theorem Av.below (h:Av w0 w B p es0 u0 es u on st l n m c) (M:Below w.heap.size w w'):Av w0 w' B p es0 u0 es u on st l n m c:=
 ⟨h.st.below M,h.eq,h.chg.trans (Chg.of_below (S:=fun _=>False) M) (fun _ _ x=>x.elim),h.nw⟩
theorem Av.start (h:AD w B p es u on st l n m c) (M:Below w.heap.size w w'):Av w w' B p es u es u on st l n m c:=(Av.refl h).below M
theorem Av.size (h:Av w0 w B p es0 u0 es u on st l n m c):w0.heap.size<=w.heap.size:=h.chg.size
theorem Av.trans (h:Av w0 w B p es0 u0 es u on st l n m c) (g:Av w w' B p es u es' u' on' st' l' n' m' c'):Av w0 w' B p es0 u0 es' u' on' st' l' n' m' c':=by
 refine⟨g.st,g.eq.trans h.eq,h.chg.trans g.chg (fun j M x=>?_),fun j M=>?_⟩
 ·rcases h.nw j x with y | y
  ·exact y
  ·omega
 ·rcases g.nw j M with y | y
  ·exact h.nw j y
  ·have:=h.size;exact .inr (by omega)
theorem Av.blk {P:Nat} {t:TypeId} {cs:Array Value} (h:Av w0 w B p es0 u0 es u on st l n m c) (O:Blk w0 P t cs) (M:¬AO p es0 u0 P):Blk w P t cs:=h.chg.blk O M
theorem Av.not {P:Nat} (h:Av w0 w B p es0 u0 es u on st l n m c) (M:¬AO p es0 u0 P) (O:P<w0.heap.size):¬AO p es u P:=fun x=>by
 rcases h.nw P x with y | y
 ·exact M y
 ·omega
theorem Av.sl {v:Value} {b:L} (h:Av w0 w B p es0 u0 es u on st l n m c) (hs:SlN (AO p es0 u0) w0 v b):SlN (AO p es u) w v b:=
 hs.keep h.chg (fun _ _ x=>x) (fun j M x=>by
  rcases h.nw j x with y | y
  ·exact y
  ·omega)
theorem AD.fresh (h:AD w B p es u on st l n m c) {P:Nat} (M:w.heap.size<=P):¬AA p es u P:=fun x=>by have:=h.aa_lt x;omega
theorem Av.more (h:Av w0 w B p es0 u0 es u on st l n m c) (M:c<=c'):Av w0 w B p es0 u0 es u on st l n m c':=⟨h.st.more M,h.eq,h.chg,h.nw⟩
theorem Av.over (h:Av w0 w B p es0 u0 es u on st l n m c) {g:Nat} (Z:w0.heap.size<=g) (hk:¬AA p es u g) (hw:w.grownBy w' (some g)):Av w0 w' B p es0 u0 es u on st l n m c:=by
 have M:Chg (fun j=>j=g) w w':=Chg.of_grown hw rfl;exact⟨h.st.chg M (fun j O e=>hk (e▸O)),h.eq,h.chg.trans M (fun j O x=>by omega),h.nw⟩
theorem Av.of_rn (h:AD w B p es u on st l n m c) (g:Rn w w' B p.r p.v es none es' none c'):Av w w' B p es u es' u on st l n m c':=by
 have aw:∀j,¬SO none j:=fun j M=>by obtain⟨z,hz,_⟩:=M;cases hz
 have Z:∀j,RSO p.r p.v es none j->RO p.r p.v es j:=fun j M=>M.elim id (fun x=>(aw j x).elim)
 have av:∀j,RO p.r p.v es' j->RO p.r p.v es j\/w.heap.size<=j:=fun j M=>(g.nw j (.inl M)).imp (Z j) id
 have O:∀j,j<w.heap.size->¬RO p.r p.v es j->¬RO p.r p.v es' j:=fun j hl hn x=>by
  rcases av j x with y | y
  ·exact hn y
  ·omega
 have hq:∀j,Rp.RO p.q u j->¬RO p.r p.v es j:=fun j M x=>h.rq j x M
 have hT:∀j,AT p j->¬RO p.r p.v es j:=fun j M x=>h.rt j x M
 refine⟨⟨g.chg.blk h.blk (fun x=>h.ar (Z _ x)),g.st.k,h.rp.chg g.chg (fun j M x=>hq j M (Z j x)),h.tp.chg g.chg (fun j M=>⟨h.aa_lt (.inr M),fun x=>hT j M (Z j x)⟩),h.lo,h.tlo,Nat.le_trans h.hi g.chg.size,O _ h.blk.lt h.ar,h.aq,h.at_,fun j M x=>O j (h.aa_lt (.inr x)) (hT j x) M,h.qt,fun j M x=>O j (h.rp.own_lt x) (hq j x) M,g.st.cz⟩,g.eq,g.chg.mono (fun j _ x=>.inr (.inl (Z j x))),fun j M=>?_⟩;rcases M with M | M | M
 ·exact .inl (.inl M)
 ·exact(av j M).imp (fun y=>.inr (.inl y)) id
 ·exact .inl (.inr (.inr M))
theorem Av.own_cell {w':World} (h:AD w B p es u on st l n m c) (O:Chg (fun j=>j=p.a) w w') (Z:Blk w' p.a 100 (Gw p n' m' 0)):Av w w' B p es u es u on st l n' m' c:=by
 refine⟨⟨Z,h.ring.chg O (fun j M x=>h.ar (x▸M)),h.rp.chg O (fun j M x=>h.aq (x▸M)),h.tp.chg O (fun j M=>⟨h.aa_lt (.inr M),fun x=>h.at_ (x▸M)⟩),h.lo,h.tlo,Nat.le_trans h.hi O.size,h.ar,h.aq,h.at_,h.rt,h.qt,h.rq,h.cz⟩,rfl,O.mono (fun j _ x=>.inl x),fun _ x=>.inl x⟩
theorem AD.put6 (h:AD w B p es u on st l n m c) (n':Nat):Av w (w.setCell ⟨p.a,6,none⟩ (.int .i64 (n':Int))) B p es u es u on st l n' m c:=
 Av.own_cell h (Fm _ _ _ _) (by have:=h.blk.set 6 (.int .i64 (n':Int));simpa using this)
theorem AD.put7 (h:AD w B p es u on st l n m c) (m':Nat):Av w (w.setCell ⟨p.a,7,none⟩ (.int .i64 (m':Int))) B p es u es u on st l n m' c:=
 Av.own_cell h (Fm _ _ _ _) (by have:=h.blk.set 7 (.int .i64 (m':Int));simpa using this)
theorem Av.base (h:Av w0 w B p es0 u0 es u on st l n m c) (hk:AD w0 B p es0 u0 on' st' l' n' m' c'):Below B w0 w:=h.chg.below hk.hB (fun j _ M=>hk.ao_lo M)
end
end Ac
namespace Ac
open Go.RowKit Af Se Kd
open Nm (strs Cu AW)
open Rg (It Ent Ring RO its)
open Rt (Tp Sm SlV SlP TpV isT Th)
open Rp (Rp Tm)
section
variable {w:World} {B:Nat} {es:List Ent} {T:Tp} {P:Nm.L×Nm.L} {v1 v2 v:Value} {r c:Nat}
theorem aT {now:Int} (hs:Sm T) (hp:T.P = []) (cg:∀x∈T.K,x.1.length<=3000/\x.2.length<=3000) (hT:isT T=true) (cM:P.1.length<=1000000/\P.2.length<=1000000) (cp:Cu P.1 P.2=true) (h1:SlV w w.heap.size v1 T.R) (h2:SlP w w.heap.size v2 T.K) (hR:P.1∈T.R) (hr:Ring w B r v es) (hB:B<=w.heap.size) (hz:Cz es c) :
  Calls Tryz.prog 14 #[prV P,.agg (tpA v1 v2),.pointer (some ⟨r,0,none⟩),.int .i64 now] w fun e w'=>∃a q lo hi u1 u2,e=.returned (.tuple #[.pointer (some ⟨a,0,none⟩),.int .i64 0])/\w.heap.size<=a/\w.heap.size<=lo/\w.heap.size<=q/\AD w' B ⟨a,r,q,lo,hi,P,T,v,u1,u2,.slice none 0 0⟩ es (.slice none 0 0) (!decide (now=0)) now [] 0 0 c/\Below w.heap.size w w':=by
 have bB:=h1;have cb:=h2;obtain⟨A1,c1,rfl,cB,r1⟩:=h1;obtain⟨A2,c2,rfl,cu,r2⟩:=h2;obtain⟨W,eW⟩:=Ak ((w.alloc (.cells #[.string ⟨P.1.toArray⟩,.string ⟨P.2.toArray⟩] 30)).alloc (.cells (tpA (.slice A1 T.R.length c1) (.slice A2 T.K.length c2)) 64));have M:Below w.heap.size w W:=eW▸(Ah.alloc Ag _).alloc (by simp) _;have Z:=I (show Blk W w.heap.size 30 #[.string ⟨P.1.toArray⟩,.string ⟨P.2.toArray⟩] from eW▸(Blk.new w _ _).alloc _);have O:=I (show Blk W (w.heap.size+1) 64 (tpA (.slice A1 T.R.length c1) (.slice A2 T.K.length c2)) by have:=Blk.new (w.alloc (.cells #[.string ⟨P.1.toArray⟩,.string ⟨P.2.toArray⟩] 30)) 64 (tpA (.slice A1 T.R.length c1) (.slice A2 T.K.length c2));simp only[World.size_alloc] at this;exact eW▸this);have HB:=I M;have CI:=I (fun(w1:World) (b1:Below w.heap.size w w1)=>Th T _ w.heap.size w1 hs (show TpV w1 w.heap.size (.agg (tpA (.slice A1 T.R.length c1) (.slice A2 T.K.length c2))) T from⟨_,_,.slice none 0 0,rfl,bB.below b1,cb.below b1,none,0,by rw[hp];rfl,by rw[hp];exact Nat.le_refl _,.inl hp⟩) b1.size);rw[hT] at CI;have CP:=I (fun(w1:World)=>AW P.1 P.2 w1 (by omega) (by omega));rw[cp] at CP;have CC:=I (fun(w1:World) (b1:Below w.heap.size w w1)=>Tr.Cb T.R A1 c1 w.heap.size P.1 w1 (by have:=hs.r;omega) (r1.below b1));have CL:=I (fun w1=>Rg.Lz P w1 (by omega) (by omega));have CT:=I (fun(w1:World) (b1:Below w.heap.size w w1)=>UA T hs hp cg _ _ w1 (bB.on b1) (cb.on b1));have CR:=I (fun(w1:World)=>Rp.Hy now w1);obtain⟨n,en⟩:=Ak (T.R.length);obtain⟨m,em⟩:=Ak (T.K.length);rw[<-en] at CI CC CT O eW⊢;rw[<-em] at CI CT O eW⊢;have hd:decide (P.1∈T.R)=true:=decide_eq_true hR;rw[hd] at CC;have bn:=I hr;have cy:=I hB;have HZ:=I hz;clear hd hR hr bB cb r1 r2 cB cu hs hp cg hT cM cp M en em hB hz;go_enter Tryz.func14,Tryz.ntmps14
 go_upto_region 1 with fail
 rw[<-eW];clear eW;have cc:=Z.o.cell 0;have cQ:=Z.o.cell 1
 go_upto_region 3 with(first
  |(go_at_call 25;refine Aj (CP.o _) ?_;rintro w1 M;clear CP cc cQ;replace O:=I (O.o.below M);replace Z:=I (Z.o.below M);replace HB:=HB.t M;have ca:=O.o.cell 0;have cP:=O.o.cell 1;have cw:=O.o.cell 2;clear M)
  |(go_at_call 31;refine Aj (CI.o _ HB.o) ?_;rintro w2 M;clear CI ca cP cw;replace O:=I (O.o.below M);replace Z:=I (Z.o.below M);replace HB:=HB.t M;have ca:=O.o.cell 0;have cc:=Z.o.cell 0;clear M)
  |(go_at_call 32;refine Aj (CC.o _ HB.o) ?_;rintro w3 hw;clear CC;subst hw)
  |fail)
 clear ca cc;have bs:Below w2.heap.size w2 w2.drew:=below_drewN Ah 1;replace Z:=I (Z.o.below bs);replace O:=I (O.o.below bs);replace HB:=HB.t bs;clear bs;refine Reg.Bo (fun w'=>Blk w' w.heap.size 30 #[.string ⟨P.1.toArray⟩,.string ⟨P.2.toArray⟩]/\Blk w' (w.heap.size+1) 64 (tpA (.slice A1 n c1) (.slice A2 m c2))) 11 rfl (by kernel_rfl) ⟨Z.o,O.o⟩ ?_;refine Reg.tw 0 (v:=prV P) rfl ⟨Z.o,O.o⟩ (fun w' hS=>by obtain⟨hP,hT⟩:=hS;have q0:=hP.cell 0;have q1:=hP.cell 1;go_simp<;>rfl) ?_;refine Reg.tw 2 (v:=.agg (tpA (.slice A1 n c1) (.slice A2 m c2))) rfl ⟨Z.o,O.o⟩ (fun w' hS=>by obtain⟨hP,hT⟩:=hS;have k0:=hT.cell 0;have k1:=hT.cell 1;have k2:=hT.cell 2;go_simp<;>rfl) ?_;refine Reg.ty 4 rfl ⟨Z.o,O.o⟩ ?_;refine Reg.ty 5 rfl ⟨Z.o,O.o⟩ ?_;refine Reg.b1 1 ?_
 right
 refine⟨_,_,_,_,_,_,27,#[prV P],rfl,by rfl,(by go_simp<;>first | rfl | exact⟨rfl,rfl⟩),?_⟩;refine Aj (CL.o _) ?_;rintro bx M;replace Z:=I (Z.o.below M);replace O:=I (O.o.below M);replace HB:=HB.t M;clear M;clear CL;refine⟨_,rfl,⟨Z.o,O.o⟩,?_⟩;simp only[Act.put,U,Aa,Ab];refine Reg.b1 3 ?_
 right
 refine⟨_,_,_,_,_,_,33,#[.agg (tpA (.slice A1 n c1) (.slice A2 m c2))],rfl,by rfl,(by go_simp<;>first | rfl | exact⟨rfl,rfl⟩),?_⟩;refine Calls.mono (CT.o _ HB.o) ?_;rintro e wb ⟨u1,u2,rfl,ck,M⟩;have cq:=I HB.o.size;replace Z:=I (Z.o.below M);replace O:=I (O.o.below M);replace HB:=HB.t M;have aw:=I ck;have av:=I (Nat.le_refl wb.heap.size);obtain⟨HI,bq⟩:=Ak (wb.heap.size);have cf:=I (show bx.heap.size<=HI by rw[bq];exact M.size);obtain⟨LO,cm⟩:=Ak (bx.heap.size);rw[<-cm] at aw cq cf;rw[<-bq] at aw;replace av:=I (show HI<=wb.heap.size from Nat.le_of_eq bq);clear M ck cm bq;refine⟨_,rfl,⟨Z.o,O.o⟩,?_⟩;simp only[Act.put,U,Aa,Ab];refine Reg.b1 6 ?_
 right
 refine⟨_,_,_,_,_,_,34,#[.int .i64 now],rfl,by rfl,(by go_simp<;>first | rfl | exact⟨rfl,rfl⟩),?_⟩;refine Calls.mono (CR.o _) ?_;rintro e wr ⟨q,rfl,hm⟩;have cA:=I av.o;have M:=hm.low;have cd:=hm.rp;replace Z:=I (Z.o.below M);replace O:=I (O.o.below M);replace aw:=I (aw.o.keep (fun b o hx=>World.cell?_of_block (a:=⟨b,o,none⟩) (M.block b (by have:=hx.2;have:=av.o;omega))) (fun b hx=>hx));replace av:=I (Nat.le_trans av.o M.size);replace HB:=HB.t M;have cj:=I cd;have ct:=I (show HI<=q from Nat.le_trans cA.o cd.lo);clear M hm cd;refine⟨_,rfl,⟨Z.o,O.o⟩,?_⟩;simp only[Act.put,U,Aa,Ab];refine Reg.ty 7 rfl ⟨Z.o,O.o⟩ ?_;refine Reg.b1 8 ?_
 left
 obtain⟨A8,c8,A9,c9,e8,e9,_⟩:=aw.o.sizes;subst e8 e9;have M:Below wr.heap.size wr (wr.alloc (.cells #[.string ⟨P.1.toArray⟩,.string ⟨P.2.toArray⟩,(.slice A8 T.R.length c8),(.slice A9 T.K.length c9),.slice none 0 0,.pointer (some ⟨r,0,none⟩),.int .i64 0,.int .i64 0,.int .i32 0,.int .u32 0,.pointer (some ⟨q,0,none⟩)] 100)):=Ah.alloc Ag _;have bz:=Blk.new wr 100 #[.string ⟨P.1.toArray⟩,.string ⟨P.2.toArray⟩,(.slice A8 T.R.length c8),(.slice A9 T.K.length c9),.slice none 0 0,.pointer (some ⟨r,0,none⟩),.int .i64 0,.int .i64 0,.int .i32 0,.int .u32 0,.pointer (some ⟨q,0,none⟩)];refine⟨_,_,_,_,_,_,.pointer (some ⟨wr.heap.size,0,none⟩),wr.alloc (.cells #[.string ⟨P.1.toArray⟩,.string ⟨P.2.toArray⟩,(.slice A8 T.R.length c8),(.slice A9 T.K.length c9),.slice none 0 0,.pointer (some ⟨r,0,none⟩),.int .i64 0,.int .i64 0,.int .i32 0,.int .u32 0,.pointer (some ⟨q,0,none⟩)] 100),rfl,by rfl,(by go_simp<;>rfl),⟨Z.o.below M,O.o.below M⟩,?_⟩;simp only[Act.put,U,Aa,Ab];have cT:=I (Nat.le_refl wr.heap.size);obtain⟨wc,cn⟩:=Ak (wr.alloc (.cells #[.string ⟨P.1.toArray⟩,.string ⟨P.2.toArray⟩,(.slice A8 T.R.length c8),(.slice A9 T.K.length c9),.slice none 0 0,.pointer (some ⟨r,0,none⟩),.int .i64 0,.int .i64 0,.int .i32 0,.int .u32 0,.pointer (some ⟨q,0,none⟩)] 100));rw[<-cn] at M bz⊢;clear cn;have cL:=I bz;have bb:=I M;replace Z:=I (Z.o.below M);replace O:=I (O.o.below M);clear M bz;refine Reg.ty 9 rfl ⟨Z.o,O.o⟩ ?_;refine Reg.ty 10 rfl ⟨Z.o,O.o⟩ ?_;refine wpAnyH_done (by kernel_rfl) ?_ _
 go_wp2_with fail
 go_ret2
 have cx:=cq.o;have cX:=cf.o;have ea:=av.o;have cR:=bb.o.size;have cY:=cy.o;have eb:=ct.o;have cZ:=cj.o.lt;have cr:=HB.o.trans (bb.o.mono HB.o.size);refine⟨wr.heap.size,q,LO,HI,_,_,rfl,by omega,cx,by omega,⟨cL.o,bn.o.below cr,?_,?_,?_,?_,?_,?_,?_,?_,?_,?_,?_,HZ.o⟩,cr⟩
 ·exact⟨cj.o.blk.below bb.o,World.ownsRow_nil _ _ _ 4,(show B<=q by omega),by simp [Value.ownBlock],by simp⟩
 ·exact aw.o.keep (fun b o hx=>World.cell?_of_block (a:=⟨b,o,none⟩) (bb.o.block b (by have:=hx.2;omega))) (fun b hx=>hx)
 ·show B<=wr.heap.size;omega
 ·show B<=LO;omega
 ·show HI<=_;omega
 ·intro hx;have:=bn.o.own_lt hx;simp only at this;omega
 ·intro hx;rcases hx with hx | hx;(· simp only at hx;omega);(· simp [Value.ownBlock] at hx)
 ·intro hx;have:=hx.2;simp only at this;omega
 ·intro j hx hy;have:=bn.o.own_lt hx;have:=hy.1;simp only at *;omega
 ·intro j hx hy;rcases hx with hx | hx;(· have:=hy.2;simp only at *;omega);(· simp [Value.ownBlock] at hx)
 ·intro j hx hy;have:=bn.o.own_lt hx;rcases hy with hy | hy;(· simp only at *;omega);(· simp [Value.ownBlock] at hy)
end
end Ac
namespace Ac
open Go.RowKit Af Se Kd
open Nm (L Own strs)
open Rg (It Ent Ring RO its)
open Ms (An Pt)
open Rt (Tp Sm GY Jq)
open Tr (expL SU SK ExpV)
section
variable {w0 w w':World} {B:Nat} {p:SP} {es:List Ent} {u:Value} {on:Bool} {st:Int} {l:List An} {n m c:Nat}
theorem dQ {P:Pt} {rz:Int×List L} (h:AD w B p es u on st l n m c) (hs:Sm p.T) (hk:P.ss.length=32) (h1:P.tr.length<=90000) (h2:P.c.1.length<=1000000) (h3:p.P.1.length<=1000000) (hr:pasL p.T p.P.1 P=rz) :
  Calls Tryz.prog 55 #[.pointer (some ⟨p.a,0,none⟩),.agg (ptA P)] w fun e w'=>∃v,e=.returned (.tuple #[v,.int .i64 rz.1])/\Own w' w.heap.size v rz.2/\Below w.heap.size w w':=by
 obtain⟨bs,aw⟩:=Ak (ptA P);rw[<-aw];obtain⟨W,eW⟩:=Ak (w.alloc (.cells bs 33));have M:Below w.heap.size w W:=eW▸Ah.alloc Ag _;have hp:Blk W w.heap.size 33 bs:=eW▸Blk.new w _ _;have KP:=I (fun(w1:World) (M:Blk w1 w.heap.size 33 bs)=>And.intro (pt_0 (aw▸M)) (pt_34 hk (aw▸M)));have HP:=I hp;have Z:=I (h.below M);have HB:=I M;have CE:=I (fun(w1:World)=>SU P.tr P.c.1 p.P.1 w1 h1 (by omega) (by omega));have cd:=SK P.tr P.c.1 p.P.1;obtain⟨A1,c1,A2,c2,e1,e2,e3⟩:=h.tp.sizes;have CC:=I (fun(w1:World) (h1:AD w1 B p es u on st l n m c)=>(show Calls Tryz.prog 32 #[.slice A1 p.T.R.length c1,.string ⟨P.c.1.toArray⟩] w1 fun e w'=>e=.returned (.bool (decide (P.c.1∈p.T.R)))/\w1=w' by
  obtain⟨A,c,e,hc,hr⟩:=h1.tp.r.slv (B:=w1.heap.size) (fun b M=>h1.aa_lt (.inr M));rw[e1] at e;injection e with q1 _ q3;subst q1 q3;exact Tr.Cb p.T.R A1 c1 _ P.c.1 w1 (by have:=hs.r;omega) hr))
 have CA:=I (fun(w1:World) (h1:AD w1 B p es u on st l n m c) (A:Option Addr) (cp:Nat) (hr:Rd w1 w1.heap.size A (strs (expL P.tr P.c.1 p.P.1).1))=>Jq p.T (.agg #[p.v1,p.v2,p.v3]) w1.heap.size P.c.1 p.P.1 (expL P.tr P.c.1 p.P.1).1 A cp w1.heap.size w1 hs (h1.tp.tpv (fun b M=>h1.aa_lt (.inr M))) Ag h2 h3 (by omega) hr Ag);have KA:=I (fun(w1:World) (h1:AD w1 B p es u on st l n m c)=>(show w1.cell? ⟨p.a,0,none⟩=some (.string ⟨p.P.1.toArray⟩)/\w1.cell? ⟨p.a,2,none⟩=some (.slice A1 p.T.R.length c1)/\w1.cell? ⟨p.a,3,none⟩=some (.slice A2 p.T.K.length c2)/\w1.cell? ⟨p.a,4,none⟩=some (.slice none 0 0) from⟨h1.blk.cell 0,(h1.blk.cell 2).trans (congrArg some e1),(h1.blk.cell 3).trans (congrArg some e2),(h1.blk.cell 4).trans (congrArg some e3)⟩));rw[e1,e2,e3] at CA;have HR:=I ((show pasL p.T p.P.1 P=(if (expL P.tr P.c.1 p.P.1).2=0 then (if P.c.1∈p.T.R then if GY p.T P.c.1 p.P.1 (expL P.tr P.c.1 p.P.1).1=true then (0,(expL P.tr P.c.1 p.P.1).1) else (11,[]) else (1,[])) else (((expL P.tr P.c.1 p.P.1).2:Int),[]):Int×List L) from rfl).symm.trans hr);obtain⟨nR,bz⟩:=Ak (p.T.R.length);obtain⟨nK,bB⟩:=Ak (p.T.K.length);rw[<-bz] at CC CA KA;rw[<-bB] at CA KA;obtain⟨ls,bb⟩:=Ak ((expL P.tr P.c.1 p.P.1).1);obtain⟨E,eE⟩:=Ak ((expL P.tr P.c.1 p.P.1).2);have O:=I (show ∀w1:World,Calls Tryz.prog 91 #[.string ⟨P.tr.toArray⟩,.string ⟨P.c.1.toArray⟩,.string ⟨p.P.1.toArray⟩] w1 fun e w'=>(∃A cp,e=.returned (.tuple #[.slice A ls.length cp,.int .i64 (E:Int)])/\Own w' w1.heap.size (.slice A ls.length cp) ls)/\Below w1.heap.size w1 w' from fun w1=>(CE.o w1).mono (by
  rintro e w' ⟨⟨v,rfl,ho⟩,M⟩;rw[<-eE];rw[<-bb] at ho;obtain⟨A,cp,rfl,_⟩:=ho.slice;exact⟨⟨A,cp,rfl,ho⟩,M⟩))
 rw[<-bb] at CA HR cd;rw[<-eE] at HR;obtain⟨nl,bn⟩:=Ak (ls.length);rw[<-bn] at CA O;have cn:=I bn;obtain⟨b1,bx⟩:=Ak (decide (P.c.1∈p.T.R));rw[<-bx] at CC;obtain⟨b2,ca⟩:=Ak (GY p.T P.c.1 p.P.1 ls);rw[<-ca] at CA HR;have bq:=I bx;obtain⟨cx,cc⟩:=Ak (P.c.1);obtain⟨px,cb⟩:=Ak (p.P.1);rw[<-cc] at CC CA O HR KP bq;rw[<-cb] at CA O KA;have cg:=(KA.o W Z.o).1;have cj:=(KP.o W HP.o).1;clear h hs hk h1 h2 h3 hr M hp cd e1 e2 e3 bb eE bn bx ca bz bB aw cc cb CE;go_enter Tryz.func55,Tryz.ntmps55
 go_upto_region 1 with fail
 rw[<-eW];clear eW
 go_quiet (fail)
 have hd:=below_drewN (Below.refl W.heap.size W) nq;replace HP:=I (HP.o.below hd);replace Z:=I (Z.o.below hd);replace HB:=HB.t hd;clear hd cg cj;generalize W.drewN nq=W1 at HP Z HB⊢;have av:=(KP.o W1 HP.o).2
 by_cases hE:E=0
 ·replace HR:=I ((if_pos hE).symm.trans HR.o)
  subst hE;cases b1 with
  |false=>
   replace HR:=I ((if_neg (of_decide_eq_false bq.o.symm)).symm.trans HR.o);have er:rz=(1,[]):=HR.o.symm;subst er;clear CA HR
   go_wp2_with (first
    |(go_at_call 91;refine Calls.mono (O.o _) ?_;rintro e w2 ⟨⟨A,cp,rfl,ho⟩,M⟩;clear O av;replace Z:=I (Z.o.below M);replace HB:=HB.t M;have cf:=(KA.o w2 Z.o).2.1;have c2:=CC.o w2 Z.o;clear M ho CC KA)
    |(go_at_call 32;refine Aj c2 ?_;rintro w3 hw;subst hw;clear c2)
    |fail)
   go_ret2
   exact⟨_,rfl,Own.nil _ _,HB.o⟩
  |true=>
   replace HR:=I ((if_pos (of_decide_eq_true bq.o.symm)).symm.trans HR.o);cases b2 with
   |false=>
    have er:rz=(11,[]):=HR.o.symm;subst er;clear HR
    go_wp2_with (first
     |(go_at_call 91;refine Calls.mono (O.o _) ?_;rintro e w2 ⟨⟨A,cp,rfl,ho⟩,M⟩;clear O av;replace Z:=I (Z.o.below M);replace HB:=HB.t M;have cf:=(KA.o w2 Z.o).2.1;have cm:=(KA.o w2 Z.o).2.2.1;have ck:=(KA.o w2 Z.o).2.2.2;have c2:=CC.o w2 Z.o;have c3:=CA.o w2 Z.o A cp (by obtain⟨A',c',e',hr⟩:=ho.slice;injection e' with q1;subst q1;exact hr);clear M ho CC CA KA)
     |(go_at_call 32;refine Aj c2 ?_;rintro w3 hw;subst hw;clear c2)
     |(go_at_call 92;refine Aj c3 ?_;rintro w4 M;clear c3;replace HB:=HB.t M;clear M)
     |fail)
    go_ret2
    exact⟨_,rfl,Own.nil _ _,HB.o⟩
   |true=>
    have er:rz=(0,ls):=HR.o.symm;subst er;clear HR
    go_wp2_with (first
     |(go_at_call 91;refine Calls.mono (O.o _) ?_;rintro e w2 ⟨⟨A,cp,rfl,ho⟩,M⟩;clear O av;replace Z:=I (Z.o.below M);have HO:=I (show Own w2 w.heap.size (.slice A nl cp) ls from ho.from_ HB.o.size);replace HB:=HB.t M;have cf:=(KA.o w2 Z.o).2.1;have cm:=(KA.o w2 Z.o).2.2.1;have ck:=(KA.o w2 Z.o).2.2.2;have c2:=CC.o w2 Z.o;have c3:=CA.o w2 Z.o A cp (by obtain⟨A',c',e',hr⟩:=ho.slice;injection e' with q1;subst q1;exact hr);clear M ho CC CA KA)
     |(go_at_call 32;refine Aj c2 ?_;rintro w3 hw;subst hw;clear c2)
     |(go_at_call 92;refine Aj c3 ?_;rintro w4 M;clear c3;replace HB:=HB.t M;replace HO:=I (HO.o.below M);clear M)
     |fail)
    go_ret2
    exact⟨_,rfl,HO.o,HB.o⟩
 ·replace HR:=I ((if_neg hE).symm.trans HR.o)
  have er:rz=((E:Int),[]):=HR.o.symm;subst er;have t1:((E:Int) != 0)=true:=by simp;omega
  clear CA CC KA HR hE
  go_wp2_with (first
   |(go_at_call 91;refine Calls.mono (O.o _) ?_;rintro e w2 ⟨⟨A,cp,rfl,ho⟩,M⟩;clear O av;replace HB:=HB.t M;clear M ho)
   |fail)
  go_ret2
  exact⟨_,rfl,Own.nil _ _,HB.o⟩
theorem aU {P:Pt} (h:AD w B p es u on st l n m c) (hs:Sm p.T) (hk:P.ss.length=32) (O:P.tr.length<=90000) (Z:P.c.1.length<=1000000) (M:p.P.1.length<=1000000) :
 Calls Tryz.prog 55 #[.pointer (some ⟨p.a,0,none⟩),.agg (ptA P)] w fun e w'=>∃v,e=.returned (.tuple #[v,.int .i64 (pasL p.T p.P.1 P).1])/\Own w' w.heap.size v (pasL p.T p.P.1 P).2/\Below w.heap.size w w':=dQ h hs hk O Z M rfl
end
end Ac
namespace Ac
open Go.RowKit Af Se Kd
open Nm (L)
open Rg (It Ent Ring RO its)
open Ms (An)
open Rp (Rp Stp Tm seeE seeL UH)
section
variable {w0 w w' W w2:World} {B:Nat} {p:SP} {es:List Ent} {u u':Value} {on on':Bool} {st st':Int} {l l':List An} {n m c:Nat}
theorem Av.seen (h:AD w B p es u on st l n m c) (hW:Below w.heap.size w W) {W2:World} (Z:Below W.heap.size (W.setCell ⟨p.a,8,none⟩ (.int .i32 1)) W2) (g:Stp W2 w2 B p.q u u' on' st' l'):Av w (w2.setCell ⟨p.a,8,none⟩ (.int .i32 0)) B p es u es u' on' st' l' n m c/\w2.cell? ⟨p.a,8,none⟩=some (.int .i32 1)/\w2.frozen? ⟨p.a,8,none⟩=false:=by
 have av:=h.blk.lt;have aw:W.heap.size<=W2.heap.size:=by have:=Z.size;exact Nat.le_trans (Fm W p.a 8 (.int .i32 1)).size this
 have c1:Chg (fun j=>j=p.a\/Rp.RO p.q u j) w W:=(Chg.of_below (S:=fun _=>False) hW).mono (fun _ _ x=>x.elim);have c2:Chg (fun j=>j=p.a\/Rp.RO p.q u j) w (W.setCell ⟨p.a,8,none⟩ (.int .i32 1)):=c1.trans (Fm W p.a 8 (.int .i32 1)) (fun j _ x=>.inl x);have c3:Chg (fun j=>j=p.a\/Rp.RO p.q u j) w W2:=c2.trans (Chg.of_below (S:=fun _=>False) (Z.mono (by simp [World.setCell]))) (fun _ _ x=>x.elim);have c4:Chg (fun j=>j=p.a\/Rp.RO p.q u j) w w2:=c3.trans g.chg (fun j _ x=>.inr x);have c5:Chg (fun j=>j=p.a\/Rp.RO p.q u j) w (w2.setCell ⟨p.a,8,none⟩ (.int .i32 0)):=c4.trans (Fm w2 p.a 8 (.int .i32 0)) (fun j _ x=>.inl x);have b1:Blk (W.setCell ⟨p.a,8,none⟩ (.int .i32 1)) p.a 100 (Gw p n m 1):=by have:=(h.blk.below hW).set 8 (.int .i32 1);simpa using this
 have b2:Blk W2 p.a 100 (Gw p n m 1):=b1.below (Z.mono (by simp [World.setCell]));have b3:Blk w2 p.a 100 (Gw p n m 1):=g.chg.blk b2 h.aq;have b4:Blk (w2.setCell ⟨p.a,8,none⟩ (.int .i32 0)) p.a 100 (Gw p n m 0):=by have:=b3.set 8 (.int .i32 0);simpa using this
 have O:∀j,j<w.heap.size->¬Rp.RO p.q u j->¬Rp.RO p.q u' j:=fun j hl hn x=>by
  rcases g.new j x with y | y
  ·exact hn y
  ·have:=hW.size;omega
 refine⟨⟨⟨b4,h.ring.chg c5 (fun j M x=>?_),g.rp.chg (Fm w2 p.a 8 (.int .i32 0)) (fun j M x=>O _ av h.aq (x▸M)),h.tp.chg c5 (fun j M=>⟨h.aa_lt (.inr M),fun x=>?_⟩),h.lo,h.tlo,Nat.le_trans h.hi c5.size,h.ar,O _ av h.aq,h.at_,h.rt,fun j M x=>O j (h.aa_lt (.inr x)) (fun y=>h.qt j y x) M,fun j M x=>O j (h.ring.own_lt M) (h.rq j M) x,h.cz⟩,rfl,c5.mono (fun j _ x=>x.imp id .inr),fun j M=>?_⟩,b3.cell 8,b3.frozen 8⟩
 ·rcases x with x | x
  ·exact h.ar (x▸M)
  ·exact h.rq j M x
 ·rcases x with x | x
  ·exact h.at_ (x▸M)
  ·exact h.qt j x M
 ·rcases M with M | M | M
  ·exact .inl (.inl M)
  ·exact .inl (.inr (.inl M))
  ·rcases g.new j M with y | y
   ·exact .inl (.inr (.inr y))
   ·have:=hW.size;exact .inr (by omega)
theorem UI {a:An} {now:Int} (h:AD w B p es u on st l n m c) (hs:Tm st) (ha:Tm a.t) (hn:Tm now) (h1:a.c.1.length<=140737488351232) (h2:a.c.2.length<=140737488351232) (hl:l.length<=1000) :
  Calls Tryz.prog 56 #[.pointer (some ⟨p.a,0,none⟩),.agg (Rp.anA a),.int .i64 now] w fun e w'=>e=.returned (.int .i64 (seeE on st l a now))/\∃u',Av w w' B p es u es u' on st (seeL on st l a now) n m c:=by
 obtain⟨W,eW⟩:=Ak (w.alloc (.cells (Rp.anA a) 35));have hb:Below w.heap.size w W:=eW▸Ah.alloc Ag _;have hx:=h.below hb;have bB:=I (show Blk W w.heap.size 35 (Rp.anA a) from eW▸Blk.new w _ _);have HW:=I hb;have HA:=I h;have cl:=Sp.Js ⟨p.a,8,none⟩ W (hx.blk.cell 8) (hx.blk.frozen 8);have cc:=hx.blk.lt;have bn:Rp (W.setCell ⟨p.a,8,none⟩ (.int .i32 1)) B p.q u on st l:=hx.rp.chg (Fm W p.a 8 (.int .i32 1)) (fun j hj x=>hx.aq (x▸hj));have bs:Blk (W.setCell ⟨p.a,8,none⟩ (.int .i32 1)) p.a 100 (Gw p n m 1):=by have:=hx.blk.set 8 (.int .i32 1);simpa using this
 have bq:=Si.Blk.far bB.o ⟨p.a,8,none⟩ (.int .i32 1) (show p.a≠w.heap.size by have:=h.blk.lt;omega);obtain⟨W1,av⟩:=Ak (W.setCell ⟨p.a,8,none⟩ (.int .i32 1));have cj:=I av;rw[<-av] at bn bs bq cl;have Z:Below W1.heap.size W1 W1.drew:=below_drewN Ah 1;have ca:W1.heap.size=W.heap.size:=by rw[av];simp [World.setCell]
 have bz:=I (bn.below Z);have O:=I (bs.below Z);have M:=I (bq.below Z);have bx:=I (show Below W.heap.size (W.setCell ⟨p.a,8,none⟩ (.int .i32 1)) W1.drew by rw[<-av,<-ca];exact Z);have CS:=I (UH B p.q u on st l a now W1.drew bz.o hs ha hn h1 h2 hl);clear h hb hx cc bn bs bq Z ca hs ha hn h1 h2 hl av
 go_enter_defers Tryz.func56,Tryz.ntmps56
 go_upto_region 1 with fail
 rw[<-eW];clear eW
 go_upto_region 3 with(first
  |(go_at_call 93;refine Aj cl ?_;rintro w' rfl;clear cl)
  |fail)
 go_region_held3 (fun w2=>w2.cell? ⟨p.a,10,none⟩=some (.pointer (some ⟨p.q,0,none⟩))/\w2.cell? ⟨w.heap.size,0,none⟩=some (.string ⟨a.c.1.toArray⟩)/\w2.cell? ⟨w.heap.size,1,none⟩=some (.string ⟨a.c.2.toArray⟩)/\w2.cell? ⟨w.heap.size,2,none⟩=some (.int .i64 a.t)/\w2.cell? ⟨w.heap.size,3,none⟩=some (.int .i64 a.q)) (exact⟨O.o.cell 10,M.o.cell 0,M.o.cell 1,M.o.cell 2,M.o.cell 3⟩) ((go_at_call 95;refine Aj CS.o ?_;rintro w2 ⟨u',hu⟩;have HU:=I hu;have bb:=I (hu.chg.blk O.o HA.o.aq);have aw:=I (hu.chg.blk M.o (fun x=>by have:=HA.o.rp.own_lt x;omega));clear CS hu O M;have O:=I bb.o;have M:=I aw.o;clear bb aw))
 obtain⟨cd,cf,cb⟩:=Av.seen HA.o HW.o bx.o HU.o;clear O M bx bz bB
 go_wp2
 refine leaves_cons (f:=94) (args:=#[.pointer (some ⟨p.a,8,none⟩)]) (by simp) (by simp [go_sem]) ?_;refine(Sp.DT ⟨p.a,8,none⟩ _ _ cf cb).mono ?_;rintro e f cg ⟨rfl,rfl,rfl⟩;simp [Leaves,settle,results,Tryz.results56];exact⟨u',cd⟩
end
end Ac
namespace OpenQ
open Go.Joins Go.ChangeShapes Go.WideShapes Go.ChangeAt Go.RowKit Go.Deep Go.Proofs.YtiecjolmennkfaaGreat Af Rg Se
structure Ac where
 k:Int
 p:Pr
 y:Nat->UInt8
 n:Int
def aC (a:Ac):List Value:=.int .i64 a.k :: .string ⟨a.p.1.toArray⟩ :: .string ⟨a.p.2.toArray⟩ :: ((AQ a.y).toList++[.int .i64 a.n])
def RdAc (w:World) (B:Nat) (A:Option Addr) (l:List Ac):Prop:=
 l = []\/∃g o,A=some ⟨g,o,none⟩/\g<B/\∀i x,l[i]? = some x->w.rangeAt g (o+i*36) (aC x)
theorem RdAc.keep {w w':World} {B:Nat} {A:Option Addr} {l:List Ac} (h:RdAc w B A l) (hb:Below B w w'):RdAc w' B A l:=by
 rcases h with h | ⟨g,o,Z,M,O⟩
 ·exact .inl h
 ·exact .inr ⟨g,o,Z,M,fun i x hx j v hv=>(hb.cell (p:=⟨g,_,none⟩) M).trans (O i x hx j v hv)⟩
section
variable {H:Type} {enc:TypeId×Value->H} {W:World}
end
end OpenQ
namespace Rg
open Go.RowKit Af Se OpenQ
section
variable {w:World} {g:Nat} {t:TypeId} {x:Ac}
end
section
variable {w w':World} {B r q:Nat} {v v' dv dv':Value} {es es':List Ent} {l l':List It} {g:Nat}
def Ap (r:Nat) (v:Value) (es:List Ent) (q:Nat) (dv:Value):Prop:=∀k,DO q dv k->¬RO r v es k
theorem aV (h:Ap r v es q dv) (M:DRing w B q dv l) (O:∀k,RO r v' es' k->RO r v es k\/w.heap.size<=k):Ap r v' es' q dv:=fun k hk x=>by
 rcases O k x with y | y
 ·exact h k hk y
 ·have:=M.own_lt hk;omega
theorem dR (h:Ap r v es q dv) (O:Ring w B r v es) (M:∀k,DO q dv' k->DO q dv k\/w.heap.size<=k):Ap r v es q dv':=fun k hk x=>by
 rcases M k hk with y | y
 ·exact h k y x
 ·have:=O.own_lt x;omega
theorem aW (h:Ap r v es q dv) (M:DRing w B q dv l) (O:Chg (AT r v) w w'):DRing w' B q dv l:=M.chg O (fun k hk x=>h k hk (dI x))
theorem Xq (h:Ap r v es q dv) (M:Ring w B r v es) (O:Chg (DO q dv) w w'):Ring w' B r v es:=M.chg O (fun k hk x=>h k x hk)
end
end Rg
namespace Ac
open Go.RowKit Af Se Kd
open Rg (It Ent Ring RO DRing DO its addL addE addN Num Ci prB)
structure Sa (w:World) (B r:Nat) (v:Value) (es:List Ent) (q:Nat) (dv:Value) (l l2:List It):Prop where
 c:Ring w B r v es
 d:DRing w B q dv l2
 e:its es=l
 z:Cz es 0
 ap:Rg.Ap r v es q dv
section
variable {w w':World} {B r q:Nat} {v dv:Value} {es:List Ent} {l l2:List It} {k:Nat->UInt8}
theorem Sa.below (h:Sa w B r v es q dv l l2) (M:Below w.heap.size w w'):Sa w' B r v es q dv l l2:=⟨h.c.below M,h.d.below M,h.e,h.z,h.ap⟩
theorem IU:pSv.1.length<=1000000000/\pSv.2.length<=1000000000:=by decide
theorem UJ:prB pSv=true:=by decide +kernel
theorem UK {cK:Array Value} (h:Sa w B r v es q dv l l2) (hB:B<=w.heap.size) (hl:l.length<10) (hn:Num l) (eK:cK=AQ k):Calls Tryz.prog 12 #[.pointer (some ⟨r,0,none⟩),Kd.prV pSv,.agg cK] w fun e w'=>
  (∃n:Int,e=.returned (.tuple #[.int .i64 n,.int .i64 0]))/\∃v' es',Sa w' B r v' es' q dv (l++[⟨pSv,Ci l pSv+1,k⟩]) l2/\Below B w w':=by
 subst eK;have hlen:es.length=l.length:=by have:=congrArg List.length h.e;rwa [Rg.Dq] at this
 have he:addE l pSv=0:=by rw[addE,if_pos UJ,if_pos (by omega)]
 have hL:addL l pSv k=l++[⟨pSv,Ci l pSv+1,k⟩]:=by rw[addL,if_pos UJ,if_pos (by omega)]
 refine(Rg.aI B r v es pSv k w h.c hB IU.1 IU.2 (by omega) (by rw[h.e];exact hn)).mono ?_;rintro e w' ⟨rfl,v',es',h1,h2,h3,O,h5⟩;rw[h.e,he];refine⟨⟨_,rfl⟩,v',es',⟨h1,Rg.aW h.ap h.d O,by rw[h2,h.e,hL],?_,Rg.aV h.ap h.d h5⟩,O.below hB (fun k _ x=>h.c.own_lo (Rg.dI x))⟩;rcases h3 with rfl | ⟨x,rfl,z1,z2,z3⟩
 ·exact h.z
 ·intro M Z he
  by_cases g:M<es.length
  ·rw[List.getElem?_append_left g] at he
   exact h.z M Z he
  ·rw[List.getElem?_append_right (by omega)] at he
   have:Z=x:=by
    rcases hk:M - es.length with _ | k
    ·rw[hk] at he;injection he with he;exact he.symm
    ·rw[hk] at he;simp at he
   subst this;omega
theorem YH {cK:Array Value} (h:Sa w B r v es q dv l l2) (hB:B<=w.heap.size) (hl:l2.length<10) (hn:Ci l2 pSv<10) (eK:cK=AQ k):Calls Tryz.prog 13 #[.pointer (some ⟨q,0,none⟩),Kd.prV pSv,.agg cK] w fun e w'=>
  (∃n:Int,e=.returned (.tuple #[.int .i64 n,.int .i64 0]))/\∃dv',Sa w' B r v es q dv' l (l2++[⟨pSv,Ci l2 pSv+1,k⟩])/\Below B w w':=by
 subst eK;refine(Rg.aL B q dv _ pSv k w h.d hB IU.1 IU.2 UJ (by omega) (by omega)).mono ?_;rintro e w' ⟨rfl,dv',Z,M,O⟩;exact⟨⟨_,rfl⟩,dv',⟨Rg.Xq h.ap h.c M,Z,h.e,h.z,Rg.dR h.ap h.c O⟩,M.below hB (fun k _ x=>h.d.own_lo x)⟩
theorem num_0:Num ([]:List It):=by intro j i h;simp at h
theorem num_1:Num [⟨pSv,1,k⟩]:=by
 intro j i h
 match j,h with
 |0,h=>injection h with h;subst h;rfl
theorem dS:Ci [] pSv=0:=rfl
theorem YI:Ci [⟨pSv,1,k⟩] pSv=1:=by
 unfold Ci Rg.Gd Rg.BV;simp [Rg.numO]
end
end Ac
namespace Kd
open Go.RowKit Af Se
open Rg (It Ent Ring RO its)
def KSO (p:KP) (es:List Ent) (s:Option Ss) (j:Nat):Prop:=KO p es j\/SO s j
section
variable {w0 w w':World} {B:Nat} {p:KP} {es0 es es':List Ent} {s0 s s':Option Ss} {n i c n' i' c':Nat}
def Out (w0:World) (p:KP) (es:List Ent) (s:Option Ss) (j:Nat):Prop:=j<w0.heap.size\/KSO p es s j
end
open SeL (Cw BM Ns)
def oI:Option Nm.L->Int
 |none=>1
 |some _=>0
theorem UL {w w':World} {o:Option Nm.L} {e:Ending} (h:Ms.EncR w o e w'):∃v,e=.returned (.tuple #[v,.int .i64 (oI o)])/\SlN (fun j=>j<w.heap.size) w' v (o.getD [])/\Below w.heap.size w w':=by
 obtain⟨⟨v,i,rfl,h1,h2⟩,Z⟩:=h;cases o with
 |none=>
  obtain⟨rfl,rfl⟩:=h1 rfl;exact⟨_,rfl,⟨none,0,rfl,Nat.le_refl _,.inl rfl⟩,Z⟩
 |some l=>
  obtain⟨rfl,g,c,rfl,h3,h4,O⟩:=h2 l rfl;refine⟨_,rfl,⟨_,c,rfl,h4,?_⟩,Z⟩;rcases O with O | ⟨b,o,M,h7,h8⟩
  ·exact .inl O
  ·injection M with M
   injection M with e1 e2 _;subst e1 e2;exact .inr ⟨_,_,rfl,h7,by omega,h8⟩
section
variable {w w':World} {B:Nat} {p:KP} {es:List Ent} {s:Option Ss} {n i c:Nat}
end
end Kd
namespace Mc
open Go.RowKit Af DerP Ms
theorem AW (p:Pr) (w:World) (O:p.1.length<=1000000000) (M:p.2.length<=1000000000):Calls Tryz.prog 25 #[prV p] w fun e w'=>e=.returned (.bool (prB p))/\Below w.heap.size w w':=Nm.AW p.1 p.2 w O M
theorem Ep (n a b:Int) (w:World):Calls Tryz.prog 211 #[.int .i64 n,.int .i64 a,.int .i64 b] w fun e w'=>e=.returned (.bool (inB n a b))/\w=w':=by
 cases h1:decide (a<=n) with
 |false=>
  go_enter Tryz.func211,Tryz.ntmps211
  go_wp2
  go_ret;exact⟨by rw[inB,h1];rfl,rfl⟩
 |true=>
  go_enter Tryz.func211,Tryz.ntmps211
  go_wp2
  go_ret;exact⟨by rw[inB,h1];rfl,rfl⟩
theorem Hk (n:Int) (w:World):Calls Tryz.prog 207 #[.int .i64 n] w fun e w'=>e=.returned (.bool (tmB n))/\w=w':=by
 have c1:=Ep n 0 1073741824 w;rw[show inB n 0 1073741824=tmB n from rfl] at c1;go_enter Tryz.func207,Tryz.ntmps207
 go_wp2_with (go_at_call 211;refine Aj c1 ?_;rintro w1 rfl)
 go_ret;exact⟨rfl,rfl⟩
theorem Hl (n:Int) (w:World):Calls Tryz.prog 208 #[.int .i64 n] w fun e w'=>e=.returned (.bool (tmB n))/\w=w':=by
 have c1:=Ep n 0 1073741824 w;rw[show inB n 0 1073741824=tmB n from rfl] at c1;go_enter Tryz.func208,Tryz.ntmps208
 go_wp2_with (go_at_call 211;refine Aj c1 ?_;rintro w1 rfl)
 go_ret;exact⟨rfl,rfl⟩
theorem Gc (b:L) (A:Option Addr) (c:Nat) (w:World):Calls Tryz.prog 210 #[.slice A b.length c] w fun e w'=>e=.returned (.bool (BR b))/\w=w':=by
 have c1:=Ep (b.length:Int) 1 800 w;rw[Ui] at c1;go_enter Tryz.func210,Tryz.ntmps210
 go_wp2_with (go_at_call 211;refine Aj c1 ?_;rintro w1 rfl)
 go_ret;exact⟨rfl,rfl⟩
theorem FK (t:Tk) (A:Option Addr) (c:Nat) (w:World) (hs:pSm t.s):Calls Tryz.prog 209 #[.agg #[.string ⟨t.s.1.toArray⟩,.string ⟨t.s.2.toArray⟩,.int .i64 t.k,.slice A t.b.length c]] w fun e w'=>e=.returned (.bool (tkB t))/\Below w.heap.size w w':=by
 have av:=(Below.refl w.heap.size w).alloc Ag (.cells #[.string ⟨t.s.1.toArray⟩,.string ⟨t.s.2.toArray⟩,.int .i64 t.k,.slice A t.b.length c] 74);have Z:=I av;have M:=I (Blk.new w 74 #[.string ⟨t.s.1.toArray⟩,.string ⟨t.s.2.toArray⟩,.int .i64 t.k,.slice A t.b.length c]);clear av;have T1:=I (fun w1=>AW t.s w1 hs.1 hs.2);have T2:=I (fun w1=>Ep t.k 1 255 w1);have T3:=I (fun w1=>Gc t.b A c w1);cases h1:prB t.s with
 |false=>
  rw[h1] at T1;have E:=I (show tkB t=false by rw[tkB,h1];rfl);clear h1;go_enter Tryz.func209,Tryz.ntmps209
  go_wp2_with (go_at_call 25;(with_reducible refine Calls.mono (T1.o _) ?_);rintro e w1 ⟨rfl,O⟩;replace M:=I (M.o.below O);replace Z:=Z.t O;clear O T1;(try clear k0 k1 k2 k3);have k0:=M.o.cell 0;have k1:=M.o.cell 1;have k2:=M.o.cell 2;have k3:=M.o.cell 3;simp only[List.getElem?_toArray,List.getElem?_cons_zero,List.getElem?_cons_succ] at k0 k1 k2 k3)
  go_ret;exact⟨by rw[E.o];rfl,Z.o⟩
 |true=>
  rw[h1] at T1;cases h2:inB t.k 1 255 with
  |false=>
   rw[h2] at T2;have E:=I (show tkB t=false by rw[tkB,h1,h2];rfl);clear h1 h2;go_enter Tryz.func209,Tryz.ntmps209
   go_wp2_with (first
    |(go_at_call 25;(with_reducible refine Calls.mono (T1.o _) ?_);rintro e w1 ⟨rfl,O⟩;replace M:=I (M.o.below O);replace Z:=Z.t O;clear O T1;(try clear k0 k1 k2 k3);have k0:=M.o.cell 0;have k1:=M.o.cell 1;have k2:=M.o.cell 2;have k3:=M.o.cell 3;simp only[List.getElem?_toArray,List.getElem?_cons_zero,List.getElem?_cons_succ] at k0 k1 k2 k3)
    |(go_at_call 211;(with_reducible refine Calls.mono (T2.o _) ?_);rintro e w2 ⟨rfl,hw⟩;subst hw;clear T2))
   go_ret;exact⟨by rw[E.o];rfl,Z.o⟩
  |true=>
   rw[h2] at T2;have E:=I (show tkB t=BR t.b by rw[tkB,h1,h2];rfl);clear h1 h2;go_enter Tryz.func209,Tryz.ntmps209
   go_wp2_with (first
    |(go_at_call 25;(with_reducible refine Calls.mono (T1.o _) ?_);rintro e w1 ⟨rfl,O⟩;replace M:=I (M.o.below O);replace Z:=Z.t O;clear O T1;(try clear k0 k1 k2 k3);have k0:=M.o.cell 0;have k1:=M.o.cell 1;have k2:=M.o.cell 2;have k3:=M.o.cell 3;simp only[List.getElem?_toArray,List.getElem?_cons_zero,List.getElem?_cons_succ] at k0 k1 k2 k3)
    |(go_at_call 211;(with_reducible refine Calls.mono (T2.o _) ?_);rintro e w2 ⟨rfl,hw⟩;subst hw;clear T2)
    |(go_at_call 210;(with_reducible refine Calls.mono (T3.o _) ?_);rintro e w3 ⟨rfl,hw⟩;subst hw;clear T3))
   go_ret;exact⟨by rw[E.o];rfl,Z.o⟩
theorem OK (a:An) (w:World) (hs:pSm a.c):Calls Tryz.prog 177 #[.agg #[.string ⟨a.c.1.toArray⟩,.string ⟨a.c.2.toArray⟩,.int .i64 a.t,.int .i64 a.q]] w fun e w'=>e=.returned (.bool (anB a))/\Below w.heap.size w w':=by
 have av:=(Below.refl w.heap.size w).alloc Ag (.cells #[.string ⟨a.c.1.toArray⟩,.string ⟨a.c.2.toArray⟩,.int .i64 a.t,.int .i64 a.q] 35);have Z:=I av;have M:=I (Blk.new w 35 #[.string ⟨a.c.1.toArray⟩,.string ⟨a.c.2.toArray⟩,.int .i64 a.t,.int .i64 a.q]);clear av;have T1:=I (fun w1=>AW a.c w1 hs.1 hs.2);have T2:=I (fun w1=>Hk a.t w1);have T3:=I (fun w1=>Hl a.q w1);cases h1:prB a.c with
 |false=>
  rw[h1] at T1;have E:=I (show anB a=false by rw[anB,h1];rfl);clear h1;go_enter Tryz.func177,Tryz.ntmps177
  go_wp2_with (go_at_call 25;(with_reducible refine Calls.mono (T1.o _) ?_);rintro e w1 ⟨rfl,O⟩;replace M:=I (M.o.below O);replace Z:=Z.t O;clear O T1;(try clear k0 k1 k2 k3);have k0:=M.o.cell 0;have k1:=M.o.cell 1;have k2:=M.o.cell 2;have k3:=M.o.cell 3;simp only[List.getElem?_toArray,List.getElem?_cons_zero,List.getElem?_cons_succ] at k0 k1 k2 k3)
  go_ret;exact⟨by rw[E.o];rfl,Z.o⟩
 |true=>
  rw[h1] at T1;cases h2:tmB a.t with
  |false=>
   rw[h2] at T2;have E:=I (show anB a=false by rw[anB,h1,h2];rfl);clear h1 h2;go_enter Tryz.func177,Tryz.ntmps177
   go_wp2_with (first
    |(go_at_call 25;(with_reducible refine Calls.mono (T1.o _) ?_);rintro e w1 ⟨rfl,O⟩;replace M:=I (M.o.below O);replace Z:=Z.t O;clear O T1;(try clear k0 k1 k2 k3);have k0:=M.o.cell 0;have k1:=M.o.cell 1;have k2:=M.o.cell 2;have k3:=M.o.cell 3;simp only[List.getElem?_toArray,List.getElem?_cons_zero,List.getElem?_cons_succ] at k0 k1 k2 k3)
    |(go_at_call 207;(with_reducible refine Calls.mono (T2.o _) ?_);rintro e w2 ⟨rfl,hw⟩;subst hw;clear T2))
   go_ret;exact⟨by rw[E.o];rfl,Z.o⟩
  |true=>
   rw[h2] at T2;have E:=I (show anB a=tmB a.q by rw[anB,h1,h2];rfl);clear h1 h2;go_enter Tryz.func177,Tryz.ntmps177
   go_wp2_with (first
    |(go_at_call 25;(with_reducible refine Calls.mono (T1.o _) ?_);rintro e w1 ⟨rfl,O⟩;replace M:=I (M.o.below O);replace Z:=Z.t O;clear O T1;(try clear k0 k1 k2 k3);have k0:=M.o.cell 0;have k1:=M.o.cell 1;have k2:=M.o.cell 2;have k3:=M.o.cell 3;simp only[List.getElem?_toArray,List.getElem?_cons_zero,List.getElem?_cons_succ] at k0 k1 k2 k3)
    |(go_at_call 207;(with_reducible refine Calls.mono (T2.o _) ?_);rintro e w2 ⟨rfl,hw⟩;subst hw;clear T2)
    |(go_at_call 208;(with_reducible refine Calls.mono (T3.o _) ?_);rintro e w3 ⟨rfl,hw⟩;subst hw;clear T3))
   go_ret;exact⟨by rw[E.o];rfl,Z.o⟩
theorem Xr (q:As) (w:World) (hs:pSm q.c) (aw:pSm q.s):Calls Tryz.prog 159 #[.agg #[.string ⟨q.c.1.toArray⟩,.string ⟨q.c.2.toArray⟩,.string ⟨q.s.1.toArray⟩,.string ⟨q.s.2.toArray⟩,.int .i64 q.t,.int .i64 q.no]] w fun e w'=>e=.returned (.bool (asB q))/\Below w.heap.size w w':=by
 have av:=(Below.refl w.heap.size w).alloc Ag (.cells #[.string ⟨q.c.1.toArray⟩,.string ⟨q.c.2.toArray⟩,.string ⟨q.s.1.toArray⟩,.string ⟨q.s.2.toArray⟩,.int .i64 q.t,.int .i64 q.no] 78);have HB:=I av;have M:=I (Blk.new w 78 #[.string ⟨q.c.1.toArray⟩,.string ⟨q.c.2.toArray⟩,.string ⟨q.s.1.toArray⟩,.string ⟨q.s.2.toArray⟩,.int .i64 q.t,.int .i64 q.no]);clear av;have T1:=I (fun w1=>AW q.c w1 hs.1 hs.2);have T2:=I (fun w1=>AW q.s w1 aw.1 aw.2);have T3:=I (fun w1=>Hk q.t w1);have T4:=I (fun w1=>Hl q.no w1);cases h1:prB q.c with
 |false=>
  rw[h1] at T1;have E:=I (show asB q=false by rw[asB,h1];rfl);clear h1;go_enter Tryz.func159,Tryz.ntmps159
  go_wp2_with (go_at_call 25;(with_reducible refine Calls.mono (T1.o _) ?_);rintro e w1 ⟨rfl,O⟩;replace M:=I (M.o.below O);replace HB:=HB.t O;clear O T1;(try clear k0 k1 k2 k3 Z k5);have k0:=M.o.cell 0;have k1:=M.o.cell 1;have k2:=M.o.cell 2;have k3:=M.o.cell 3;have Z:=M.o.cell 4;have k5:=M.o.cell 5;simp only[List.getElem?_toArray,List.getElem?_cons_zero,List.getElem?_cons_succ] at k0 k1 k2 k3 Z k5)
  go_ret;exact⟨by rw[E.o];rfl,HB.o⟩
 |true=>
  rw[h1] at T1;cases h2:prB q.s with
  |false=>
   rw[h2] at T2;have E:=I (show asB q=false by rw[asB,h1,h2];rfl);clear h1 h2;go_enter Tryz.func159,Tryz.ntmps159
   go_wp2_with (first
    |(go_at_call 25;(with_reducible refine Calls.mono (T1.o _) ?_);rintro e w1 ⟨rfl,O⟩;replace M:=I (M.o.below O);replace HB:=HB.t O;clear O T1;(try clear k0 k1 k2 k3 Z k5);have k0:=M.o.cell 0;have k1:=M.o.cell 1;have k2:=M.o.cell 2;have k3:=M.o.cell 3;have Z:=M.o.cell 4;have k5:=M.o.cell 5;simp only[List.getElem?_toArray,List.getElem?_cons_zero,List.getElem?_cons_succ] at k0 k1 k2 k3 Z k5)
    |(go_at_call 25;(with_reducible refine Calls.mono (T2.o _) ?_);rintro e w2 ⟨rfl,O⟩;replace M:=I (M.o.below O);replace HB:=HB.t O;clear O T2;(try clear k0 k1 k2 k3 Z k5);have k0:=M.o.cell 0;have k1:=M.o.cell 1;have k2:=M.o.cell 2;have k3:=M.o.cell 3;have Z:=M.o.cell 4;have k5:=M.o.cell 5;simp only[List.getElem?_toArray,List.getElem?_cons_zero,List.getElem?_cons_succ] at k0 k1 k2 k3 Z k5))
   go_ret;exact⟨by rw[E.o];rfl,HB.o⟩
  |true=>
   rw[h2] at T2;cases h3:tmB q.t with
   |false=>
    rw[h3] at T3;have E:=I (show asB q=false by rw[asB,h1,h2,h3];rfl);clear h1 h2 h3;go_enter Tryz.func159,Tryz.ntmps159
    go_wp2_with (first
     |(go_at_call 25;(with_reducible refine Calls.mono (T1.o _) ?_);rintro e w1 ⟨rfl,O⟩;replace M:=I (M.o.below O);replace HB:=HB.t O;clear O T1;(try clear k0 k1 k2 k3 Z k5);have k0:=M.o.cell 0;have k1:=M.o.cell 1;have k2:=M.o.cell 2;have k3:=M.o.cell 3;have Z:=M.o.cell 4;have k5:=M.o.cell 5;simp only[List.getElem?_toArray,List.getElem?_cons_zero,List.getElem?_cons_succ] at k0 k1 k2 k3 Z k5)
     |(go_at_call 25;(with_reducible refine Calls.mono (T2.o _) ?_);rintro e w2 ⟨rfl,O⟩;replace M:=I (M.o.below O);replace HB:=HB.t O;clear O T2;(try clear k0 k1 k2 k3 Z k5);have k0:=M.o.cell 0;have k1:=M.o.cell 1;have k2:=M.o.cell 2;have k3:=M.o.cell 3;have Z:=M.o.cell 4;have k5:=M.o.cell 5;simp only[List.getElem?_toArray,List.getElem?_cons_zero,List.getElem?_cons_succ] at k0 k1 k2 k3 Z k5)
     |(go_at_call 207;(with_reducible refine Calls.mono (T3.o _) ?_);rintro e w3 ⟨rfl,hw⟩;subst hw;clear T3))
    go_ret;exact⟨by rw[E.o];rfl,HB.o⟩
   |true=>
    rw[h3] at T3;have E:=I (show asB q=tmB q.no by rw[asB,h1,h2,h3];rfl);clear h1 h2 h3;go_enter Tryz.func159,Tryz.ntmps159
    go_wp2_with (first
     |(go_at_call 25;(with_reducible refine Calls.mono (T1.o _) ?_);rintro e w1 ⟨rfl,O⟩;replace M:=I (M.o.below O);replace HB:=HB.t O;clear O T1;(try clear k0 k1 k2 k3 Z k5);have k0:=M.o.cell 0;have k1:=M.o.cell 1;have k2:=M.o.cell 2;have k3:=M.o.cell 3;have Z:=M.o.cell 4;have k5:=M.o.cell 5;simp only[List.getElem?_toArray,List.getElem?_cons_zero,List.getElem?_cons_succ] at k0 k1 k2 k3 Z k5)
     |(go_at_call 25;(with_reducible refine Calls.mono (T2.o _) ?_);rintro e w2 ⟨rfl,O⟩;replace M:=I (M.o.below O);replace HB:=HB.t O;clear O T2;(try clear k0 k1 k2 k3 Z k5);have k0:=M.o.cell 0;have k1:=M.o.cell 1;have k2:=M.o.cell 2;have k3:=M.o.cell 3;have Z:=M.o.cell 4;have k5:=M.o.cell 5;simp only[List.getElem?_toArray,List.getElem?_cons_zero,List.getElem?_cons_succ] at k0 k1 k2 k3 Z k5)
     |(go_at_call 207;(with_reducible refine Calls.mono (T3.o _) ?_);rintro e w3 ⟨rfl,hw⟩;subst hw;clear T3)
     |(go_at_call 208;(with_reducible refine Calls.mono (T4.o _) ?_);rintro e w4 ⟨rfl,hw⟩;subst hw;clear T4))
    go_ret;exact⟨by rw[E.o];rfl,HB.o⟩
theorem UM (q:Tg) (A1 A2:Option Addr) (c1 c2:Nat) (w:World) (hs:pSm q.t.s) (aw:pSm q.s):Calls Tryz.prog 160 #[.agg #[.string ⟨q.t.s.1.toArray⟩,.string ⟨q.t.s.2.toArray⟩,.int .i64 q.t.k,.slice A1 q.t.b.length c1,.slice A2 q.a.length c2,.string ⟨q.s.1.toArray⟩,.string ⟨q.s.2.toArray⟩,.int .i64 q.u,.int .i64 q.no]] w fun e w'=>e=.returned (.bool (tgB q))/\Below w.heap.size w w':=by
 have av:=(Below.refl w.heap.size w).alloc Ag (.cells #[.string ⟨q.t.s.1.toArray⟩,.string ⟨q.t.s.2.toArray⟩,.int .i64 q.t.k,.slice A1 q.t.b.length c1,.slice A2 q.a.length c2,.string ⟨q.s.1.toArray⟩,.string ⟨q.s.2.toArray⟩,.int .i64 q.u,.int .i64 q.no] 80);have HB:=I av;have M:=I (Blk.new w 80 #[.string ⟨q.t.s.1.toArray⟩,.string ⟨q.t.s.2.toArray⟩,.int .i64 q.t.k,.slice A1 q.t.b.length c1,.slice A2 q.a.length c2,.string ⟨q.s.1.toArray⟩,.string ⟨q.s.2.toArray⟩,.int .i64 q.u,.int .i64 q.no]);clear av;have T1:=I (fun w1=>FK q.t A1 c1 w1 hs);have T2:=I (fun w1=>Gc q.a A2 c2 w1);have T3:=I (fun w1=>AW q.s w1 aw.1 aw.2);have T4:=I (fun w1=>Hk q.u w1);have T5:=I (fun w1=>Hl q.no w1);cases h1:tkB q.t with
 |false=>
  rw[h1] at T1;have E:=I (show tgB q=false by rw[tgB,h1];rfl);clear h1;go_enter Tryz.func160,Tryz.ntmps160
  go_wp2_with (go_at_call 209;(with_reducible refine Calls.mono (T1.o _) ?_);rintro e w1 ⟨rfl,O⟩;replace M:=I (M.o.below O);replace HB:=HB.t O;clear O T1;(try clear k0 k1 k2 k3 k4 k5 k6 k7 Z);have k0:=M.o.cell 0;have k1:=M.o.cell 1;have k2:=M.o.cell 2;have k3:=M.o.cell 3;have k4:=M.o.cell 4;have k5:=M.o.cell 5;have k6:=M.o.cell 6;have k7:=M.o.cell 7;have Z:=M.o.cell 8;simp only[List.getElem?_toArray,List.getElem?_cons_zero,List.getElem?_cons_succ] at k0 k1 k2 k3 k4 k5 k6 k7 Z)
  go_ret;exact⟨by rw[E.o];rfl,HB.o⟩
 |true=>
  rw[h1] at T1;cases h2:BR q.a with
  |false=>
   rw[h2] at T2;have E:=I (show tgB q=false by rw[tgB,h1,h2];rfl);clear h1 h2;go_enter Tryz.func160,Tryz.ntmps160
   go_wp2_with (first
    |(go_at_call 209;(with_reducible refine Calls.mono (T1.o _) ?_);rintro e w1 ⟨rfl,O⟩;replace M:=I (M.o.below O);replace HB:=HB.t O;clear O T1;(try clear k0 k1 k2 k3 k4 k5 k6 k7 Z);have k0:=M.o.cell 0;have k1:=M.o.cell 1;have k2:=M.o.cell 2;have k3:=M.o.cell 3;have k4:=M.o.cell 4;have k5:=M.o.cell 5;have k6:=M.o.cell 6;have k7:=M.o.cell 7;have Z:=M.o.cell 8;simp only[List.getElem?_toArray,List.getElem?_cons_zero,List.getElem?_cons_succ] at k0 k1 k2 k3 k4 k5 k6 k7 Z)
    |(go_at_call 210;(with_reducible refine Calls.mono (T2.o _) ?_);rintro e w2 ⟨rfl,hw⟩;subst hw;clear T2))
   go_ret;exact⟨by rw[E.o];rfl,HB.o⟩
  |true=>
   rw[h2] at T2;cases h3:prB q.s with
   |false=>
    rw[h3] at T3;have E:=I (show tgB q=false by rw[tgB,h1,h2,h3];rfl);clear h1 h2 h3;go_enter Tryz.func160,Tryz.ntmps160
    go_wp2_with (first
     |(go_at_call 209;(with_reducible refine Calls.mono (T1.o _) ?_);rintro e w1 ⟨rfl,O⟩;replace M:=I (M.o.below O);replace HB:=HB.t O;clear O T1;(try clear k0 k1 k2 k3 k4 k5 k6 k7 Z);have k0:=M.o.cell 0;have k1:=M.o.cell 1;have k2:=M.o.cell 2;have k3:=M.o.cell 3;have k4:=M.o.cell 4;have k5:=M.o.cell 5;have k6:=M.o.cell 6;have k7:=M.o.cell 7;have Z:=M.o.cell 8;simp only[List.getElem?_toArray,List.getElem?_cons_zero,List.getElem?_cons_succ] at k0 k1 k2 k3 k4 k5 k6 k7 Z)
     |(go_at_call 210;(with_reducible refine Calls.mono (T2.o _) ?_);rintro e w2 ⟨rfl,hw⟩;subst hw;clear T2)
     |(go_at_call 25;(with_reducible refine Calls.mono (T3.o _) ?_);rintro e w3 ⟨rfl,O⟩;replace M:=I (M.o.below O);replace HB:=HB.t O;clear O T3;(try clear k0 k1 k2 k3 k4 k5 k6 k7 Z);have k0:=M.o.cell 0;have k1:=M.o.cell 1;have k2:=M.o.cell 2;have k3:=M.o.cell 3;have k4:=M.o.cell 4;have k5:=M.o.cell 5;have k6:=M.o.cell 6;have k7:=M.o.cell 7;have Z:=M.o.cell 8;simp only[List.getElem?_toArray,List.getElem?_cons_zero,List.getElem?_cons_succ] at k0 k1 k2 k3 k4 k5 k6 k7 Z))
    go_ret;exact⟨by rw[E.o];rfl,HB.o⟩
   |true=>
    rw[h3] at T3;cases h4:tmB q.u with
    |false=>
     rw[h4] at T4;have E:=I (show tgB q=false by rw[tgB,h1,h2,h3,h4];rfl);clear h1 h2 h3 h4;go_enter Tryz.func160,Tryz.ntmps160
     go_wp2_with (first
      |(go_at_call 209;(with_reducible refine Calls.mono (T1.o _) ?_);rintro e w1 ⟨rfl,O⟩;replace M:=I (M.o.below O);replace HB:=HB.t O;clear O T1;(try clear k0 k1 k2 k3 k4 k5 k6 k7 Z);have k0:=M.o.cell 0;have k1:=M.o.cell 1;have k2:=M.o.cell 2;have k3:=M.o.cell 3;have k4:=M.o.cell 4;have k5:=M.o.cell 5;have k6:=M.o.cell 6;have k7:=M.o.cell 7;have Z:=M.o.cell 8;simp only[List.getElem?_toArray,List.getElem?_cons_zero,List.getElem?_cons_succ] at k0 k1 k2 k3 k4 k5 k6 k7 Z)
      |(go_at_call 210;(with_reducible refine Calls.mono (T2.o _) ?_);rintro e w2 ⟨rfl,hw⟩;subst hw;clear T2)
      |(go_at_call 25;(with_reducible refine Calls.mono (T3.o _) ?_);rintro e w3 ⟨rfl,O⟩;replace M:=I (M.o.below O);replace HB:=HB.t O;clear O T3;(try clear k0 k1 k2 k3 k4 k5 k6 k7 Z);have k0:=M.o.cell 0;have k1:=M.o.cell 1;have k2:=M.o.cell 2;have k3:=M.o.cell 3;have k4:=M.o.cell 4;have k5:=M.o.cell 5;have k6:=M.o.cell 6;have k7:=M.o.cell 7;have Z:=M.o.cell 8;simp only[List.getElem?_toArray,List.getElem?_cons_zero,List.getElem?_cons_succ] at k0 k1 k2 k3 k4 k5 k6 k7 Z)
      |(go_at_call 207;(with_reducible refine Calls.mono (T4.o _) ?_);rintro e w4 ⟨rfl,hw⟩;subst hw;clear T4))
     go_ret;exact⟨by rw[E.o];rfl,HB.o⟩
    |true=>
     rw[h4] at T4;have E:=I (show tgB q=tmB q.no by rw[tgB,h1,h2,h3,h4];rfl);clear h1 h2 h3 h4;go_enter Tryz.func160,Tryz.ntmps160
     go_wp2_with (first
      |(go_at_call 209;(with_reducible refine Calls.mono (T1.o _) ?_);rintro e w1 ⟨rfl,O⟩;replace M:=I (M.o.below O);replace HB:=HB.t O;clear O T1;(try clear k0 k1 k2 k3 k4 k5 k6 k7 Z);have k0:=M.o.cell 0;have k1:=M.o.cell 1;have k2:=M.o.cell 2;have k3:=M.o.cell 3;have k4:=M.o.cell 4;have k5:=M.o.cell 5;have k6:=M.o.cell 6;have k7:=M.o.cell 7;have Z:=M.o.cell 8;simp only[List.getElem?_toArray,List.getElem?_cons_zero,List.getElem?_cons_succ] at k0 k1 k2 k3 k4 k5 k6 k7 Z)
      |(go_at_call 210;(with_reducible refine Calls.mono (T2.o _) ?_);rintro e w2 ⟨rfl,hw⟩;subst hw;clear T2)
      |(go_at_call 25;(with_reducible refine Calls.mono (T3.o _) ?_);rintro e w3 ⟨rfl,O⟩;replace M:=I (M.o.below O);replace HB:=HB.t O;clear O T3;(try clear k0 k1 k2 k3 k4 k5 k6 k7 Z);have k0:=M.o.cell 0;have k1:=M.o.cell 1;have k2:=M.o.cell 2;have k3:=M.o.cell 3;have k4:=M.o.cell 4;have k5:=M.o.cell 5;have k6:=M.o.cell 6;have k7:=M.o.cell 7;have Z:=M.o.cell 8;simp only[List.getElem?_toArray,List.getElem?_cons_zero,List.getElem?_cons_succ] at k0 k1 k2 k3 k4 k5 k6 k7 Z)
      |(go_at_call 207;(with_reducible refine Calls.mono (T4.o _) ?_);rintro e w4 ⟨rfl,hw⟩;subst hw;clear T4)
      |(go_at_call 208;(with_reducible refine Calls.mono (T5.o _) ?_);rintro e w5 ⟨rfl,hw⟩;subst hw;clear T5))
     go_ret;exact⟨by rw[E.o];rfl,HB.o⟩
theorem Xs (q:Re) (A1 A2:Option Addr) (c1 c2:Nat) (w:World) (hs:pSm q.t.s) (aw:pSm q.c):Calls Tryz.prog 161 #[.agg #[.string ⟨q.c.1.toArray⟩,.string ⟨q.c.2.toArray⟩,.string ⟨q.t.s.1.toArray⟩,.string ⟨q.t.s.2.toArray⟩,.int .i64 q.t.k,.slice A1 q.t.b.length c1,.slice A2 q.b.length c2]] w fun e w'=>e=.returned (.bool (reB q))/\Below w.heap.size w w':=by
 have av:=(Below.refl w.heap.size w).alloc Ag (.cells #[.string ⟨q.c.1.toArray⟩,.string ⟨q.c.2.toArray⟩,.string ⟨q.t.s.1.toArray⟩,.string ⟨q.t.s.2.toArray⟩,.int .i64 q.t.k,.slice A1 q.t.b.length c1,.slice A2 q.b.length c2] 82);have HB:=I av;have M:=I (Blk.new w 82 #[.string ⟨q.c.1.toArray⟩,.string ⟨q.c.2.toArray⟩,.string ⟨q.t.s.1.toArray⟩,.string ⟨q.t.s.2.toArray⟩,.int .i64 q.t.k,.slice A1 q.t.b.length c1,.slice A2 q.b.length c2]);clear av;have T1:=I (fun w1=>AW q.c w1 aw.1 aw.2);have T2:=I (fun w1=>FK q.t A1 c1 w1 hs);have T3:=I (fun w1=>Gc q.b A2 c2 w1);cases h1:prB q.c with
 |false=>
  rw[h1] at T1;have E:=I (show reB q=false by rw[reB,h1];rfl);clear h1;go_enter Tryz.func161,Tryz.ntmps161
  go_wp2_with (go_at_call 25;(with_reducible refine Calls.mono (T1.o _) ?_);rintro e w1 ⟨rfl,O⟩;replace M:=I (M.o.below O);replace HB:=HB.t O;clear O T1;(try clear k0 k1 k2 k3 Z k5 k6);have k0:=M.o.cell 0;have k1:=M.o.cell 1;have k2:=M.o.cell 2;have k3:=M.o.cell 3;have Z:=M.o.cell 4;have k5:=M.o.cell 5;have k6:=M.o.cell 6;simp only[List.getElem?_toArray,List.getElem?_cons_zero,List.getElem?_cons_succ] at k0 k1 k2 k3 Z k5 k6)
  go_ret;exact⟨by rw[E.o];rfl,HB.o⟩
 |true=>
  rw[h1] at T1;cases h2:tkB q.t with
  |false=>
   rw[h2] at T2;have E:=I (show reB q=false by rw[reB,h1,h2];rfl);clear h1 h2;go_enter Tryz.func161,Tryz.ntmps161
   go_wp2_with (first
    |(go_at_call 25;(with_reducible refine Calls.mono (T1.o _) ?_);rintro e w1 ⟨rfl,O⟩;replace M:=I (M.o.below O);replace HB:=HB.t O;clear O T1;(try clear k0 k1 k2 k3 Z k5 k6);have k0:=M.o.cell 0;have k1:=M.o.cell 1;have k2:=M.o.cell 2;have k3:=M.o.cell 3;have Z:=M.o.cell 4;have k5:=M.o.cell 5;have k6:=M.o.cell 6;simp only[List.getElem?_toArray,List.getElem?_cons_zero,List.getElem?_cons_succ] at k0 k1 k2 k3 Z k5 k6)
    |(go_at_call 209;(with_reducible refine Calls.mono (T2.o _) ?_);rintro e w2 ⟨rfl,O⟩;replace M:=I (M.o.below O);replace HB:=HB.t O;clear O T2;(try clear k0 k1 k2 k3 Z k5 k6);have k0:=M.o.cell 0;have k1:=M.o.cell 1;have k2:=M.o.cell 2;have k3:=M.o.cell 3;have Z:=M.o.cell 4;have k5:=M.o.cell 5;have k6:=M.o.cell 6;simp only[List.getElem?_toArray,List.getElem?_cons_zero,List.getElem?_cons_succ] at k0 k1 k2 k3 Z k5 k6))
   go_ret;exact⟨by rw[E.o];rfl,HB.o⟩
  |true=>
   rw[h2] at T2;have E:=I (show reB q=BR q.b by rw[reB,h1,h2];rfl);clear h1 h2;go_enter Tryz.func161,Tryz.ntmps161
   go_wp2_with (first
    |(go_at_call 25;(with_reducible refine Calls.mono (T1.o _) ?_);rintro e w1 ⟨rfl,O⟩;replace M:=I (M.o.below O);replace HB:=HB.t O;clear O T1;(try clear k0 k1 k2 k3 Z k5 k6);have k0:=M.o.cell 0;have k1:=M.o.cell 1;have k2:=M.o.cell 2;have k3:=M.o.cell 3;have Z:=M.o.cell 4;have k5:=M.o.cell 5;have k6:=M.o.cell 6;simp only[List.getElem?_toArray,List.getElem?_cons_zero,List.getElem?_cons_succ] at k0 k1 k2 k3 Z k5 k6)
    |(go_at_call 209;(with_reducible refine Calls.mono (T2.o _) ?_);rintro e w2 ⟨rfl,O⟩;replace M:=I (M.o.below O);replace HB:=HB.t O;clear O T2;(try clear k0 k1 k2 k3 Z k5 k6);have k0:=M.o.cell 0;have k1:=M.o.cell 1;have k2:=M.o.cell 2;have k3:=M.o.cell 3;have Z:=M.o.cell 4;have k5:=M.o.cell 5;have k6:=M.o.cell 6;simp only[List.getElem?_toArray,List.getElem?_cons_zero,List.getElem?_cons_succ] at k0 k1 k2 k3 Z k5 k6)
    |(go_at_call 210;(with_reducible refine Calls.mono (T3.o _) ?_);rintro e w3 ⟨rfl,hw⟩;subst hw;clear T3))
   go_ret;exact⟨by rw[E.o];rfl,HB.o⟩
theorem Xt (q:Ap) (A1 A2:Option Addr) (c1 c2:Nat) (w:World) (hs:pSm q.t.s):Calls Tryz.prog 162 #[.agg #[.string ⟨q.t.s.1.toArray⟩,.string ⟨q.t.s.2.toArray⟩,.int .i64 q.t.k,.slice A1 q.t.b.length c1,.slice A2 q.a.length c2]] w fun e w'=>e=.returned (.bool (apB q))/\Below w.heap.size w w':=by
 have av:=(Below.refl w.heap.size w).alloc Ag (.cells #[.string ⟨q.t.s.1.toArray⟩,.string ⟨q.t.s.2.toArray⟩,.int .i64 q.t.k,.slice A1 q.t.b.length c1,.slice A2 q.a.length c2] 76);have HB:=I av;have M:=I (Blk.new w 76 #[.string ⟨q.t.s.1.toArray⟩,.string ⟨q.t.s.2.toArray⟩,.int .i64 q.t.k,.slice A1 q.t.b.length c1,.slice A2 q.a.length c2]);clear av;have Z:=I (fun w1=>FK q.t A1 c1 w1 hs);have T2:=I (fun w1=>Gc q.a A2 c2 w1);cases h1:tkB q.t with
 |false=>
  rw[h1] at Z;have E:=I (show apB q=false by rw[apB,h1];rfl);clear h1;go_enter Tryz.func162,Tryz.ntmps162
  go_wp2_with (go_at_call 209;(with_reducible refine Calls.mono (Z.o _) ?_);rintro e w1 ⟨rfl,O⟩;replace M:=I (M.o.below O);replace HB:=HB.t O;clear O Z;(try clear k0 k1 k2 k3 k4);have k0:=M.o.cell 0;have k1:=M.o.cell 1;have k2:=M.o.cell 2;have k3:=M.o.cell 3;have k4:=M.o.cell 4;simp only[List.getElem?_toArray,List.getElem?_cons_zero,List.getElem?_cons_succ] at k0 k1 k2 k3 k4)
  go_ret;exact⟨by rw[E.o];rfl,HB.o⟩
 |true=>
  rw[h1] at Z;have E:=I (show apB q=BR q.a by rw[apB,h1];rfl);clear h1;go_enter Tryz.func162,Tryz.ntmps162
  go_wp2_with (first
   |(go_at_call 209;(with_reducible refine Calls.mono (Z.o _) ?_);rintro e w1 ⟨rfl,O⟩;replace M:=I (M.o.below O);replace HB:=HB.t O;clear O Z;(try clear k0 k1 k2 k3 k4);have k0:=M.o.cell 0;have k1:=M.o.cell 1;have k2:=M.o.cell 2;have k3:=M.o.cell 3;have k4:=M.o.cell 4;simp only[List.getElem?_toArray,List.getElem?_cons_zero,List.getElem?_cons_succ] at k0 k1 k2 k3 k4)
   |(go_at_call 210;(with_reducible refine Calls.mono (T2.o _) ?_);rintro e w2 ⟨rfl,hw⟩;subst hw;clear T2))
  go_ret;exact⟨by rw[E.o];rfl,HB.o⟩
theorem Xu (q:Fa) (w:World):Calls Tryz.prog 163 #[.agg #[.int .i64 q.e,.int .i64 q.no]] w fun e w'=>e=.returned (.bool (faB q))/\Below w.heap.size w w':=by
 have O:=(Below.refl w.heap.size w).alloc Ag (.cells #[.int .i64 q.e,.int .i64 q.no] 84);have Z:=I O;have HK:=I (Blk.new w 84 #[.int .i64 q.e,.int .i64 q.no]);clear O;have M:=I (fun w1=>Ep q.e 1 255 w1);have T2:=I (fun w1=>Hl q.no w1);cases h1:inB q.e 1 255 with
 |false=>
  rw[h1] at M;have E:=I (show faB q=false by rw[faB,h1];rfl);clear h1;go_enter Tryz.func163,Tryz.ntmps163
  go_wp2_with (go_at_call 211;(with_reducible refine Calls.mono (M.o _) ?_);rintro e w1 ⟨rfl,hw⟩;subst hw;clear M)
  go_ret;exact⟨by rw[E.o];rfl,Z.o⟩
 |true=>
  rw[h1] at M;have E:=I (show faB q=tmB q.no by rw[faB,h1];rfl);clear h1;go_enter Tryz.func163,Tryz.ntmps163
  go_wp2_with (first
   |(go_at_call 211;(with_reducible refine Calls.mono (M.o _) ?_);rintro e w1 ⟨rfl,hw⟩;subst hw;clear M)
   |(go_at_call 208;(with_reducible refine Calls.mono (T2.o _) ?_);rintro e w2 ⟨rfl,hw⟩;subst hw;clear T2))
  go_ret;exact⟨by rw[E.o];rfl,Z.o⟩
open DerR
theorem IV (t:UInt8) (p:L):0<(elem t p).length:=by rw[EE];omega
theorem JR (l:L) (w:World) (M:l.length<=65535):Calls Tryz.prog 224 #[.string ⟨l.toArray⟩] w (BY w (elem 27 l)):=
 (DerW.EH l w M).mono fun e w' h=>by obtain⟨v,rfl,O,Z⟩:=h;exact FD O (IV _ _) Z
theorem Db (n:Int) (w:World):Calls Tryz.prog 214 #[.int .i64 n] w (BY w (encI n)):=
 (DerW.BP n w).mono fun e w' h=>by obtain⟨v,rfl,M,O⟩:=h;exact FD M (IV _ _) O
theorem DW (l:L) (A:Option Addr) (n c B:Nat) (w:World) (hr:Rd w B A (bvs l)) (hn:n=l.length) (hB:B<=w.heap.size) (M:l.length<=65535):Calls Tryz.prog 216 #[.slice A n c] w (BY w (elem 4 l)):=
 (DerW.Dl l A n c B w hr hn hB M).mono fun e w' h=>by obtain⟨v,rfl,O,Z⟩:=h;exact FD O (IV _ _) Z
theorem Dc (t:UInt8) (ls:List L) (A:Option Addr) (m c B:Nat) (w:World) (hr:DerW.Rds w B A ls) (hm:m=ls.length) (hB:B<=w.heap.size) (M:ls.flatten.length<=65535) (hc:ls.length<=1000000) :
  Calls Tryz.prog 212 #[.int .u8 t.toNat,.slice A m c] w (BY w (elem t ls.flatten)):=
 (DerW.Dv t ls A m c B w hr hm hB M hc).mono fun e w' h=>by obtain⟨v,rfl,O,Z⟩:=h;exact FD O (IV _ _) Z
theorem Cf (p:Pr) (w:World) (hp:prB p=true):Calls Tryz.prog 213 #[.agg #[.string ⟨p.1.toArray⟩,.string ⟨p.2.toArray⟩]] w (BY w (prE p)):=by
 have Z:=I ((Below.refl w.heap.size w).alloc Ag (.cells #[.string ⟨p.1.toArray⟩,.string ⟨p.2.toArray⟩] 30));have M:=I (Blk.new w 30 #[.string ⟨p.1.toArray⟩,.string ⟨p.2.toArray⟩]);have b1:=GV hp;have b2:=AE 27 p.1;have b3:=AE 27 p.2;have T1:=I (fun w1=>JR p.1 w1 (by omega));have T2:=I (fun w1=>JR p.2 w1 (by omega));have HL:=I (show [elem 27 p.1,elem 27 p.2].flatten.length<=65535 by rw[Dm];simp only[List.length_append];omega);have HE:=I (show prE p=elem 48 [elem 27 p.1,elem 27 p.2].flatten from rfl);obtain⟨l1,bq⟩:∃l,l=elem 27 p.1:=⟨_,rfl⟩;obtain⟨l2,aw⟩:∃l,l=elem 27 p.2:=⟨_,rfl⟩;rw[<-bq] at T1 HL HE;rw[<-aw] at T2 HL HE;rw[HE.o,Dm];clear HE bq aw b1 b2 b3 hp;go_enter Tryz.func213,Tryz.ntmps213
 go_wp2
 obtain⟨W,eW⟩:=Ak (w.alloc (.cells #[.string ⟨p.1.toArray⟩,.string ⟨p.2.toArray⟩] 30));rw[<-eW] at Z M⊢;clear eW;replace M:=I (show Blk W.drew _ _ _ from M.o.drewN 1);replace Z:=I (show Below _ _ W.drew from below_drewN Z.o 1)
 go_region_held3 (fun w'=>w'.cell? ⟨w.heap.size,0,none⟩=some (.string ⟨p.1.toArray⟩)/\w'.cell? ⟨w.heap.size,1,none⟩=some (.string ⟨p.2.toArray⟩)) (first | exact⟨M.o.cell 0,M.o.cell 1⟩ | exact⟨(M.o.alloc _).cell 0,(M.o.alloc _).cell 1⟩) ((first
  |(go_at_call 224;(with_reducible refine Calls.mono (T1.o _) ?_);rintro e w1 ⟨⟨g1,c1,rfl,ca,cc,bn⟩,O⟩;clear T1;have av:=I bn;replace M:=I (M.o.below O);replace Z:=Z.t O;clear O bn ca cc)
  |(go_at_call 224;(with_reducible refine Calls.mono (T2.o _) ?_);rintro e w2 ⟨⟨g2,c2,rfl,cb,cd,bs⟩,O⟩;clear T2;replace av:=I (Bh av.o O);have cf:=I bs;replace M:=I (M.o.below O);replace Z:=Z.t O;clear O bs cb cd)
  |(go_at_call 212;refine Calls.mono (Dc 48 [l1,l2] _ 2 2 (w2.heap.size+1) _ (JG av.o cf.o) rfl (by simp) HL.o (by simp)) ?_;rintro e wz ⟨⟨gz,cz,rfl,bb,bB,bx⟩,O⟩;have bz:=(Below.refl w2.heap.size w2).alloc Ag (.cells #[.slice (some ⟨g1,0,none⟩) l1.length c1,.slice (some ⟨g2,0,none⟩) l2.length c2] 22);have HG:=I (Bg (l:=elem 48 [l1,l2].flatten) ⟨⟨gz,cz,rfl,bb,bB,bx⟩,O⟩ (Z.o.trans (bz.mono Z.o.size)));rw[Dm] at HG;replace M:=I ((M.o.alloc (.cells #[.slice (some ⟨g1,0,none⟩) l1.length c1,.slice (some ⟨g2,0,none⟩) l2.length c2] 22)).below O);clear bz bb bB bx O)))
 go_wp2
 go_ret;exact HG.o
theorem Fo (t:Tk) (A:Option Addr) (c:Nat) (w:World) (ht:tkB t=true) (hr:Rd w w.heap.size A (bvs t.b)):Calls Tryz.prog 215 #[.agg #[.string ⟨t.s.1.toArray⟩,.string ⟨t.s.2.toArray⟩,.int .i64 t.k,.slice A t.b.length c]] w (BY w (tkE t)):=by
 have Z:=I ((Below.refl w.heap.size w).alloc Ag (.cells #[.string ⟨t.s.1.toArray⟩,.string ⟨t.s.2.toArray⟩,.int .i64 t.k,.slice A t.b.length c] 74));have M:=I (Blk.new w 74 #[.string ⟨t.s.1.toArray⟩,.string ⟨t.s.2.toArray⟩,.int .i64 t.k,.slice A t.b.length c]);have hp:=GW ht;have b1:=(AY hp.1).1;have b2:=AK t.k;have b3:=AE 4 t.b;have T1:=I (fun w1=>Cf t.s w1 hp.1);have T2:=I (fun w1=>Db t.k w1);have T3:=I (fun w1 (h:Below w.heap.size w w1)=>DW t.b A t.b.length c w1.heap.size w1 ((hr.below h).more h.size) rfl Ag (by omega));have HL:=I (show [prE t.s,encI t.k,elem 4 t.b].flatten.length<=65535 by rw[DS];simp only[List.length_append];omega);have HE:=I (show tkE t=elem 97 [prE t.s,encI t.k,elem 4 t.b].flatten from rfl);obtain⟨l1,bs⟩:∃l,l=prE t.s:=⟨_,rfl⟩;obtain⟨l2,bb⟩:∃l,l=encI t.k:=⟨_,rfl⟩;obtain⟨l3,bz⟩:∃l,l=elem 4 t.b:=⟨_,rfl⟩;rw[<-bs] at T1 HL HE;rw[<-bb] at T2 HL HE;rw[<-bz] at T3 HL HE;rw[HE.o,DS];clear HE bs bb bz hp b1 b2 b3 ht hr;go_enter Tryz.func215,Tryz.ntmps215
 go_wp2
 obtain⟨W,eW⟩:=Ak (w.alloc (.cells #[.string ⟨t.s.1.toArray⟩,.string ⟨t.s.2.toArray⟩,.int .i64 t.k,.slice A t.b.length c] 74));rw[<-eW] at Z M⊢;clear eW;replace M:=I (show Blk W.drew _ _ _ from M.o.drewN 1);replace Z:=I (show Below _ _ W.drew from below_drewN Z.o 1)
 go_region_held3 (fun w'=>w'.cell? ⟨w.heap.size,0,none⟩=some (.string ⟨t.s.1.toArray⟩)/\w'.cell? ⟨w.heap.size,1,none⟩=some (.string ⟨t.s.2.toArray⟩)/\w'.cell? ⟨w.heap.size,2,none⟩=some (.int .i64 t.k)/\w'.cell? ⟨w.heap.size,3,none⟩=some (.slice A t.b.length c)) (first | exact⟨M.o.cell 0,M.o.cell 1,M.o.cell 2,M.o.cell 3⟩ | exact⟨(M.o.alloc _).cell 0,(M.o.alloc _).cell 1,(M.o.alloc _).cell 2,(M.o.alloc _).cell 3⟩) ((first
  |(go_at_call 213;(with_reducible refine Calls.mono (T1.o _) ?_);rintro e w1 ⟨⟨g1,c1,rfl,cd,cg,bq⟩,O⟩;clear T1;have av:=I bq;replace M:=I (M.o.below O);replace Z:=Z.t O;clear O bq cd cg)
  |(go_at_call 214;(with_reducible refine Calls.mono (T2.o _) ?_);rintro e w2 ⟨⟨g2,c2,rfl,cf,ck,bx⟩,O⟩;clear T2;replace av:=I (Bh av.o O);have aw:=I bx;replace M:=I (M.o.below O);replace Z:=Z.t O;clear O bx cf ck)
  |(go_at_call 216;(with_reducible refine Calls.mono (T3.o _ Z.o) ?_);rintro e w3 ⟨⟨g3,c3,rfl,cm,cj,cb⟩,O⟩;clear T3;replace av:=I (Bh av.o O);replace aw:=I (Bh aw.o O);have cn:=I cb;replace M:=I (M.o.below O);replace Z:=Z.t O;clear O cb cm cj)
  |(go_at_call 212;refine Calls.mono (Dc 97 [l1,l2,l3] _ 3 3 (w3.heap.size+1) _ (FH av.o aw.o cn.o) rfl (by simp) HL.o (by simp)) ?_;rintro e wz ⟨⟨gz,cz,rfl,bn,cc,bB⟩,O⟩;have ca:=(Below.refl w3.heap.size w3).alloc Ag (.cells #[.slice (some ⟨g1,0,none⟩) l1.length c1,.slice (some ⟨g2,0,none⟩) l2.length c2,.slice (some ⟨g3,0,none⟩) l3.length c3] 22);have HG:=I (Bg (l:=elem 97 [l1,l2,l3].flatten) ⟨⟨gz,cz,rfl,bn,cc,bB⟩,O⟩ (Z.o.trans (ca.mono Z.o.size)));rw[DS] at HG;replace M:=I ((M.o.alloc (.cells #[.slice (some ⟨g1,0,none⟩) l1.length c1,.slice (some ⟨g2,0,none⟩) l2.length c2,.slice (some ⟨g3,0,none⟩) l3.length c3] 22)).below O);clear ca bn cc bB O)))
 go_wp2
 go_ret;exact HG.o
theorem Nc (a:An) (w:World) (ha:anB a=true):Calls Tryz.prog 178 #[.agg #[.string ⟨a.c.1.toArray⟩,.string ⟨a.c.2.toArray⟩,.int .i64 a.t,.int .i64 a.q]] w (BY w (anE a)):=by
 have Z:=I ((Below.refl w.heap.size w).alloc Ag (.cells #[.string ⟨a.c.1.toArray⟩,.string ⟨a.c.2.toArray⟩,.int .i64 a.t,.int .i64 a.q] 35));have M:=I (Blk.new w 35 #[.string ⟨a.c.1.toArray⟩,.string ⟨a.c.2.toArray⟩,.int .i64 a.t,.int .i64 a.q]);have hp:prB a.c=true/\tmB a.t=true/\tmB a.q=true:=by simpa [anB] using ha
 have b1:=(AY hp.1).1;have b2:=AK a.t;have b3:=AK a.q;have T1:=I (fun w1=>Cf a.c w1 hp.1);have T2:=I (fun w1=>Db a.t w1);have T3:=I (fun w1=>Db a.q w1);have HL:=I (show [prE a.c,encI a.t,encI a.q].flatten.length<=65535 by rw[DS];simp only[List.length_append];omega);have HE:=I (show anE a=elem 98 [prE a.c,encI a.t,encI a.q].flatten from rfl);obtain⟨l1,bs⟩:∃l,l=prE a.c:=⟨_,rfl⟩;obtain⟨l2,bb⟩:∃l,l=encI a.t:=⟨_,rfl⟩;obtain⟨l3,bz⟩:∃l,l=encI a.q:=⟨_,rfl⟩;rw[<-bs] at T1 HL HE;rw[<-bb] at T2 HL HE;rw[<-bz] at T3 HL HE;rw[HE.o,DS];clear HE bs bb bz hp b1 b2 b3 ha;go_enter Tryz.func178,Tryz.ntmps178
 go_wp2
 obtain⟨W,eW⟩:=Ak (w.alloc (.cells #[.string ⟨a.c.1.toArray⟩,.string ⟨a.c.2.toArray⟩,.int .i64 a.t,.int .i64 a.q] 35));rw[<-eW] at Z M⊢;clear eW;replace M:=I (show Blk W.drew _ _ _ from M.o.drewN 1);replace Z:=I (show Below _ _ W.drew from below_drewN Z.o 1)
 go_region_held3 (fun w'=>w'.cell? ⟨w.heap.size,0,none⟩=some (.string ⟨a.c.1.toArray⟩)/\w'.cell? ⟨w.heap.size,1,none⟩=some (.string ⟨a.c.2.toArray⟩)/\w'.cell? ⟨w.heap.size,2,none⟩=some (.int .i64 a.t)/\w'.cell? ⟨w.heap.size,3,none⟩=some (.int .i64 a.q)) (first | exact⟨M.o.cell 0,M.o.cell 1,M.o.cell 2,M.o.cell 3⟩ | exact⟨(M.o.alloc _).cell 0,(M.o.alloc _).cell 1,(M.o.alloc _).cell 2,(M.o.alloc _).cell 3⟩) ((first
  |(go_at_call 213;(with_reducible refine Calls.mono (T1.o _) ?_);rintro e w1 ⟨⟨g1,c1,rfl,cd,cg,bq⟩,O⟩;clear T1;have av:=I bq;replace M:=I (M.o.below O);replace Z:=Z.t O;clear O bq cd cg)
  |(go_at_call 214;(with_reducible refine Calls.mono (T2.o _) ?_);rintro e w2 ⟨⟨g2,c2,rfl,cf,ck,bx⟩,O⟩;clear T2;replace av:=I (Bh av.o O);have aw:=I bx;replace M:=I (M.o.below O);replace Z:=Z.t O;clear O bx cf ck)
  |(go_at_call 214;(with_reducible refine Calls.mono (T3.o _) ?_);rintro e w3 ⟨⟨g3,c3,rfl,cm,cj,cb⟩,O⟩;clear T3;replace av:=I (Bh av.o O);replace aw:=I (Bh aw.o O);have cn:=I cb;replace M:=I (M.o.below O);replace Z:=Z.t O;clear O cb cm cj)
  |(go_at_call 212;refine Calls.mono (Dc 98 [l1,l2,l3] _ 3 3 (w3.heap.size+1) _ (FH av.o aw.o cn.o) rfl (by simp) HL.o (by simp)) ?_;rintro e wz ⟨⟨gz,cz,rfl,bn,cc,bB⟩,O⟩;have ca:=(Below.refl w3.heap.size w3).alloc Ag (.cells #[.slice (some ⟨g1,0,none⟩) l1.length c1,.slice (some ⟨g2,0,none⟩) l2.length c2,.slice (some ⟨g3,0,none⟩) l3.length c3] 22);have HG:=I (Bg (l:=elem 98 [l1,l2,l3].flatten) ⟨⟨gz,cz,rfl,bn,cc,bB⟩,O⟩ (Z.o.trans (ca.mono Z.o.size)));rw[DS] at HG;replace M:=I ((M.o.alloc (.cells #[.slice (some ⟨g1,0,none⟩) l1.length c1,.slice (some ⟨g2,0,none⟩) l2.length c2,.slice (some ⟨g3,0,none⟩) l3.length c3] 22)).below O);clear ca bn cc bB O)))
 go_wp2
 go_ret;exact HG.o
theorem UN (q:As) (w:World) (ha:asB q=true):Calls Tryz.prog 164 #[.agg #[.string ⟨q.c.1.toArray⟩,.string ⟨q.c.2.toArray⟩,.string ⟨q.s.1.toArray⟩,.string ⟨q.s.2.toArray⟩,.int .i64 q.t,.int .i64 q.no]] w (BY w (asE q)):=by
 have HB:=I ((Below.refl w.heap.size w).alloc Ag (.cells #[.string ⟨q.c.1.toArray⟩,.string ⟨q.c.2.toArray⟩,.string ⟨q.s.1.toArray⟩,.string ⟨q.s.2.toArray⟩,.int .i64 q.t,.int .i64 q.no] 78));have M:=I (Blk.new w 78 #[.string ⟨q.c.1.toArray⟩,.string ⟨q.c.2.toArray⟩,.string ⟨q.s.1.toArray⟩,.string ⟨q.s.2.toArray⟩,.int .i64 q.t,.int .i64 q.no]);have hp:prB q.c=true/\prB q.s=true/\tmB q.t=true/\tmB q.no=true:=by simpa [asB] using ha
 have b1:=(AY hp.1).1;have b2:=(AY hp.2.1).1;have b3:=AK q.t;have b4:=AK q.no;have T1:=I (fun w1=>Cf q.c w1 hp.1);have T2:=I (fun w1=>Cf q.s w1 hp.2.1);have T3:=I (fun w1=>Db q.t w1);have T4:=I (fun w1=>Db q.no w1);have HL:=I (show [prE q.c,prE q.s,encI q.t,encI q.no].flatten.length<=65535 by rw[QD];simp only[List.length_append];omega);have HE:=I (show asE q=elem 106 [prE q.c,prE q.s,encI q.t,encI q.no].flatten from rfl);obtain⟨l1,ca⟩:∃l,l=prE q.c:=⟨_,rfl⟩;obtain⟨l2,bb⟩:∃l,l=prE q.s:=⟨_,rfl⟩;obtain⟨l3,bn⟩:∃l,l=encI q.t:=⟨_,rfl⟩;obtain⟨l4,bx⟩:∃l,l=encI q.no:=⟨_,rfl⟩;rw[<-ca] at T1 HL HE;rw[<-bb] at T2 HL HE;rw[<-bn] at T3 HL HE;rw[<-bx] at T4 HL HE;rw[HE.o,QD];clear HE ca bb bn bx hp b1 b2 b3 b4 ha;go_enter Tryz.func164,Tryz.ntmps164
 go_wp2
 obtain⟨W,eW⟩:=Ak (w.alloc (.cells #[.string ⟨q.c.1.toArray⟩,.string ⟨q.c.2.toArray⟩,.string ⟨q.s.1.toArray⟩,.string ⟨q.s.2.toArray⟩,.int .i64 q.t,.int .i64 q.no] 78));rw[<-eW] at HB M⊢;clear eW;replace M:=I (show Blk W.drew _ _ _ from M.o.drewN 1);replace HB:=I (show Below _ _ W.drew from below_drewN HB.o 1)
 go_region_held3 (fun w'=>w'.cell? ⟨w.heap.size,0,none⟩=some (.string ⟨q.c.1.toArray⟩)/\w'.cell? ⟨w.heap.size,1,none⟩=some (.string ⟨q.c.2.toArray⟩)/\w'.cell? ⟨w.heap.size,2,none⟩=some (.string ⟨q.s.1.toArray⟩)/\w'.cell? ⟨w.heap.size,3,none⟩=some (.string ⟨q.s.2.toArray⟩)/\w'.cell? ⟨w.heap.size,4,none⟩=some (.int .i64 q.t)/\w'.cell? ⟨w.heap.size,5,none⟩=some (.int .i64 q.no)) (first | exact⟨M.o.cell 0,M.o.cell 1,M.o.cell 2,M.o.cell 3,M.o.cell 4,M.o.cell 5⟩ | exact⟨(M.o.alloc _).cell 0,(M.o.alloc _).cell 1,(M.o.alloc _).cell 2,(M.o.alloc _).cell 3,(M.o.alloc _).cell 4,(M.o.alloc _).cell 5⟩) ((first
  |(go_at_call 213;(with_reducible refine Calls.mono (T1.o _) ?_);rintro e w1 ⟨⟨g1,c1,rfl,cm,cq,bB⟩,O⟩;clear T1;have Z:=I bB;replace M:=I (M.o.below O);replace HB:=HB.t O;clear O bB cm cq)
  |(go_at_call 213;(with_reducible refine Calls.mono (T2.o _) ?_);rintro e w2 ⟨⟨g2,c2,rfl,cp,cj,cb⟩,O⟩;clear T2;replace Z:=I (Bh Z.o O);have av:=I cb;replace M:=I (M.o.below O);replace HB:=HB.t O;clear O cb cp cj)
  |(go_at_call 214;(with_reducible refine Calls.mono (T3.o _) ?_);rintro e w3 ⟨⟨g3,c3,rfl,ct,cr,bs⟩,O⟩;clear T3;replace Z:=I (Bh Z.o O);replace av:=I (Bh av.o O);have aw:=I bs;replace M:=I (M.o.below O);replace HB:=HB.t O;clear O bs ct cr)
  |(go_at_call 214;(with_reducible refine Calls.mono (T4.o _) ?_);rintro e w4 ⟨⟨g4,c4,rfl,cg,ck,bq⟩,O⟩;clear T4;replace Z:=I (Bh Z.o O);replace av:=I (Bh av.o O);replace aw:=I (Bh aw.o O);have cn:=I bq;replace M:=I (M.o.below O);replace HB:=HB.t O;clear O bq cg ck)
  |(go_at_call 212;refine Calls.mono (Dc 106 [l1,l2,l3,l4] _ 4 4 (w4.heap.size+1) _ (WT Z.o av.o aw.o cn.o) rfl (by simp) HL.o (by simp)) ?_;rintro e wz ⟨⟨gz,cz,rfl,bz,cf,cc⟩,O⟩;have cd:=(Below.refl w4.heap.size w4).alloc Ag (.cells #[.slice (some ⟨g1,0,none⟩) l1.length c1,.slice (some ⟨g2,0,none⟩) l2.length c2,.slice (some ⟨g3,0,none⟩) l3.length c3,.slice (some ⟨g4,0,none⟩) l4.length c4] 22);have HG:=I (Bg (l:=elem 106 [l1,l2,l3,l4].flatten) ⟨⟨gz,cz,rfl,bz,cf,cc⟩,O⟩ (HB.o.trans (cd.mono HB.o.size)));rw[QD] at HG;replace M:=I ((M.o.alloc (.cells #[.slice (some ⟨g1,0,none⟩) l1.length c1,.slice (some ⟨g2,0,none⟩) l2.length c2,.slice (some ⟨g3,0,none⟩) l3.length c3,.slice (some ⟨g4,0,none⟩) l4.length c4] 22)).below O);clear cd bz cf cc O)))
 go_wp2
 go_ret;exact HG.o
theorem UO (q:Tg) (A1 A2:Option Addr) (c1 c2:Nat) (w:World) (ha:tgB q=true) (bb:Rd w w.heap.size A1 (bvs q.t.b)) (bn:Rd w w.heap.size A2 (bvs q.a)):Calls Tryz.prog 165 #[.agg #[.string ⟨q.t.s.1.toArray⟩,.string ⟨q.t.s.2.toArray⟩,.int .i64 q.t.k,.slice A1 q.t.b.length c1,.slice A2 q.a.length c2,.string ⟨q.s.1.toArray⟩,.string ⟨q.s.2.toArray⟩,.int .i64 q.u,.int .i64 q.no]] w (BY w (tgE q)):=by
 have HB:=I ((Below.refl w.heap.size w).alloc Ag (.cells #[.string ⟨q.t.s.1.toArray⟩,.string ⟨q.t.s.2.toArray⟩,.int .i64 q.t.k,.slice A1 q.t.b.length c1,.slice A2 q.a.length c2,.string ⟨q.s.1.toArray⟩,.string ⟨q.s.2.toArray⟩,.int .i64 q.u,.int .i64 q.no] 80));have M:=I (Blk.new w 80 #[.string ⟨q.t.s.1.toArray⟩,.string ⟨q.t.s.2.toArray⟩,.int .i64 q.t.k,.slice A1 q.t.b.length c1,.slice A2 q.a.length c2,.string ⟨q.s.1.toArray⟩,.string ⟨q.s.2.toArray⟩,.int .i64 q.u,.int .i64 q.no]);have hp:tkB q.t=true/\BR q.a=true/\prB q.s=true/\tmB q.u=true/\tmB q.no=true:=by simpa [tgB] using ha
 have b1:=(Cq hp.1).1;have b2:=AE 4 q.a;have b3:=(AY hp.2.2.1).1;have b4:=AK q.u;have b5:=AK q.no;have b6:=Bn hp.2.1;have T1:=I (fun w1 (h:Below w.heap.size w w1)=>Fo q.t A1 c1 w1 hp.1 ((bb.below h).more h.size));have T2:=I (fun w1 (h:Below w.heap.size w w1)=>DW q.a A2 q.a.length c2 w1.heap.size w1 ((bn.below h).more h.size) rfl Ag (by omega));have T3:=I (fun w1=>Cf q.s w1 hp.2.2.1);have T4:=I (fun w1=>Db q.u w1);have T5:=I (fun w1=>Db q.no w1);have HL:=I (show [tkE q.t,elem 4 q.a,prE q.s,encI q.u,encI q.no].flatten.length<=65535 by rw[Gs];simp only[List.length_append];omega);have HE:=I (show tgE q=elem 108 [tkE q.t,elem 4 q.a,prE q.s,encI q.u,encI q.no].flatten from rfl);obtain⟨l1,cf⟩:∃l,l=tkE q.t:=⟨_,rfl⟩;obtain⟨l2,bs⟩:∃l,l=elem 4 q.a:=⟨_,rfl⟩;obtain⟨l3,bz⟩:∃l,l=prE q.s:=⟨_,rfl⟩;obtain⟨l4,cb⟩:∃l,l=encI q.u:=⟨_,rfl⟩;obtain⟨l5,bx⟩:∃l,l=encI q.no:=⟨_,rfl⟩;rw[<-cf] at T1 HL HE;rw[<-bs] at T2 HL HE;rw[<-bz] at T3 HL HE;rw[<-cb] at T4 HL HE;rw[<-bx] at T5 HL HE;rw[HE.o,Gs];clear HE cf bs bz cb bx hp b1 b2 b3 b4 b5 b6 ha bb bn;go_enter Tryz.func165,Tryz.ntmps165
 go_wp2
 obtain⟨W,eW⟩:=Ak (w.alloc (.cells #[.string ⟨q.t.s.1.toArray⟩,.string ⟨q.t.s.2.toArray⟩,.int .i64 q.t.k,.slice A1 q.t.b.length c1,.slice A2 q.a.length c2,.string ⟨q.s.1.toArray⟩,.string ⟨q.s.2.toArray⟩,.int .i64 q.u,.int .i64 q.no] 80));rw[<-eW] at HB M⊢;clear eW;replace M:=I (show Blk W.drew _ _ _ from M.o.drewN 1);replace HB:=I (show Below _ _ W.drew from below_drewN HB.o 1)
 go_region_held3 (fun w'=>w'.cell? ⟨w.heap.size,0,none⟩=some (.string ⟨q.t.s.1.toArray⟩)/\w'.cell? ⟨w.heap.size,1,none⟩=some (.string ⟨q.t.s.2.toArray⟩)/\w'.cell? ⟨w.heap.size,2,none⟩=some (.int .i64 q.t.k)/\w'.cell? ⟨w.heap.size,3,none⟩=some (.slice A1 q.t.b.length c1)/\w'.cell? ⟨w.heap.size,4,none⟩=some (.slice A2 q.a.length c2)/\w'.cell? ⟨w.heap.size,5,none⟩=some (.string ⟨q.s.1.toArray⟩)/\w'.cell? ⟨w.heap.size,6,none⟩=some (.string ⟨q.s.2.toArray⟩)/\w'.cell? ⟨w.heap.size,7,none⟩=some (.int .i64 q.u)/\w'.cell? ⟨w.heap.size,8,none⟩=some (.int .i64 q.no)) (first | exact⟨M.o.cell 0,M.o.cell 1,M.o.cell 2,M.o.cell 3,M.o.cell 4,M.o.cell 5,M.o.cell 6,M.o.cell 7,M.o.cell 8⟩ | exact⟨(M.o.alloc _).cell 0,(M.o.alloc _).cell 1,(M.o.alloc _).cell 2,(M.o.alloc _).cell 3,(M.o.alloc _).cell 4,(M.o.alloc _).cell 5,(M.o.alloc _).cell 6,(M.o.alloc _).cell 7,(M.o.alloc _).cell 8⟩) ((first
  |(go_at_call 215;(with_reducible refine Calls.mono (T1.o _ HB.o) ?_);rintro e w1 ⟨⟨g1,c1,rfl,cq,cw,bb⟩,O⟩;clear T1;have Z:=I bb;replace M:=I (M.o.below O);replace HB:=HB.t O;clear O bb cq cw)
  |(go_at_call 216;(with_reducible refine Calls.mono (T2.o _ HB.o) ?_);rintro e w2 ⟨⟨g2,c2,rfl,cu,cn,bn⟩,O⟩;clear T2;replace Z:=I (Bh Z.o O);have av:=I bn;replace M:=I (M.o.below O);replace HB:=HB.t O;clear O bn cu cn)
  |(go_at_call 213;(with_reducible refine Calls.mono (T3.o _) ?_);rintro e w3 ⟨⟨g3,c3,rfl,cA,cy,ca⟩,O⟩;clear T3;replace Z:=I (Bh Z.o O);replace av:=I (Bh av.o O);have aw:=I ca;replace M:=I (M.o.below O);replace HB:=HB.t O;clear O ca cA cy)
  |(go_at_call 214;(with_reducible refine Calls.mono (T4.o _) ?_);rintro e w4 ⟨⟨g4,c4,rfl,cm,cp,bB⟩,O⟩;clear T4;replace Z:=I (Bh Z.o O);replace av:=I (Bh av.o O);replace aw:=I (Bh aw.o O);have bq:=I bB;replace M:=I (M.o.below O);replace HB:=HB.t O;clear O bB cm cp)
  |(go_at_call 214;(with_reducible refine Calls.mono (T5.o _) ?_);rintro e w5 ⟨⟨g5,c5,rfl,cx,cr,cd⟩,O⟩;clear T5;replace Z:=I (Bh Z.o O);replace av:=I (Bh av.o O);replace aw:=I (Bh aw.o O);replace bq:=I (Bh bq.o O);have ct:=I cd;replace M:=I (M.o.below O);replace HB:=HB.t O;clear O cd cx cr)
  |(go_at_call 212;refine Calls.mono (Dc 108 [l1,l2,l3,l4,l5] _ 5 5 (w5.heap.size+1) _ (Lq Z.o av.o aw.o bq.o ct.o) rfl (by simp) HL.o (by simp)) ?_;rintro e wz ⟨⟨gz,cz,rfl,cc,ck,cg⟩,O⟩;have cj:=(Below.refl w5.heap.size w5).alloc Ag (.cells #[.slice (some ⟨g1,0,none⟩) l1.length c1,.slice (some ⟨g2,0,none⟩) l2.length c2,.slice (some ⟨g3,0,none⟩) l3.length c3,.slice (some ⟨g4,0,none⟩) l4.length c4,.slice (some ⟨g5,0,none⟩) l5.length c5] 22);have HG:=I (Bg (l:=elem 108 [l1,l2,l3,l4,l5].flatten) ⟨⟨gz,cz,rfl,cc,ck,cg⟩,O⟩ (HB.o.trans (cj.mono HB.o.size)));rw[Gs] at HG;replace M:=I ((M.o.alloc (.cells #[.slice (some ⟨g1,0,none⟩) l1.length c1,.slice (some ⟨g2,0,none⟩) l2.length c2,.slice (some ⟨g3,0,none⟩) l3.length c3,.slice (some ⟨g4,0,none⟩) l4.length c4,.slice (some ⟨g5,0,none⟩) l5.length c5] 22)).below O);clear cj cc ck cg O)))
 go_wp2
 go_ret;exact HG.o
theorem UP (q:Re) (A1 A2:Option Addr) (c1 c2:Nat) (w:World) (ha:reB q=true) (aw:Rd w w.heap.size A1 (bvs q.t.b)) (bb:Rd w w.heap.size A2 (bvs q.b)):Calls Tryz.prog 166 #[.agg #[.string ⟨q.c.1.toArray⟩,.string ⟨q.c.2.toArray⟩,.string ⟨q.t.s.1.toArray⟩,.string ⟨q.t.s.2.toArray⟩,.int .i64 q.t.k,.slice A1 q.t.b.length c1,.slice A2 q.b.length c2]] w (BY w (reE q)):=by
 have Z:=I ((Below.refl w.heap.size w).alloc Ag (.cells #[.string ⟨q.c.1.toArray⟩,.string ⟨q.c.2.toArray⟩,.string ⟨q.t.s.1.toArray⟩,.string ⟨q.t.s.2.toArray⟩,.int .i64 q.t.k,.slice A1 q.t.b.length c1,.slice A2 q.b.length c2] 82));have M:=I (Blk.new w 82 #[.string ⟨q.c.1.toArray⟩,.string ⟨q.c.2.toArray⟩,.string ⟨q.t.s.1.toArray⟩,.string ⟨q.t.s.2.toArray⟩,.int .i64 q.t.k,.slice A1 q.t.b.length c1,.slice A2 q.b.length c2]);have hp:prB q.c=true/\tkB q.t=true/\BR q.b=true:=by simpa [reB] using ha
 have b1:=(AY hp.1).1;have b2:=(Cq hp.2.1).1;have b3:=AE 4 q.b;have b6:=Bn hp.2.2;have T1:=I (fun w1=>Cf q.c w1 hp.1);have T2:=I (fun w1 (h:Below w.heap.size w w1)=>Fo q.t A1 c1 w1 hp.2.1 ((aw.below h).more h.size));have T3:=I (fun w1 (h:Below w.heap.size w w1)=>DW q.b A2 q.b.length c2 w1.heap.size w1 ((bb.below h).more h.size) rfl Ag (by omega));have HL:=I (show [prE q.c,tkE q.t,elem 4 q.b].flatten.length<=65535 by rw[DS];simp only[List.length_append];omega);have HE:=I (show reE q=elem 107 [prE q.c,tkE q.t,elem 4 q.b].flatten from rfl);obtain⟨l1,bx⟩:∃l,l=prE q.c:=⟨_,rfl⟩;obtain⟨l2,bq⟩:∃l,l=tkE q.t:=⟨_,rfl⟩;obtain⟨l3,bz⟩:∃l,l=elem 4 q.b:=⟨_,rfl⟩;rw[<-bx] at T1 HL HE;rw[<-bq] at T2 HL HE;rw[<-bz] at T3 HL HE;rw[HE.o,DS];clear HE bx bq bz hp b1 b2 b3 b6 ha aw bb;go_enter Tryz.func166,Tryz.ntmps166
 go_wp2
 obtain⟨W,eW⟩:=Ak (w.alloc (.cells #[.string ⟨q.c.1.toArray⟩,.string ⟨q.c.2.toArray⟩,.string ⟨q.t.s.1.toArray⟩,.string ⟨q.t.s.2.toArray⟩,.int .i64 q.t.k,.slice A1 q.t.b.length c1,.slice A2 q.b.length c2] 82));rw[<-eW] at Z M⊢;clear eW;replace M:=I (show Blk W.drew _ _ _ from M.o.drewN 1);replace Z:=I (show Below _ _ W.drew from below_drewN Z.o 1)
 go_region_held3 (fun w'=>w'.cell? ⟨w.heap.size,0,none⟩=some (.string ⟨q.c.1.toArray⟩)/\w'.cell? ⟨w.heap.size,1,none⟩=some (.string ⟨q.c.2.toArray⟩)/\w'.cell? ⟨w.heap.size,2,none⟩=some (.string ⟨q.t.s.1.toArray⟩)/\w'.cell? ⟨w.heap.size,3,none⟩=some (.string ⟨q.t.s.2.toArray⟩)/\w'.cell? ⟨w.heap.size,4,none⟩=some (.int .i64 q.t.k)/\w'.cell? ⟨w.heap.size,5,none⟩=some (.slice A1 q.t.b.length c1)/\w'.cell? ⟨w.heap.size,6,none⟩=some (.slice A2 q.b.length c2)) (first | exact⟨M.o.cell 0,M.o.cell 1,M.o.cell 2,M.o.cell 3,M.o.cell 4,M.o.cell 5,M.o.cell 6⟩ | exact⟨(M.o.alloc _).cell 0,(M.o.alloc _).cell 1,(M.o.alloc _).cell 2,(M.o.alloc _).cell 3,(M.o.alloc _).cell 4,(M.o.alloc _).cell 5,(M.o.alloc _).cell 6⟩) ((first
  |(go_at_call 213;(with_reducible refine Calls.mono (T1.o _) ?_);rintro e w1 ⟨⟨g1,c1,rfl,cd,cg,aw⟩,O⟩;clear T1;have av:=I aw;replace M:=I (M.o.below O);replace Z:=Z.t O;clear O aw cd cg)
  |(go_at_call 215;(with_reducible refine Calls.mono (T2.o _ Z.o) ?_);rintro e w2 ⟨⟨g2,c2,rfl,cf,ck,bb⟩,O⟩;clear T2;replace av:=I (Bh av.o O);have bn:=I bb;replace M:=I (M.o.below O);replace Z:=Z.t O;clear O bb cf ck)
  |(go_at_call 216;(with_reducible refine Calls.mono (T3.o _ Z.o) ?_);rintro e w3 ⟨⟨g3,c3,rfl,cm,cj,cb⟩,O⟩;clear T3;replace av:=I (Bh av.o O);replace bn:=I (Bh bn.o O);have cn:=I cb;replace M:=I (M.o.below O);replace Z:=Z.t O;clear O cb cm cj)
  |(go_at_call 212;refine Calls.mono (Dc 107 [l1,l2,l3] _ 3 3 (w3.heap.size+1) _ (FH av.o bn.o cn.o) rfl (by simp) HL.o (by simp)) ?_;rintro e wz ⟨⟨gz,cz,rfl,bs,cc,bB⟩,O⟩;have ca:=(Below.refl w3.heap.size w3).alloc Ag (.cells #[.slice (some ⟨g1,0,none⟩) l1.length c1,.slice (some ⟨g2,0,none⟩) l2.length c2,.slice (some ⟨g3,0,none⟩) l3.length c3] 22);have HG:=I (Bg (l:=elem 107 [l1,l2,l3].flatten) ⟨⟨gz,cz,rfl,bs,cc,bB⟩,O⟩ (Z.o.trans (ca.mono Z.o.size)));rw[DS] at HG;replace M:=I ((M.o.alloc (.cells #[.slice (some ⟨g1,0,none⟩) l1.length c1,.slice (some ⟨g2,0,none⟩) l2.length c2,.slice (some ⟨g3,0,none⟩) l3.length c3] 22)).below O);clear ca bs cc bB O)))
 go_wp2
 go_ret;exact HG.o
theorem UQ (q:Ap) (A1 A2:Option Addr) (c1 c2:Nat) (w:World) (ha:apB q=true) (av:Rd w w.heap.size A1 (bvs q.t.b)) (aw:Rd w w.heap.size A2 (bvs q.a)):Calls Tryz.prog 167 #[.agg #[.string ⟨q.t.s.1.toArray⟩,.string ⟨q.t.s.2.toArray⟩,.int .i64 q.t.k,.slice A1 q.t.b.length c1,.slice A2 q.a.length c2]] w (BY w (apE q)):=by
 have Z:=I ((Below.refl w.heap.size w).alloc Ag (.cells #[.string ⟨q.t.s.1.toArray⟩,.string ⟨q.t.s.2.toArray⟩,.int .i64 q.t.k,.slice A1 q.t.b.length c1,.slice A2 q.a.length c2] 76));have M:=I (Blk.new w 76 #[.string ⟨q.t.s.1.toArray⟩,.string ⟨q.t.s.2.toArray⟩,.int .i64 q.t.k,.slice A1 q.t.b.length c1,.slice A2 q.a.length c2]);have hp:tkB q.t=true/\BR q.a=true:=by simpa [apB] using ha
 have b2:=(Cq hp.1).1;have b3:=AE 4 q.a;have b6:=Bn hp.2;have T1:=I (fun w1 (h:Below w.heap.size w w1)=>Fo q.t A1 c1 w1 hp.1 ((av.below h).more h.size));have T2:=I (fun w1 (h:Below w.heap.size w w1)=>DW q.a A2 q.a.length c2 w1.heap.size w1 ((aw.below h).more h.size) rfl Ag (by omega));have HL:=I (show [tkE q.t,elem 4 q.a].flatten.length<=65535 by rw[Dm];simp only[List.length_append];omega);have HE:=I (show apE q=elem 110 [tkE q.t,elem 4 q.a].flatten from rfl);obtain⟨l1,bs⟩:∃l,l=tkE q.t:=⟨_,rfl⟩;obtain⟨l2,bn⟩:∃l,l=elem 4 q.a:=⟨_,rfl⟩;rw[<-bs] at T1 HL HE;rw[<-bn] at T2 HL HE;rw[HE.o,Dm];clear HE bs bn hp b2 b3 b6 ha av aw;go_enter Tryz.func167,Tryz.ntmps167
 go_wp2
 obtain⟨W,eW⟩:=Ak (w.alloc (.cells #[.string ⟨q.t.s.1.toArray⟩,.string ⟨q.t.s.2.toArray⟩,.int .i64 q.t.k,.slice A1 q.t.b.length c1,.slice A2 q.a.length c2] 76));rw[<-eW] at Z M⊢;clear eW;replace M:=I (show Blk W.drew _ _ _ from M.o.drewN 1);replace Z:=I (show Below _ _ W.drew from below_drewN Z.o 1)
 go_region_held3 (fun w'=>w'.cell? ⟨w.heap.size,0,none⟩=some (.string ⟨q.t.s.1.toArray⟩)/\w'.cell? ⟨w.heap.size,1,none⟩=some (.string ⟨q.t.s.2.toArray⟩)/\w'.cell? ⟨w.heap.size,2,none⟩=some (.int .i64 q.t.k)/\w'.cell? ⟨w.heap.size,3,none⟩=some (.slice A1 q.t.b.length c1)/\w'.cell? ⟨w.heap.size,4,none⟩=some (.slice A2 q.a.length c2)) (first | exact⟨M.o.cell 0,M.o.cell 1,M.o.cell 2,M.o.cell 3,M.o.cell 4⟩ | exact⟨(M.o.alloc _).cell 0,(M.o.alloc _).cell 1,(M.o.alloc _).cell 2,(M.o.alloc _).cell 3,(M.o.alloc _).cell 4⟩) ((first
  |(go_at_call 215;(with_reducible refine Calls.mono (T1.o _ Z.o) ?_);rintro e w1 ⟨⟨g1,c1,rfl,ca,cc,av⟩,O⟩;clear T1;have bb:=I av;replace M:=I (M.o.below O);replace Z:=Z.t O;clear O av ca cc)
  |(go_at_call 216;(with_reducible refine Calls.mono (T2.o _ Z.o) ?_);rintro e w2 ⟨⟨g2,c2,rfl,cb,cd,aw⟩,O⟩;clear T2;replace bb:=I (Bh bb.o O);have cf:=I aw;replace M:=I (M.o.below O);replace Z:=Z.t O;clear O aw cb cd)
  |(go_at_call 212;refine Calls.mono (Dc 110 [l1,l2] _ 2 2 (w2.heap.size+1) _ (JG bb.o cf.o) rfl (by simp) HL.o (by simp)) ?_;rintro e wz ⟨⟨gz,cz,rfl,bq,bB,bx⟩,O⟩;have bz:=(Below.refl w2.heap.size w2).alloc Ag (.cells #[.slice (some ⟨g1,0,none⟩) l1.length c1,.slice (some ⟨g2,0,none⟩) l2.length c2] 22);have HG:=I (Bg (l:=elem 110 [l1,l2].flatten) ⟨⟨gz,cz,rfl,bq,bB,bx⟩,O⟩ (Z.o.trans (bz.mono Z.o.size)));rw[Dm] at HG;replace M:=I ((M.o.alloc (.cells #[.slice (some ⟨g1,0,none⟩) l1.length c1,.slice (some ⟨g2,0,none⟩) l2.length c2] 22)).below O);clear bz bq bB bx O)))
 go_wp2
 go_ret;exact HG.o
theorem UR (q:Fa) (w:World):Calls Tryz.prog 168 #[.agg #[.int .i64 q.e,.int .i64 q.no]] w (BY w (faE q)):=by
 have Z:=I ((Below.refl w.heap.size w).alloc Ag (.cells #[.int .i64 q.e,.int .i64 q.no] 84));have M:=I (Blk.new w 84 #[.int .i64 q.e,.int .i64 q.no]);have b1:=AK q.e;have b2:=AK q.no;have T1:=I (fun w1=>Db q.e w1);have T2:=I (fun w1=>Db q.no w1);have HL:=I (show [encI q.e,encI q.no].flatten.length<=65535 by rw[Dm];simp only[List.length_append];omega);have HE:=I (show faE q=elem 126 [encI q.e,encI q.no].flatten from rfl);obtain⟨l1,bq⟩:∃l,l=encI q.e:=⟨_,rfl⟩;obtain⟨l2,aw⟩:∃l,l=encI q.no:=⟨_,rfl⟩;rw[<-bq] at T1 HL HE;rw[<-aw] at T2 HL HE;rw[HE.o,Dm];clear HE bq aw b1 b2;go_enter Tryz.func168,Tryz.ntmps168
 go_wp2
 obtain⟨W,eW⟩:=Ak (w.alloc (.cells #[.int .i64 q.e,.int .i64 q.no] 84));rw[<-eW] at Z M⊢;clear eW;replace M:=I (show Blk W.drew _ _ _ from M.o.drewN 1);replace Z:=I (show Below _ _ W.drew from below_drewN Z.o 1)
 go_region_held3 (fun w'=>w'.cell? ⟨w.heap.size,0,none⟩=some (.int .i64 q.e)/\w'.cell? ⟨w.heap.size,1,none⟩=some (.int .i64 q.no)) (first | exact⟨M.o.cell 0,M.o.cell 1⟩ | exact⟨(M.o.alloc _).cell 0,(M.o.alloc _).cell 1⟩) ((first
  |(go_at_call 214;(with_reducible refine Calls.mono (T1.o _) ?_);rintro e w1 ⟨⟨g1,c1,rfl,ca,cc,bn⟩,O⟩;clear T1;have av:=I bn;replace M:=I (M.o.below O);replace Z:=Z.t O;clear O bn ca cc)
  |(go_at_call 214;(with_reducible refine Calls.mono (T2.o _) ?_);rintro e w2 ⟨⟨g2,c2,rfl,cb,cd,bs⟩,O⟩;clear T2;replace av:=I (Bh av.o O);have cf:=I bs;replace M:=I (M.o.below O);replace Z:=Z.t O;clear O bs cb cd)
  |(go_at_call 212;refine Calls.mono (Dc 126 [l1,l2] _ 2 2 (w2.heap.size+1) _ (JG av.o cf.o) rfl (by simp) HL.o (by simp)) ?_;rintro e wz ⟨⟨gz,cz,rfl,bb,bB,bx⟩,O⟩;have bz:=(Below.refl w2.heap.size w2).alloc Ag (.cells #[.slice (some ⟨g1,0,none⟩) l1.length c1,.slice (some ⟨g2,0,none⟩) l2.length c2] 22);have HG:=I (Bg (l:=elem 126 [l1,l2].flatten) ⟨⟨gz,cz,rfl,bb,bB,bx⟩,O⟩ (Z.o.trans (bz.mono Z.o.size)));rw[Dm] at HG;replace M:=I ((M.o.alloc (.cells #[.slice (some ⟨g1,0,none⟩) l1.length c1,.slice (some ⟨g2,0,none⟩) l2.length c2] 22)).below O);clear bz bb bB bx O)))
 go_wp2
 go_ret;exact HG.o
theorem OL (p:Pt) (w:World) (hk:p.ss.length=32) (hx:ptB p=true):Calls Tryz.prog 176 #[.agg (ptC p).toArray] w (BY w (ptE p)):=by
 have HI:=I (show(Tryz.prog.info? 33).map (·.size)=some (ptC p).toArray.size by rw[FI hk];kernel_rfl);have CF:=I (show ∀w':World,Blk w' w.heap.size 33 (ptC p).toArray->w'.cell? ⟨w.heap.size,0,none⟩=some (.string ⟨p.c.1.toArray⟩)/\w'.cell? ⟨w.heap.size,1,none⟩=some (.string ⟨p.c.2.toArray⟩)/\w'.cell? ⟨w.heap.size,34,none⟩=some (.string ⟨p.tr.toArray⟩)/\w'.cell? ⟨w.heap.size,35,none⟩=some (.int .i64 p.st)/\w'.cell? ⟨w.heap.size,36,none⟩=some (.int .i64 p.en) from fun w' h=>IN hk h);have T2:=I (fun w1 (h:Blk w1 w.heap.size 33 (ptC p).toArray)=>DW p.ss (some ⟨w.heap.size,2,none⟩) 32 32 w1.heap.size w1 (MS h) hk.symm Ag (by omega));obtain⟨cs,bB⟩:=Ak ((ptC p).toArray);rw[<-bB] at HI CF T2⊢;clear bB;have HB:=I ((Below.refl w.heap.size w).alloc Ag (.cells cs 33));have Z:=I (Blk.new w 33 cs);have hp:=(Dy hx).2.1;have h3:=(Dy hx).2.2.1;have b1:=(AY hp).1;have b2:=AK p.st;have b3:=AK p.en;have b4:=AE 27 p.tr;have b5:=AE 4 p.ss;have T1:=I (fun w1=>Cf p.c w1 hp);have T3:=I (fun w1=>JR p.tr w1 (by omega));have T4:=I (fun w1=>Db p.st w1);have T5:=I (fun w1=>Db p.en w1);have HL:=I (show [prE p.c,elem 4 p.ss,elem 27 p.tr,encI p.st,encI p.en].flatten.length<=65535 by rw[Gs];simp only[List.length_append];omega);have HE:=I (show ptE p=elem 99 [prE p.c,elem 4 p.ss,elem 27 p.tr,encI p.st,encI p.en].flatten from rfl);obtain⟨l1,cf⟩:∃l,l=prE p.c:=⟨_,rfl⟩;obtain⟨l2,bn⟩:∃l,l=elem 4 p.ss:=⟨_,rfl⟩;obtain⟨l3,bs⟩:∃l,l=elem 27 p.tr:=⟨_,rfl⟩;obtain⟨l4,ca⟩:∃l,l=encI p.st:=⟨_,rfl⟩;obtain⟨l5,bq⟩:∃l,l=encI p.en:=⟨_,rfl⟩;rw[<-cf] at T1 HL HE;rw[<-bn] at T2 HL HE;rw[<-bs] at T3 HL HE;rw[<-ca] at T4 HL HE;rw[<-bq] at T5 HL HE;rw[HE.o,Gs];clear HE cf bn bs ca bq hp h3 b1 b2 b3 b4 b5 hk hx;go_enter Tryz.func176,Tryz.ntmps176
 go_wp2
 obtain⟨W,eW⟩:=Ak (w.alloc (.cells cs 33));rw[<-eW] at HB Z⊢;clear eW;replace Z:=I (show Blk W.drew _ _ _ from Z.o.drewN 1);replace HB:=I (show Below _ _ W.drew from below_drewN HB.o 1)
 go_region_held3 (fun w'=>w'.cell? ⟨w.heap.size,0,none⟩=some (.string ⟨p.c.1.toArray⟩)/\w'.cell? ⟨w.heap.size,1,none⟩=some (.string ⟨p.c.2.toArray⟩)/\w'.cell? ⟨w.heap.size,34,none⟩=some (.string ⟨p.tr.toArray⟩)/\w'.cell? ⟨w.heap.size,35,none⟩=some (.int .i64 p.st)/\w'.cell? ⟨w.heap.size,36,none⟩=some (.int .i64 p.en)) (first | exact CF.o _ Z.o | exact CF.o _ (Z.o.alloc _)) ((first
  |(go_at_call 213;(with_reducible refine Calls.mono (T1.o _) ?_);rintro e w1 ⟨⟨g1,c1,rfl,cr,cx,cd⟩,M⟩;clear T1;have O:=I cd;replace Z:=I (Z.o.below M);replace HB:=HB.t M;clear M cd cr cx)
  |(go_at_call 216;(with_reducible refine Calls.mono (T2.o _ Z.o) ?_);rintro e w2 ⟨⟨g2,c2,rfl,cw,cp,cg⟩,M⟩;clear T2;replace O:=I (Bh O.o M);have av:=I cg;replace Z:=I (Z.o.below M);replace HB:=HB.t M;clear M cg cw cp)
  |(go_at_call 224;(with_reducible refine Calls.mono (T3.o _) ?_);rintro e w3 ⟨⟨g3,c3,rfl,cB,cA,bz⟩,M⟩;clear T3;replace O:=I (Bh O.o M);replace av:=I (Bh av.o M);have aw:=I bz;replace Z:=I (Z.o.below M);replace HB:=HB.t M;clear M bz cB cA)
  |(go_at_call 214;(with_reducible refine Calls.mono (T4.o _) ?_);rintro e w4 ⟨⟨g4,c4,rfl,cn,cq,bx⟩,M⟩;clear T4;replace O:=I (Bh O.o M);replace av:=I (Bh av.o M);replace aw:=I (Bh aw.o M);have bb:=I bx;replace Z:=I (Z.o.below M);replace HB:=HB.t M;clear M bx cn cq)
  |(go_at_call 214;(with_reducible refine Calls.mono (T5.o _) ?_);rintro e w5 ⟨⟨g5,c5,rfl,cy,ct,cc⟩,M⟩;clear T5;replace O:=I (Bh O.o M);replace av:=I (Bh av.o M);replace aw:=I (Bh aw.o M);replace bb:=I (Bh bb.o M);have cu:=I cc;replace Z:=I (Z.o.below M);replace HB:=HB.t M;clear M cc cy ct)
  |(go_at_call 212;refine Calls.mono (Dc 99 [l1,l2,l3,l4,l5] _ 5 5 (w5.heap.size+1) _ (Lq O.o av.o aw.o bb.o cu.o) rfl (by simp) HL.o (by simp)) ?_;rintro e wz ⟨⟨gz,cz,rfl,cb,cm,cj⟩,M⟩;have ck:=(Below.refl w5.heap.size w5).alloc Ag (.cells #[.slice (some ⟨g1,0,none⟩) l1.length c1,.slice (some ⟨g2,0,none⟩) l2.length c2,.slice (some ⟨g3,0,none⟩) l3.length c3,.slice (some ⟨g4,0,none⟩) l4.length c4,.slice (some ⟨g5,0,none⟩) l5.length c5] 22);have HG:=I (Bg (l:=elem 99 [l1,l2,l3,l4,l5].flatten) ⟨⟨gz,cz,rfl,cb,cm,cj⟩,M⟩ (HB.o.trans (ck.mono HB.o.size)));rw[Gs] at HG;replace Z:=I ((Z.o.alloc (.cells #[.slice (some ⟨g1,0,none⟩) l1.length c1,.slice (some ⟨g2,0,none⟩) l2.length c2,.slice (some ⟨g3,0,none⟩) l3.length c3,.slice (some ⟨g4,0,none⟩) l4.length c4,.slice (some ⟨g5,0,none⟩) l5.length c5] 22)).below M);clear ck cb cm cj M)))
 go_wp2
 go_ret;exact HG.o
end Mc
namespace Mc
open Go.RowKit Af DerP Ms
def trB (l:L):Bool:=decide (l.length<=300)&&txtB l
def ptB' (p:Pt):Bool:=prB p.c&&(trB p.tr&&(tmB p.st&&tmB p.en))
theorem dT (p:Pt):ptB' p=ptB p:=by
 unfold ptB' ptB trB;cases txtB p.tr<;>cases prB p.c<;>cases decide (p.tr.length<=300)<;>rfl
theorem txtf {l:L} {k:Nat} (h:k<l.length) (M:l[k].toNat<32\/126<l[k].toNat):txtB l=false:=OB h M
section
attribute [local go_sem] Et List.getElem_cons_zero List.getElem_cons_succ
theorem LK (l:L) (w:World) (ht:l.length<=1000000000):Calls Tryz.prog 223 #[.string ⟨l.toArray⟩] w fun e w'=>e=.returned (.bool (trB l))/\w=w':=by
 by_cases h3:l.length<=300
 ·have g3:decide ((300:Int)<(l.length:Int))=false:=decide_eq_false (by omega)
  have E3:=I (show trB l=txtB l by rw[trB,decide_eq_true h3];rfl);rw[E3.o];clear h3;go_enter Tryz.func223,Tryz.ntmps223
  go_wp2
  go_loop [9] (fun iv=>∃k:Nat,k<=l.length/\iv=.int .i64 (k:Int)/\FitT l k) (fun iv=>l.length - (intOf iv).toNat)
  case atStart=>exact⟨0,Nat.zero_le _,rfl,fun i _ h=>by omega⟩
  case round=>
   obtain⟨k,av,rfl,hf⟩:=hrel;have O:=I hf;clear hf
   by_cases hlt:k<l.length
   ·have e1:(k:Int)<(l.length:Int):=by omega
    by_cases b1:l[k].toNat<32
    ·have E:=I (txtf hlt (Or.inl b1))
     have M:decide ((l[k].toNat:Int)<32)=true:=by simp;omega
     clear b1
     go_wp2
     go_ret;exact⟨by rw[E.o];rfl,rfl⟩
    ·have M:decide ((l[k].toNat:Int)<32)=false:=by simp;omega
     by_cases b2:126<l[k].toNat
     ·have E:=I (txtf hlt (Or.inr b2))
      have Z:decide (126<(l[k].toNat:Int))=true:=by simp;omega
      clear b1 b2
      go_wp2
      go_ret;exact⟨by rw[E.o];rfl,rfl⟩
     ·have Z:decide (126<(l[k].toNat:Int))=false:=by simp;omega
      have HP:=I (show 32<=l[k].toNat/\l[k].toNat<=126 from⟨by omega,by omega⟩);clear b1 b2
      go_wp2
      go_round
      case rel=>exact⟨k+1,by omega,by go_num,fun i hi aw=>by
       by_cases q:i=k
       ·subst q;exact HP.o
       ·exact O.o i hi (by omega)⟩
      case measure=>simp [intOf];omega
   ·have HT:=I (Uk (fun i hi _=>O.o i hi (by omega)))
    have e1:¬(k:Int)<(l.length:Int):=by omega
    clear O
    go_wp2
    go_ret;exact⟨by rw[HT.o];rfl,rfl⟩
 ·have g3:decide ((300:Int)<(l.length:Int))=true:=decide_eq_true (by omega)
  have E:=I (show trB l=false by rw[trB,decide_eq_false h3];rfl);clear h3;go_enter Tryz.func223,Tryz.ntmps223
  go_wp2
  go_ret;exact⟨by rw[E.o];rfl,rfl⟩
end
theorem ON (p:Pt) (w:World) (hk:p.ss.length=32) (hs:pSm p.c) (ht:p.tr.length<=1000000000):Calls Tryz.prog 175 #[.agg (ptC p).toArray] w fun e w'=>e=.returned (.bool (ptB' p))/\Below w.heap.size w w':=by
 have HI:=I (show(Tryz.prog.info? 33).map (·.size)=some (ptC p).toArray.size by rw[FI hk];kernel_rfl);have CF:=I (show ∀w':World,Blk w' w.heap.size 33 (ptC p).toArray->w'.cell? ⟨w.heap.size,0,none⟩=some (.string ⟨p.c.1.toArray⟩)/\w'.cell? ⟨w.heap.size,1,none⟩=some (.string ⟨p.c.2.toArray⟩)/\w'.cell? ⟨w.heap.size,34,none⟩=some (.string ⟨p.tr.toArray⟩)/\w'.cell? ⟨w.heap.size,35,none⟩=some (.int .i64 p.st)/\w'.cell? ⟨w.heap.size,36,none⟩=some (.int .i64 p.en) from fun w' h=>IN hk h);obtain⟨cs,av⟩:=Ak ((ptC p).toArray);rw[<-av] at HI CF⊢;clear av;have Z:=I ((Below.refl w.heap.size w).alloc Ag (.cells cs 33));have O:=I (Blk.new w 33 cs);have T1:=I (fun w1=>AW p.c w1 hs.1 hs.2);have T2:=I (fun w1=>LK p.tr w1 ht);have T3:=I (fun w1=>Hk p.st w1);have T4:=I (fun w1=>Hk p.en w1);obtain⟨k0,k1,k2,k3,k4⟩:=CF.o _ O.o;cases h1:prB p.c with
 |false=>
  rw[h1] at T1;have E:=I (show ptB' p=false by rw[ptB',h1];rfl);clear h1;go_enter Tryz.func175,Tryz.ntmps175
  go_wp2_with (go_at_call 25;(with_reducible refine Calls.mono (T1.o _) ?_);rintro e w1 ⟨rfl,M⟩;replace O:=I (O.o.below M);replace Z:=Z.t M;clear M T1;(try clear k0 k1 k2 k3 k4);obtain⟨k0,k1,k2,k3,k4⟩:=CF.o _ O.o)
  go_ret;exact⟨by rw[E.o];rfl,Z.o⟩
 |true=>
  rw[h1] at T1;cases h2:trB p.tr with
  |false=>
   rw[h2] at T2;have E:=I (show ptB' p=false by rw[ptB',h1,h2];rfl);clear h1 h2;go_enter Tryz.func175,Tryz.ntmps175
   go_wp2_with (first
    |(go_at_call 25;(with_reducible refine Calls.mono (T1.o _) ?_);rintro e w1 ⟨rfl,M⟩;replace O:=I (O.o.below M);replace Z:=Z.t M;clear M T1;(try clear k0 k1 k2 k3 k4);obtain⟨k0,k1,k2,k3,k4⟩:=CF.o _ O.o)
    |(go_at_call 223;(with_reducible refine Calls.mono (T2.o _) ?_);rintro e w2 ⟨rfl,hw⟩;subst hw;clear T2))
   go_ret;exact⟨by rw[E.o];rfl,Z.o⟩
  |true=>
   rw[h2] at T2;cases h3:tmB p.st with
   |false=>
    rw[h3] at T3;have E:=I (show ptB' p=false by rw[ptB',h1,h2,h3];rfl);clear h1 h2 h3;go_enter Tryz.func175,Tryz.ntmps175
    go_wp2_with (first
     |(go_at_call 25;(with_reducible refine Calls.mono (T1.o _) ?_);rintro e w1 ⟨rfl,M⟩;replace O:=I (O.o.below M);replace Z:=Z.t M;clear M T1;(try clear k0 k1 k2 k3 k4);obtain⟨k0,k1,k2,k3,k4⟩:=CF.o _ O.o)
     |(go_at_call 223;(with_reducible refine Calls.mono (T2.o _) ?_);rintro e w2 ⟨rfl,hw⟩;subst hw;clear T2)
     |(go_at_call 207;(with_reducible refine Calls.mono (T3.o _) ?_);rintro e w3 ⟨rfl,hw⟩;subst hw;clear T3))
    go_ret;exact⟨by rw[E.o];rfl,Z.o⟩
   |true=>
    rw[h3] at T3;have E:=I (show ptB' p=tmB p.en by rw[ptB',h1,h2,h3];rfl);clear h1 h2 h3;go_enter Tryz.func175,Tryz.ntmps175
    go_wp2_with (first
     |(go_at_call 25;(with_reducible refine Calls.mono (T1.o _) ?_);rintro e w1 ⟨rfl,M⟩;replace O:=I (O.o.below M);replace Z:=Z.t M;clear M T1;(try clear k0 k1 k2 k3 k4);obtain⟨k0,k1,k2,k3,k4⟩:=CF.o _ O.o)
     |(go_at_call 223;(with_reducible refine Calls.mono (T2.o _) ?_);rintro e w2 ⟨rfl,hw⟩;subst hw;clear T2)
     |(go_at_call 207;(with_reducible refine Calls.mono (T3.o _) ?_);rintro e w3 ⟨rfl,hw⟩;subst hw;clear T3)
     |(go_at_call 207;(with_reducible refine Calls.mono (T4.o _) ?_);rintro e w4 ⟨rfl,hw⟩;subst hw;clear T4))
    go_ret;exact⟨by rw[E.o];rfl,Z.o⟩
theorem Rl (p:Pt) (w:World) (hk:p.ss.length=32) (hs:pSm p.c) (M:p.tr.length<=1000000000):Calls Tryz.prog 175 #[.agg (ptC p).toArray] w fun e w'=>e=.returned (.bool (ptB p))/\Below w.heap.size w w':=by
 rw[<-dT];exact ON p w hk hs M
open DerR
theorem Ii (l:L) (A:Option Addr) (n c:Nat) (w:World) (M:n=l.length) (h:l.length<=2000):Calls Tryz.prog 121 #[.slice A n c] w fun e w'=>e=.returned (.tuple #[.slice A n c,.int .i64 0])/\w=w':=by
 subst M;have O:decide ((2000:Int)<(l.length:Int))=false:=decide_eq_false (by omega);clear h;go_enter Tryz.func121,Tryz.ntmps121
 go_wp2
 go_ret2
 exact⟨rfl,rfl⟩
theorem dU {a:An} (M:anB a=true):(anE a).length<=2000:=by
 have hp:prB a.c=true/\tmB a.t=true/\tmB a.q=true:=by simpa [anB] using M
 have b1:=(AY hp.1).1;have b2:=AK a.t;have b3:=AK a.q;have:=AE 98 [prE a.c,encI a.t,encI a.q].flatten;rw[anE];rw[DS] at this⊢;simp only[List.length_append] at this;omega
theorem dV {p:Pt} (hk:p.ss.length=32) (M:ptB p=true):(ptE p).length<=2000:=by
 have hp:=(Dy M).2.1;have Z:=(Dy M).2.2.1;have b1:=(AY hp).1;have b2:=AK p.st;have b3:=AK p.en;have b4:=AE 27 p.tr;have O:=AE 4 p.ss;have:=AE 99 [prE p.c,elem 4 p.ss,elem 27 p.tr,encI p.st,encI p.en].flatten;rw[ptE];rw[Gs] at this⊢;simp only[List.length_append] at this;omega
theorem Nd (a:An) (w:World) (hs:pSm a.c):Calls Tryz.prog 132 #[.agg #[.string ⟨a.c.1.toArray⟩,.string ⟨a.c.2.toArray⟩,.int .i64 a.t,.int .i64 a.q]] w (EncR w (anO a)):=by
 have HI:=I (show(Tryz.prog.info? 35).map (·.size)=some (#[.string ⟨a.c.1.toArray⟩,.string ⟨a.c.2.toArray⟩,.int .i64 a.t,.int .i64 a.q]:Array Value).size by kernel_rfl);have I1:=I (fun w1=>OK a w1 hs);have T0:=I (fun(M:anB a=true)=>fun w1=>Nc a w1 M);have O:=I (fun(M:anB a=true)=>dU M);obtain⟨cs,av⟩:∃cs:Array Value,cs=#[.string ⟨a.c.1.toArray⟩,.string ⟨a.c.2.toArray⟩,.int .i64 a.t,.int .i64 a.q]:=⟨_,rfl⟩;rw[<-av] at HI I1 T0⊢;clear av;have HB:=I ((Below.refl w.heap.size w).alloc Ag (.cells cs 35));have HK:=I (Blk.new w 35 cs);cases M:anB a with
 |false=>
  rw[M] at I1;have E:=I (show anO a=none by unfold anO limO;rw[M];rfl);rw[E.o];clear M E T0 O hs;go_enter Tryz.func132,Tryz.ntmps132
  go_wp2_with (first
   |(refine Al (by rfl) 35 (.tmp 1) (by rfl) w.heap.size 0 (by rfl) cs _ (Ad HK.o) Tryz.underlying35 (by rfl) HI.o ?_)
   |(go_at_call 177;refine Aj (I1.o _) ?_;rintro w1 hb;replace HB:=HB.t hb;clear hb I1)
   |fail)
  go_ret2
  exact FY HB.o
 |true=>
  rw[M] at I1;have T1:=I (T0.o M);have Z:=O.o M;have E:=I (show anO a=some (anE a) from BS.2 ⟨M,Z,rfl⟩);rw[E.o];obtain⟨l,el⟩:=Ak (anE a);rw[<-el] at T1 Z⊢;have LM:=I (fun A c w1=>Ii l A _ c w1 rfl Z);clear M E el Z T0 O hs;go_enter Tryz.func132,Tryz.ntmps132
  go_wp2_with (first
   |(refine Al (by rfl) 35 (.tmp 1) (by rfl) w.heap.size 0 (by rfl) cs _ (Ad HK.o) Tryz.underlying35 (by rfl) HI.o ?_)
   |(go_at_call 177;refine Aj (I1.o _) ?_;rintro w1 hb;replace HK:=I (HK.o.below hb);replace HB:=HB.t hb;clear hb I1)
   |(go_at_call 178;refine Calls.mono (T1.o _) ?_;rintro e w2 ⟨⟨g,c,rfl,h2,h3,h4⟩,hb⟩;have HG:=I (Bg (l:=l) ⟨⟨g,c,rfl,h2,h3,h4⟩,hb⟩ HB.o);clear h2 h3 h4 hb T1)
   |(go_at_call 121;refine Aj (LM.o _ _ _) ?_;rintro wy rfl;clear LM)
   |fail)
  go_ret2
  exact FZ HG.o
theorem OO (p:Pt) (w:World) (hk:p.ss.length=32) (hs:pSm p.c) (ht:p.tr.length<=1000000000):Calls Tryz.prog 129 #[.agg (ptC p).toArray] w (EncR w (ptO p)):=by
 have HI:=I (show(Tryz.prog.info? 33).map (·.size)=some ((ptC p).toArray:Array Value).size by rw[FI hk];kernel_rfl);have I1:=I (fun w1=>Rl p w1 hk hs ht);have T0:=I (fun(M:ptB p=true)=>fun w1=>OL p w1 hk M);have O:=I (fun(M:ptB p=true)=>dV hk M);obtain⟨cs,av⟩:∃cs:Array Value,cs=(ptC p).toArray:=⟨_,rfl⟩;rw[<-av] at HI I1 T0⊢;clear av;have HB:=I ((Below.refl w.heap.size w).alloc Ag (.cells cs 33));have HK:=I (Blk.new w 33 cs);cases M:ptB p with
 |false=>
  rw[M] at I1;have E:=I (show ptO p=none by unfold ptO limO;rw[M];rfl);rw[E.o];clear M E T0 O hs hk ht;go_enter Tryz.func129,Tryz.ntmps129
  go_wp2_with (first
   |(refine Al (by rfl) 33 (.tmp 1) (by rfl) w.heap.size 0 (by rfl) cs _ (Ad HK.o) Tryz.underlying33 (by rfl) HI.o ?_)
   |(go_at_call 175;refine Aj (I1.o _) ?_;rintro w1 hb;replace HB:=HB.t hb;clear hb I1)
   |fail)
  go_ret2
  exact FY HB.o
 |true=>
  rw[M] at I1;have T1:=I (T0.o M);have Z:=O.o M;have E:=I (show ptO p=some (ptE p) from BS.2 ⟨M,Z,rfl⟩);rw[E.o];obtain⟨l,el⟩:=Ak (ptE p);rw[<-el] at T1 Z⊢;have LM:=I (fun A c w1=>Ii l A _ c w1 rfl Z);clear M E el Z T0 O hs hk ht;go_enter Tryz.func129,Tryz.ntmps129
  go_wp2_with (first
   |(refine Al (by rfl) 33 (.tmp 1) (by rfl) w.heap.size 0 (by rfl) cs _ (Ad HK.o) Tryz.underlying33 (by rfl) HI.o ?_)
   |(go_at_call 175;refine Aj (I1.o _) ?_;rintro w1 hb;replace HK:=I (HK.o.below hb);replace HB:=HB.t hb;clear hb I1)
   |(go_at_call 176;refine Calls.mono (T1.o _) ?_;rintro e w2 ⟨⟨g,c,rfl,h2,h3,h4⟩,hb⟩;have HG:=I (Bg (l:=l) ⟨⟨g,c,rfl,h2,h3,h4⟩,hb⟩ HB.o);clear h2 h3 h4 hb T1)
   |(go_at_call 121;refine Aj (LM.o _ _ _) ?_;rintro wy rfl;clear LM)
   |fail)
  go_ret2
  exact FZ HG.o
end Mc
namespace Mc
open DerP Ms
def prQ (c:Option L):Pr×Option L:=(prI (AN 48 c),Bc 48 c)
def tkQ (c:Option L):Tk×Option L:=(⟨(prQ (AN 97 c)).1,((intC (prQ (AN 97 c)).2).1:Int),ocC (intC (prQ (AN 97 c)).2).2⟩,Bc 97 c)
def keQ (c:Option L):L×Option L:=((ocC c++key0).take 32,Bc 4 c)
theorem US (c:Option L):(keQ c).1.length=32:=by
 show((ocC c++key0).take 32).length=32;rw[List.length_take,List.length_append,show key0.length=32 from rfl];omega
def ptQ (b:L):Pt×Option L:=
 let c1:=prQ (AN 99 (some b));let c2:=keQ c1.2;let c3:=Bc 27 c2.2;let c4:=nmP c3;let c5:=nmP c4.2
 (⟨c1.1,c2.1,txC c2.2,c4.1,c5.1⟩,c5.2)
def anQ (b:L):An×Option L:=
 let c1:=prQ (AN 98 (some b));let c2:=nmP c1.2;let c3:=nmP c2.2
 (⟨c1.1,c2.1,c3.1⟩,c3.2)
def asQ (c:Option L):As×Option L:=
 let c1:=prQ c;let c2:=prQ c1.2;let c3:=nmP c2.2;let c4:=nmP c3.2
 (⟨c1.1,c2.1,c3.1,c4.1⟩,c4.2)
def tgQ (c:Option L):Tg×Option L:=
 let c1:=tkQ c;let c2:=Bc 4 c1.2;let c3:=prQ c2;let c4:=nmP c3.2;let c5:=nmP c4.2
 (⟨c1.1,ocC c1.2,c3.1,c4.1,c5.1⟩,c5.2)
def reQ (c:Option L):Re×Option L:=
 let c1:=prQ c;let c2:=tkQ c1.2
 (⟨c1.1,c2.1,ocC c2.2⟩,Bc 4 c2.2)
def apQ (c:Option L):Ap×Option L:=
 let c1:=tkQ c
 (⟨c1.1,ocC c1.2⟩,Bc 4 c1.2)
def faQ (c:Option L):Fa×Option L:=
 let c1:=nmP c;let c2:=nmP c1.2
 (⟨c1.1,c2.1⟩,c2.2)
def mgQ (b:L):Mg:=
 match b with
 | []=>mg0
 |t :: _=>
  if t=106 then ⟨1,(asQ (AN 106 (some b))).1,tg0,re0,ap0,fa0⟩
  else if t=108 then ⟨2,as0,(tgQ (AN 108 (some b))).1,re0,ap0,fa0⟩
  else if t=107 then ⟨3,as0,tg0,(reQ (AN 107 (some b))).1,ap0,fa0⟩
  else if t=110 then ⟨4,as0,tg0,re0,(apQ (AN 110 (some b))).1,fa0⟩
  else if t=126 then ⟨5,as0,tg0,re0,ap0,(faQ (AN 126 (some b))).1⟩
  else mg0
theorem Fp {p:Pr} (h:prB p=true) (r:L):prQ (some (prE p++r))=(p,some r):=by
 have O:=GV h;have M:=(AY h).2;rw[prQ,prE,be (by omega),ne (by omega),Dm,prI,Ws (by omega),ne (by omega),Yk (by omega)]
theorem aX {n:Int} (M:0<=n) (O:n<=4611686018427387904) (r:L):((intC (some (encI n++r))).1:Int)=n/\(intC (some (encI n++r))).2=some r:=by
 have:=Dn M O r;rw[nmP] at this;injection this with a b;exact⟨a,b⟩
theorem LL {t:Tk} (h:tkB t=true) (r:L):tkQ (some (tkE t++r))=(t,some r):=by
 obtain⟨O,h2,Z⟩:=GW h;have h4:=(Cq h).2;have M:=aX (n:=t.k) (by omega) (by omega) (elem 4 t.b);rw[tkQ,tkE,be (by omega),ne (by omega),DS,Fp O,M.1,M.2,Km (by omega)]
theorem Xv {k:L} (h:k.length=32) (r:L):keQ (some (elem 4 k++r))=(k,some r):=by
 rw[keQ,Wt (by omega),ne (by omega),List.take_append_of_le_length (by omega),List.take_of_length_le (by omega)]
theorem Xw {p:Pt} (h:ptB p=true) (hk:p.ss.length=32):ptQ (ptE p)=(p,some []):=by
 obtain⟨_,M,h3,Z,h5⟩:=Dy h;have t4:=Bf Z;have t5:=Bf h5;have l1:=(AY M).1;have l2:=AE 4 p.ss;have l3:=AE 27 p.tr;have l4:=AK p.st;have l5:=AK p.en;have O:[prE p.c,elem 4 p.ss,elem 27 p.tr,encI p.st,encI p.en].flatten.length<=65535:=by simp only[List.flatten_cons,List.flatten_nil,List.length_append,List.length_nil];omega
 rw[ptQ,ptE,be0 O,Gs,Fp M];simp only;rw[Xv hk];simp only;rw[Ws (by omega),ne (by omega),Dn (by omega) (by omega)];simp only;rw[Dx (by omega) (by omega)]
theorem Xx {a:An} (h:anB a=true):anQ (anE a)=(a,some []):=by
 have O:prB a.c=true/\tmB a.t=true/\tmB a.q=true:=by simpa [anB] using h
 obtain⟨M,h4,h5⟩:=O;have t4:=Bf h4;have t5:=Bf h5;have l1:=(AY M).1;have l4:=AK a.t;have l5:=AK a.q;have Z:[prE a.c,encI a.t,encI a.q].flatten.length<=65535:=by simp only[List.flatten_cons,List.flatten_nil,List.length_append,List.length_nil];omega
 rw[anQ,anE,be0 Z,DS,Fp M];simp only;rw[Dn (by omega) (by omega)];simp only;rw[Dx (by omega) (by omega)]
theorem Xy {q:As} (h:asB q=true):AN 106 (some (asE q))=some [prE q.c,prE q.s,encI q.t,encI q.no].flatten/\asQ (some [prE q.c,prE q.s,encI q.t,encI q.no].flatten)=(q,some []):=by
 have Z:prB q.c=true/\prB q.s=true/\tmB q.t=true/\tmB q.no=true:=by simpa [asB] using h
 obtain⟨O,M,h4,h5⟩:=Z;have t4:=Bf h4;have t5:=Bf h5;have l1:=(AY O).1;have l2:=(AY M).1;have l4:=AK q.t;have l5:=AK q.no;have l7:[prE q.c,prE q.s,encI q.t,encI q.no].flatten.length<=65535:=by simp only[List.flatten_cons,List.flatten_nil,List.length_append,List.length_nil];omega
 refine⟨by rw[asE,be0 l7],?_⟩;rw[QD,asQ,Fp O];simp only;rw[Fp M];simp only;rw[Dn (by omega) (by omega)];simp only;rw[Dx (by omega) (by omega)]
theorem Xz {q:Tg} (h:tgB q=true):AN 108 (some (tgE q))=some [tkE q.t,elem 4 q.a,prE q.s,encI q.u,encI q.no].flatten/\tgQ (some [tkE q.t,elem 4 q.a,prE q.s,encI q.u,encI q.no].flatten)=(q,some []):=by
 have Z:tkB q.t=true/\BR q.a=true/\prB q.s=true/\tmB q.u=true/\tmB q.no=true:=by simpa [tgB] using h
 obtain⟨O,h3,M,h4,h5⟩:=Z;have t4:=Bf h4;have t5:=Bf h5;have b3:=Bn h3;have l1:=(Cq O).1;have l2:=AE 4 q.a;have l3:=(AY M).1;have l4:=AK q.u;have l5:=AK q.no;have l7:[tkE q.t,elem 4 q.a,prE q.s,encI q.u,encI q.no].flatten.length<=65535:=by simp only[List.flatten_cons,List.flatten_nil,List.length_append,List.length_nil];omega
 refine⟨by rw[tgE,be0 l7],?_⟩;rw[Gs,tgQ,LL O];simp only;rw[Wt (by omega),ne (by omega),Fp M];simp only;rw[Dn (by omega) (by omega)];simp only;rw[Dx (by omega) (by omega)]
theorem XA {q:Re} (h:reB q=true):AN 107 (some (reE q))=some [prE q.c,tkE q.t,elem 4 q.b].flatten/\reQ (some [prE q.c,tkE q.t,elem 4 q.b].flatten)=(q,some []):=by
 have Z:prB q.c=true/\tkB q.t=true/\BR q.b=true:=by simpa [reB] using h
 obtain⟨O,M,h4⟩:=Z;have b3:=Bn h4;have l1:=(AY O).1;have l2:=(Cq M).1;have l3:=AE 4 q.b;have l7:[prE q.c,tkE q.t,elem 4 q.b].flatten.length<=65535:=by simp only[List.flatten_cons,List.flatten_nil,List.length_append,List.length_nil];omega
 refine⟨by rw[reE,be0 l7],?_⟩;rw[DS,reQ,Fp O];simp only;rw[LL M];simp only;rw[Km (by omega),ne0 (by omega)]
theorem XC {q:Ap} (h:apB q=true):AN 110 (some (apE q))=some [tkE q.t,elem 4 q.a].flatten/\apQ (some [tkE q.t,elem 4 q.a].flatten)=(q,some []):=by
 have O:tkB q.t=true/\BR q.a=true:=by simpa [apB] using h
 obtain⟨M,h4⟩:=O;have b3:=Bn h4;have l2:=(Cq M).1;have l3:=AE 4 q.a;have Z:[tkE q.t,elem 4 q.a].flatten.length<=65535:=by simp only[List.flatten_cons,List.flatten_nil,List.length_append,List.length_nil];omega
 refine⟨by rw[apE,be0 Z],?_⟩;rw[Dm,apQ,LL M];simp only;rw[Km (by omega),ne0 (by omega)]
theorem XD {q:Fa} (h:faB q=true):AN 126 (some (faE q))=some [encI q.e,encI q.no].flatten/\faQ (some [encI q.e,encI q.no].flatten)=(q,some []):=by
 have M:(1<=q.e/\q.e<=255)/\tmB q.no=true:=by simpa [faB,inB] using h
 obtain⟨h3,Z⟩:=M;have t4:=Bf Z;have l2:=AK q.e;have l3:=AK q.no;have O:[encI q.e,encI q.no].flatten.length<=65535:=by simp only[List.flatten_cons,List.flatten_nil,List.length_append,List.length_nil];omega
 refine⟨by rw[faE,be0 O],?_⟩;rw[Dm,faQ,Dn (by omega) (by omega)];simp only;rw[Dx (by omega) (by omega)]
theorem XE {m:Mg} (h:mgB m=true):mgQ (mgE m)=m:=by
 rcases GX h with⟨Z,e⟩ | ⟨Z,e⟩ | ⟨Z,e⟩ | ⟨Z,e⟩ | ⟨Z,e⟩
 ·have M:=Xy Z
  have O:mgE m=asE m.aq:=by rw[e];rfl
  rw[O]
  conv=>rhs;rw[e]
  show(⟨1,(asQ (AN 106 (some (asE m.aq)))).1,tg0,re0,ap0,fa0⟩:Mg)=_;rw[M.1,M.2]
 ·have M:=Xz Z
  have O:mgE m=tgE m.tg:=by rw[e];rfl
  rw[O]
  conv=>rhs;rw[e]
  show(⟨2,as0,(tgQ (AN 108 (some (tgE m.tg)))).1,re0,ap0,fa0⟩:Mg)=_;rw[M.1,M.2]
 ·have M:=XA Z
  have O:mgE m=reE m.re:=by rw[e];rfl
  rw[O]
  conv=>rhs;rw[e]
  show(⟨3,as0,tg0,(reQ (AN 107 (some (reE m.re)))).1,ap0,fa0⟩:Mg)=_;rw[M.1,M.2]
 ·have M:=XC Z
  have O:mgE m=apE m.ap:=by rw[e];rfl
  rw[O]
  conv=>rhs;rw[e]
  show(⟨4,as0,tg0,re0,(apQ (AN 110 (some (apE m.ap)))).1,fa0⟩:Mg)=_;rw[M.1,M.2]
 ·have M:=XD Z
  have O:mgE m=faE m.fa:=by rw[e];rfl
  rw[O]
  conv=>rhs;rw[e]
  show(⟨5,as0,tg0,re0,ap0,(faQ (AN 126 (some (faE m.fa)))).1⟩:Mg)=_;rw[M.1,M.2]
theorem aY (b:L):mgD b=if mgO (mgQ b)=some b then some (mgQ b) else none:=by
 split
 ·rename_i h;exact SX.2 h
 ·rename_i h
  cases hd:mgD b with
  |none=>rfl
  |some m=>
   exfalso
   have M:=SX.1 hd;have O:=BS.1 M;apply h;have e:mgQ b=m:=by rw[<-O.2.2];exact XE O.1
   rw[e];exact M
theorem aZ (b:L):anD b=if anO (anQ b).1=some b then some (anQ b).1 else none:=by
 split
 ·rename_i h;exact SY.2 h
 ·rename_i h
  cases hd:anD b with
  |none=>rfl
  |some m=>
   exfalso
   have M:=SY.1 hd;have O:=BS.1 M;apply h;have e:(anQ b).1=m:=by rw[<-O.2.2,Xx O.1]
   rw[e];exact M
theorem LN (b:L):(ptQ b).1.ss.length=32:=US _
theorem UT (b:L):ptD b=if ptO (ptQ b).1=some b then some (ptQ b).1 else none:=by
 split
 ·rename_i h;exact(bX (LN b)).2 h
 ·rename_i h
  cases hd:ptD b with
  |none=>rfl
  |some m=>
   exfalso
   have M:=(Zw hd).1;have O:=BS.1 M;apply h;have hk:m.ss.length=32:=by
    have:=(Zw hd).2;have e:(ptP b).1=m:=by rw[this]
    rw[<-e];exact Yl _
   have e:(ptQ b).1=m:=by rw[<-O.2.2,Xw O.1 hk]
   rw[e];exact M
open Go.RowKit Af
theorem Gx (a b:L) (A D:Option Addr) (c d B:Nat) (w:World) (h:Rd w B A (bvs a)) (g:Rd w B D (bvs b)):Calls Tryz.prog 112 #[.slice A a.length c,.slice D b.length d] w fun e w'=>e=.returned (.bool (decide (a=b)))/\w=w':=by
 have M:=Eu (P:=Tryz.prog) w 22 5 Tryz.underlying22 Tryz.underlying5 h a.length c rfl 9 Tryz.underlying9;have O:=Eu (P:=Tryz.prog) w 22 5 Tryz.underlying22 Tryz.underlying5 g b.length d rfl 9 Tryz.underlying9;clear h g
 by_cases e:a=b
 ·have Z:(a==b)=true:=by simpa using e
  have E:=I (decide_eq_true e);clear e;go_enter Tryz.func112,Tryz.ntmps112
  go_wp2
  go_ret;exact⟨by rw[E.o];rfl,rfl⟩
 ·have Z:(a==b)=false:=by simpa using e
  have E:=I (decide_eq_false e);clear e;go_enter Tryz.func112,Tryz.ntmps112
  go_wp2
  go_ret;exact⟨by rw[E.o];rfl,rfl⟩
theorem Ij (x y:Tk) (A1 O:Option Addr) (c1 d1:Nat) (w:World) (h1:Rd w w.heap.size A1 (bvs x.b)) (g1:Rd w w.heap.size O (bvs y.b)) :
  Calls Tryz.prog 238 #[.agg #[.string ⟨x.s.1.toArray⟩,.string ⟨x.s.2.toArray⟩,.int .i64 x.k,.slice A1 x.b.length c1],.agg #[.string ⟨y.s.1.toArray⟩,.string ⟨y.s.2.toArray⟩,.int .i64 y.k,.slice O y.b.length d1]] w fun e w'=>e=.returned (.bool (decide (x=y)))/\Below w.heap.size w w':=by
 obtain⟨⟨r,n⟩,k,b⟩:=x;obtain⟨⟨r2,n2⟩,k2,b2⟩:=y;simp only at h1 g1⊢;have M:=I (((Below.refl w.heap.size w).alloc Ag (.cells #[.string ⟨List.toArray r⟩,.string ⟨List.toArray n⟩,.int .i64 k,.slice A1 b.length c1] 74)).alloc (by simp) (.cells #[.string ⟨List.toArray r2⟩,.string ⟨List.toArray n2⟩,.int .i64 k2,.slice O b2.length d1] 74));have HX:=I ((Blk.new w 74 #[.string ⟨List.toArray r⟩,.string ⟨List.toArray n⟩,.int .i64 k,.slice A1 b.length c1]).alloc (.cells #[.string ⟨List.toArray r2⟩,.string ⟨List.toArray n2⟩,.int .i64 k2,.slice O b2.length d1] 74));have hy:=Blk.new (w.alloc (.cells #[.string ⟨List.toArray r⟩,.string ⟨List.toArray n⟩,.int .i64 k,.slice A1 b.length c1] 74)) 74 #[.string ⟨List.toArray r2⟩,.string ⟨List.toArray n2⟩,.int .i64 k2,.slice O b2.length d1];rw[show(w.alloc (.cells #[.string ⟨List.toArray r⟩,.string ⟨List.toArray n⟩,.int .i64 k,.slice A1 b.length c1] 74)).heap.size=w.heap.size+1 by simp] at hy;have HY:=I hy;clear hy;have Z:=I (fun w1 (h:Below w.heap.size w w1)=>Gx b b2 A1 O c1 d1 w.heap.size w1 (h1.below h) (g1.below h));clear h1 g1
 by_cases e0a:r=r2
 ·subst e0a
  by_cases e0b:n=n2
  ·subst e0b
   by_cases e1:k=k2
   ·subst e1
    have t1:(k==k)=true:=by simp
    cases e2:decide (b=b2) with
    |false=>
     have E:=I (show decide ((⟨(r,n),k,b⟩:Tk)=⟨(r,n),k,b2⟩)=false from decide_eq_false (fun h=>of_decide_eq_false e2 (congrArg Tk.b h)));rw[e2] at Z;clear e2;go_enter Tryz.func238,Tryz.ntmps238
     go_wp2_with (go_at_call 112;refine Calls.mono (Z.o _ M.o) ?_;rintro e4 aw ⟨rfl,hw⟩;subst hw;clear Z)
     go_ret;exact⟨by rw[E.o];rfl,M.o⟩
    |true=>
     rw[e2] at Z;have av:=of_decide_eq_true e2;clear e2;subst av;have E:=I (show decide ((⟨(r,n),k,b⟩:Tk)=⟨(r,n),k,b⟩)=true from decide_eq_true rfl);go_enter Tryz.func238,Tryz.ntmps238
     go_wp2_with (go_at_call 112;refine Calls.mono (Z.o _ M.o) ?_;rintro e4 aw ⟨rfl,hw⟩;subst hw;clear Z)
     go_ret;exact⟨by rw[E.o];rfl,M.o⟩
   ·have t1:(k==k2)=false:=by simpa using e1
    have E:=I (show decide ((⟨(r,n),k,b⟩:Tk)=⟨(r,n),k2,b2⟩)=false from decide_eq_false (fun h=>e1 (congrArg Tk.k h)));go_enter Tryz.func238,Tryz.ntmps238
    go_wp2
    go_ret;exact⟨by rw[E.o];rfl,M.o⟩
  ·have E:=I (show decide ((⟨(r,n),k,b⟩:Tk)=⟨(r,n2),k2,b2⟩)=false from decide_eq_false (fun h=>e0b (congrArg (fun t=>t.s.2) h)))
   go_enter Tryz.func238,Tryz.ntmps238
   go_wp2
   go_ret;exact⟨by rw[E.o];rfl,M.o⟩
 ·have E:=I (show decide ((⟨(r,n),k,b⟩:Tk)=⟨(r2,n2),k2,b2⟩)=false from decide_eq_false (fun h=>e0a (congrArg (fun t=>t.s.1) h)))
  go_enter Tryz.func238,Tryz.ntmps238
  go_wp2
  go_ret;exact⟨by rw[E.o];rfl,M.o⟩
theorem OP (x y:Tg) (A1 A2 D1 D2:Option Addr) (c1 c2 d1 d2:Nat) (w:World) (h1:Rd w w.heap.size A1 (bvs x.t.b)) (g1:Rd w w.heap.size D1 (bvs y.t.b)) (h2:Rd w w.heap.size A2 (bvs x.a)) (g2:Rd w w.heap.size D2 (bvs y.a)) :
  Calls Tryz.prog 204 #[.agg #[.string ⟨x.t.s.1.toArray⟩,.string ⟨x.t.s.2.toArray⟩,.int .i64 x.t.k,.slice A1 x.t.b.length c1,.slice A2 x.a.length c2,.string ⟨x.s.1.toArray⟩,.string ⟨x.s.2.toArray⟩,.int .i64 x.u,.int .i64 x.no],.agg #[.string ⟨y.t.s.1.toArray⟩,.string ⟨y.t.s.2.toArray⟩,.int .i64 y.t.k,.slice D1 y.t.b.length d1,.slice D2 y.a.length d2,.string ⟨y.s.1.toArray⟩,.string ⟨y.s.2.toArray⟩,.int .i64 y.u,.int .i64 y.no]] w fun e w'=>e=.returned (.bool (decide (x=y)))/\Below w.heap.size w w':=by
 obtain⟨t,a,⟨r,n⟩,u,no⟩:=x;obtain⟨t2,a2,⟨r2,n2⟩,u2,av⟩:=y;simp only at h1 g1 h2 g2⊢;have Z:=I (((Below.refl w.heap.size w).alloc Ag (.cells #[.string ⟨t.s.1.toArray⟩,.string ⟨t.s.2.toArray⟩,.int .i64 t.k,.slice A1 t.b.length c1,.slice A2 a.length c2,.string ⟨List.toArray r⟩,.string ⟨List.toArray n⟩,.int .i64 u,.int .i64 no] 80)).alloc (by simp) (.cells #[.string ⟨t2.s.1.toArray⟩,.string ⟨t2.s.2.toArray⟩,.int .i64 t2.k,.slice D1 t2.b.length d1,.slice D2 a2.length d2,.string ⟨List.toArray r2⟩,.string ⟨List.toArray n2⟩,.int .i64 u2,.int .i64 av] 80));have O:=I ((Blk.new w 80 #[.string ⟨t.s.1.toArray⟩,.string ⟨t.s.2.toArray⟩,.int .i64 t.k,.slice A1 t.b.length c1,.slice A2 a.length c2,.string ⟨List.toArray r⟩,.string ⟨List.toArray n⟩,.int .i64 u,.int .i64 no]).alloc (.cells #[.string ⟨t2.s.1.toArray⟩,.string ⟨t2.s.2.toArray⟩,.int .i64 t2.k,.slice D1 t2.b.length d1,.slice D2 a2.length d2,.string ⟨List.toArray r2⟩,.string ⟨List.toArray n2⟩,.int .i64 u2,.int .i64 av] 80));have hy:=Blk.new (w.alloc (.cells #[.string ⟨t.s.1.toArray⟩,.string ⟨t.s.2.toArray⟩,.int .i64 t.k,.slice A1 t.b.length c1,.slice A2 a.length c2,.string ⟨List.toArray r⟩,.string ⟨List.toArray n⟩,.int .i64 u,.int .i64 no] 80)) 80 #[.string ⟨t2.s.1.toArray⟩,.string ⟨t2.s.2.toArray⟩,.int .i64 t2.k,.slice D1 t2.b.length d1,.slice D2 a2.length d2,.string ⟨List.toArray r2⟩,.string ⟨List.toArray n2⟩,.int .i64 u2,.int .i64 av];rw[show(w.alloc (.cells #[.string ⟨t.s.1.toArray⟩,.string ⟨t.s.2.toArray⟩,.int .i64 t.k,.slice A1 t.b.length c1,.slice A2 a.length c2,.string ⟨List.toArray r⟩,.string ⟨List.toArray n⟩,.int .i64 u,.int .i64 no] 80)).heap.size=w.heap.size+1 by simp] at hy;have M:=I hy;clear hy;have T1:=I (fun w1 (h:Below w.heap.size w w1)=>Ij t t2 A1 D1 c1 d1 w1 ((h1.below h).more h.size) ((g1.below h).more h.size));have T2:=I (fun w1 (h:Below w.heap.size w w1)=>Gx a a2 A2 D2 c2 d2 w.heap.size w1 (h2.below h) (g2.below h));clear h1 g1 h2 g2;cases e0:decide (t=t2) with
 |false=>
  have E:=I (show decide ((⟨t,a,(r,n),u,no⟩:Tg)=⟨t2,a2,(r2,n2),u2,av⟩)=false from decide_eq_false (fun h=>of_decide_eq_false e0 (congrArg Tg.t h)));rw[e0] at T1;clear e0;go_enter Tryz.func204,Tryz.ntmps204
  go_wp2_with (go_at_call 238;refine Calls.mono (T1.o _ Z.o) ?_;rintro e3 w1 ⟨rfl,hb⟩;replace O:=I (O.o.below hb);replace M:=I (M.o.below hb);replace Z:=Z.t hb;clear hb T1;have bs:=O.c4;have ca:=M.c4;have bb:=O.c5;have bn:=M.c5;have aw:=O.c6;have bB:=M.c6;have bz:=O.c7;have bx:=M.c7;have cb:=O.c8;have bq:=M.c8)
  go_ret;exact⟨by rw[E.o];rfl,Z.o⟩
 |true=>
  rw[e0] at T1;have cd:=of_decide_eq_true e0;clear e0;subst cd;cases e1:decide (a=a2) with
  |false=>
   have E:=I (show decide ((⟨t,a,(r,n),u,no⟩:Tg)=⟨t,a2,(r2,n2),u2,av⟩)=false from decide_eq_false (fun h=>of_decide_eq_false e1 (congrArg Tg.a h)));rw[e1] at T2;clear e1;go_enter Tryz.func204,Tryz.ntmps204
   go_wp2_with (first
    |(go_at_call 238;refine Calls.mono (T1.o _ Z.o) ?_;rintro e3 w1 ⟨rfl,hb⟩;replace O:=I (O.o.below hb);replace M:=I (M.o.below hb);replace Z:=Z.t hb;clear hb T1;have bs:=O.c4;have ca:=M.c4;have bb:=O.c5;have bn:=M.c5;have aw:=O.c6;have bB:=M.c6;have bz:=O.c7;have bx:=M.c7;have cb:=O.c8;have bq:=M.c8)
    |(go_at_call 112;refine Calls.mono (T2.o _ Z.o) ?_;rintro e4 cc ⟨rfl,hw⟩;subst hw;clear T2))
   go_ret;exact⟨by rw[E.o];rfl,Z.o⟩
  |true=>
   rw[e1] at T2;have cf:=of_decide_eq_true e1;clear e1;subst cf
   by_cases e2a:r=r2
   ·subst e2a
    by_cases e2b:n=n2
    ·subst e2b
     by_cases e3:u=u2
     ·subst e3
      have t3:(u==u)=true:=by simp
      by_cases e4:no=av
      ·subst e4
       have t4:(no==no)=true:=by simp
       have E:=I (show decide ((⟨t,a,(r,n),u,no⟩:Tg)=⟨t,a,(r,n),u,no⟩)=true from decide_eq_true rfl);go_enter Tryz.func204,Tryz.ntmps204
       go_wp2_with (first
        |(go_at_call 238;refine Calls.mono (T1.o _ Z.o) ?_;rintro e3 w1 ⟨rfl,hb⟩;replace O:=I (O.o.below hb);replace M:=I (M.o.below hb);replace Z:=Z.t hb;clear hb T1;have bs:=O.c4;have ca:=M.c4;have bb:=O.c5;have bn:=M.c5;have aw:=O.c6;have bB:=M.c6;have bz:=O.c7;have bx:=M.c7;have cb:=O.c8;have bq:=M.c8)
        |(go_at_call 112;refine Calls.mono (T2.o _ Z.o) ?_;rintro e4 cc ⟨rfl,hw⟩;subst hw;clear T2))
       go_ret;exact⟨by rw[E.o];rfl,Z.o⟩
      ·have t4:(no==av)=false:=by simpa using e4
       have E:=I (show decide ((⟨t,a,(r,n),u,no⟩:Tg)=⟨t,a,(r,n),u,av⟩)=false from decide_eq_false (fun h=>e4 (congrArg Tg.no h)));go_enter Tryz.func204,Tryz.ntmps204
       go_wp2_with (first
        |(go_at_call 238;refine Calls.mono (T1.o _ Z.o) ?_;rintro e3 w1 ⟨rfl,hb⟩;replace O:=I (O.o.below hb);replace M:=I (M.o.below hb);replace Z:=Z.t hb;clear hb T1;have bs:=O.c4;have ca:=M.c4;have bb:=O.c5;have bn:=M.c5;have aw:=O.c6;have bB:=M.c6;have bz:=O.c7;have bx:=M.c7;have cb:=O.c8;have bq:=M.c8)
        |(go_at_call 112;refine Calls.mono (T2.o _ Z.o) ?_;rintro e4 cc ⟨rfl,hw⟩;subst hw;clear T2))
       go_ret;exact⟨by rw[E.o];rfl,Z.o⟩
     ·have t3:(u==u2)=false:=by simpa using e3
      have E:=I (show decide ((⟨t,a,(r,n),u,no⟩:Tg)=⟨t,a,(r,n),u2,av⟩)=false from decide_eq_false (fun h=>e3 (congrArg Tg.u h)));go_enter Tryz.func204,Tryz.ntmps204
      go_wp2_with (first
       |(go_at_call 238;refine Calls.mono (T1.o _ Z.o) ?_;rintro e3 w1 ⟨rfl,hb⟩;replace O:=I (O.o.below hb);replace M:=I (M.o.below hb);replace Z:=Z.t hb;clear hb T1;have bs:=O.c4;have ca:=M.c4;have bb:=O.c5;have bn:=M.c5;have aw:=O.c6;have bB:=M.c6;have bz:=O.c7;have bx:=M.c7;have cb:=O.c8;have bq:=M.c8)
       |(go_at_call 112;refine Calls.mono (T2.o _ Z.o) ?_;rintro e4 cc ⟨rfl,hw⟩;subst hw;clear T2))
      go_ret;exact⟨by rw[E.o];rfl,Z.o⟩
    ·have E:=I (show decide ((⟨t,a,(r,n),u,no⟩:Tg)=⟨t,a,(r,n2),u2,av⟩)=false from decide_eq_false (fun h=>e2b (congrArg (fun t=>t.s.2) h)))
     go_enter Tryz.func204,Tryz.ntmps204
     go_wp2_with (first
      |(go_at_call 238;refine Calls.mono (T1.o _ Z.o) ?_;rintro e3 w1 ⟨rfl,hb⟩;replace O:=I (O.o.below hb);replace M:=I (M.o.below hb);replace Z:=Z.t hb;clear hb T1;have bs:=O.c4;have ca:=M.c4;have bb:=O.c5;have bn:=M.c5;have aw:=O.c6;have bB:=M.c6;have bz:=O.c7;have bx:=M.c7;have cb:=O.c8;have bq:=M.c8)
      |(go_at_call 112;refine Calls.mono (T2.o _ Z.o) ?_;rintro e4 cc ⟨rfl,hw⟩;subst hw;clear T2))
     go_ret;exact⟨by rw[E.o];rfl,Z.o⟩
   ·have E:=I (show decide ((⟨t,a,(r,n),u,no⟩:Tg)=⟨t,a,(r2,n2),u2,av⟩)=false from decide_eq_false (fun h=>e2a (congrArg (fun t=>t.s.1) h)))
    go_enter Tryz.func204,Tryz.ntmps204
    go_wp2_with (first
     |(go_at_call 238;refine Calls.mono (T1.o _ Z.o) ?_;rintro e3 w1 ⟨rfl,hb⟩;replace O:=I (O.o.below hb);replace M:=I (M.o.below hb);replace Z:=Z.t hb;clear hb T1;have bs:=O.c4;have ca:=M.c4;have bb:=O.c5;have bn:=M.c5;have aw:=O.c6;have bB:=M.c6;have bz:=O.c7;have bx:=M.c7;have cb:=O.c8;have bq:=M.c8)
     |(go_at_call 112;refine Calls.mono (T2.o _ Z.o) ?_;rintro e4 cc ⟨rfl,hw⟩;subst hw;clear T2))
    go_ret;exact⟨by rw[E.o];rfl,Z.o⟩
theorem OQ (x y:Re) (A1 A2 D1 D2:Option Addr) (c1 c2 d1 d2:Nat) (w:World) (h1:Rd w w.heap.size A1 (bvs x.t.b)) (g1:Rd w w.heap.size D1 (bvs y.t.b)) (h2:Rd w w.heap.size A2 (bvs x.b)) (g2:Rd w w.heap.size D2 (bvs y.b)) :
  Calls Tryz.prog 205 #[.agg #[.string ⟨x.c.1.toArray⟩,.string ⟨x.c.2.toArray⟩,.string ⟨x.t.s.1.toArray⟩,.string ⟨x.t.s.2.toArray⟩,.int .i64 x.t.k,.slice A1 x.t.b.length c1,.slice A2 x.b.length c2],.agg #[.string ⟨y.c.1.toArray⟩,.string ⟨y.c.2.toArray⟩,.string ⟨y.t.s.1.toArray⟩,.string ⟨y.t.s.2.toArray⟩,.int .i64 y.t.k,.slice D1 y.t.b.length d1,.slice D2 y.b.length d2]] w fun e w'=>e=.returned (.bool (decide (x=y)))/\Below w.heap.size w w':=by
 obtain⟨⟨r,n⟩,t,b⟩:=x;obtain⟨⟨r2,n2⟩,M,b2⟩:=y;simp only at h1 g1 h2 g2⊢;have O:=I (((Below.refl w.heap.size w).alloc Ag (.cells #[.string ⟨List.toArray r⟩,.string ⟨List.toArray n⟩,.string ⟨t.s.1.toArray⟩,.string ⟨t.s.2.toArray⟩,.int .i64 t.k,.slice A1 t.b.length c1,.slice A2 b.length c2] 82)).alloc (by simp) (.cells #[.string ⟨List.toArray r2⟩,.string ⟨List.toArray n2⟩,.string ⟨M.s.1.toArray⟩,.string ⟨M.s.2.toArray⟩,.int .i64 M.k,.slice D1 M.b.length d1,.slice D2 b2.length d2] 82));have HX:=I ((Blk.new w 82 #[.string ⟨List.toArray r⟩,.string ⟨List.toArray n⟩,.string ⟨t.s.1.toArray⟩,.string ⟨t.s.2.toArray⟩,.int .i64 t.k,.slice A1 t.b.length c1,.slice A2 b.length c2]).alloc (.cells #[.string ⟨List.toArray r2⟩,.string ⟨List.toArray n2⟩,.string ⟨M.s.1.toArray⟩,.string ⟨M.s.2.toArray⟩,.int .i64 M.k,.slice D1 M.b.length d1,.slice D2 b2.length d2] 82));have hy:=Blk.new (w.alloc (.cells #[.string ⟨List.toArray r⟩,.string ⟨List.toArray n⟩,.string ⟨t.s.1.toArray⟩,.string ⟨t.s.2.toArray⟩,.int .i64 t.k,.slice A1 t.b.length c1,.slice A2 b.length c2] 82)) 82 #[.string ⟨List.toArray r2⟩,.string ⟨List.toArray n2⟩,.string ⟨M.s.1.toArray⟩,.string ⟨M.s.2.toArray⟩,.int .i64 M.k,.slice D1 M.b.length d1,.slice D2 b2.length d2];rw[show(w.alloc (.cells #[.string ⟨List.toArray r⟩,.string ⟨List.toArray n⟩,.string ⟨t.s.1.toArray⟩,.string ⟨t.s.2.toArray⟩,.int .i64 t.k,.slice A1 t.b.length c1,.slice A2 b.length c2] 82)).heap.size=w.heap.size+1 by simp] at hy;have HY:=I hy;clear hy;have T1:=I (fun w1 (h:Below w.heap.size w w1)=>Ij t M A1 D1 c1 d1 w1 ((h1.below h).more h.size) ((g1.below h).more h.size));have T2:=I (fun w1 (h:Below w.heap.size w w1)=>Gx b b2 A2 D2 c2 d2 w.heap.size w1 (h2.below h) (g2.below h));clear h1 g1 h2 g2
 by_cases e0a:r=r2
 ·subst e0a
  by_cases e0b:n=n2
  ·subst e0b
   cases e1:decide (t=M) with
   |false=>
    have E:=I (show decide ((⟨(r,n),t,b⟩:Re)=⟨(r,n),M,b2⟩)=false from decide_eq_false (fun h=>of_decide_eq_false e1 (congrArg Re.t h)));rw[e1] at T1;clear e1;go_enter Tryz.func205,Tryz.ntmps205
    go_wp2_with (go_at_call 238;refine Calls.mono (T1.o _ O.o) ?_;rintro e3 w1 ⟨rfl,Z⟩;replace HX:=I (HX.o.below Z);replace HY:=I (HY.o.below Z);replace O:=O.t Z;clear Z T1;have av:=HX.c6;have aw:=HY.c6)
    go_ret;exact⟨by rw[E.o];rfl,O.o⟩
   |true=>
    rw[e1] at T1;have bq:=of_decide_eq_true e1;clear e1;subst bq;cases e2:decide (b=b2) with
    |false=>
     have E:=I (show decide ((⟨(r,n),t,b⟩:Re)=⟨(r,n),t,b2⟩)=false from decide_eq_false (fun h=>of_decide_eq_false e2 (congrArg Re.b h)));rw[e2] at T2;clear e2;go_enter Tryz.func205,Tryz.ntmps205
     go_wp2_with (first
      |(go_at_call 238;refine Calls.mono (T1.o _ O.o) ?_;rintro e3 w1 ⟨rfl,Z⟩;replace HX:=I (HX.o.below Z);replace HY:=I (HY.o.below Z);replace O:=O.t Z;clear Z T1;have av:=HX.c6;have aw:=HY.c6)
      |(go_at_call 112;refine Calls.mono (T2.o _ O.o) ?_;rintro e4 bn ⟨rfl,hw⟩;subst hw;clear T2))
     go_ret;exact⟨by rw[E.o];rfl,O.o⟩
    |true=>
     rw[e2] at T2;have bb:=of_decide_eq_true e2;clear e2;subst bb;have E:=I (show decide ((⟨(r,n),t,b⟩:Re)=⟨(r,n),t,b⟩)=true from decide_eq_true rfl);go_enter Tryz.func205,Tryz.ntmps205
     go_wp2_with (first
      |(go_at_call 238;refine Calls.mono (T1.o _ O.o) ?_;rintro e3 w1 ⟨rfl,Z⟩;replace HX:=I (HX.o.below Z);replace HY:=I (HY.o.below Z);replace O:=O.t Z;clear Z T1;have av:=HX.c6;have aw:=HY.c6)
      |(go_at_call 112;refine Calls.mono (T2.o _ O.o) ?_;rintro e4 bn ⟨rfl,hw⟩;subst hw;clear T2))
     go_ret;exact⟨by rw[E.o];rfl,O.o⟩
  ·have E:=I (show decide ((⟨(r,n),t,b⟩:Re)=⟨(r,n2),M,b2⟩)=false from decide_eq_false (fun h=>e0b (congrArg (fun t=>t.c.2) h)))
   go_enter Tryz.func205,Tryz.ntmps205
   go_wp2
   go_ret;exact⟨by rw[E.o];rfl,O.o⟩
 ·have E:=I (show decide ((⟨(r,n),t,b⟩:Re)=⟨(r2,n2),M,b2⟩)=false from decide_eq_false (fun h=>e0a (congrArg (fun t=>t.c.1) h)))
  go_enter Tryz.func205,Tryz.ntmps205
  go_wp2
  go_ret;exact⟨by rw[E.o];rfl,O.o⟩
theorem OR (x y:Ap) (A1 A2 D1 D2:Option Addr) (c1 c2 d1 d2:Nat) (w:World) (h1:Rd w w.heap.size A1 (bvs x.t.b)) (g1:Rd w w.heap.size D1 (bvs y.t.b)) (h2:Rd w w.heap.size A2 (bvs x.a)) (g2:Rd w w.heap.size D2 (bvs y.a)) :
  Calls Tryz.prog 206 #[.agg #[.string ⟨x.t.s.1.toArray⟩,.string ⟨x.t.s.2.toArray⟩,.int .i64 x.t.k,.slice A1 x.t.b.length c1,.slice A2 x.a.length c2],.agg #[.string ⟨y.t.s.1.toArray⟩,.string ⟨y.t.s.2.toArray⟩,.int .i64 y.t.k,.slice D1 y.t.b.length d1,.slice D2 y.a.length d2]] w fun e w'=>e=.returned (.bool (decide (x=y)))/\Below w.heap.size w w':=by
 obtain⟨t,a⟩:=x;obtain⟨M,a2⟩:=y;simp only at h1 g1 h2 g2⊢;have O:=I (((Below.refl w.heap.size w).alloc Ag (.cells #[.string ⟨t.s.1.toArray⟩,.string ⟨t.s.2.toArray⟩,.int .i64 t.k,.slice A1 t.b.length c1,.slice A2 a.length c2] 76)).alloc (by simp) (.cells #[.string ⟨M.s.1.toArray⟩,.string ⟨M.s.2.toArray⟩,.int .i64 M.k,.slice D1 M.b.length d1,.slice D2 a2.length d2] 76));have HX:=I ((Blk.new w 76 #[.string ⟨t.s.1.toArray⟩,.string ⟨t.s.2.toArray⟩,.int .i64 t.k,.slice A1 t.b.length c1,.slice A2 a.length c2]).alloc (.cells #[.string ⟨M.s.1.toArray⟩,.string ⟨M.s.2.toArray⟩,.int .i64 M.k,.slice D1 M.b.length d1,.slice D2 a2.length d2] 76));have hy:=Blk.new (w.alloc (.cells #[.string ⟨t.s.1.toArray⟩,.string ⟨t.s.2.toArray⟩,.int .i64 t.k,.slice A1 t.b.length c1,.slice A2 a.length c2] 76)) 76 #[.string ⟨M.s.1.toArray⟩,.string ⟨M.s.2.toArray⟩,.int .i64 M.k,.slice D1 M.b.length d1,.slice D2 a2.length d2];rw[show(w.alloc (.cells #[.string ⟨t.s.1.toArray⟩,.string ⟨t.s.2.toArray⟩,.int .i64 t.k,.slice A1 t.b.length c1,.slice A2 a.length c2] 76)).heap.size=w.heap.size+1 by simp] at hy;have HY:=I hy;clear hy;have T1:=I (fun w1 (h:Below w.heap.size w w1)=>Ij t M A1 D1 c1 d1 w1 ((h1.below h).more h.size) ((g1.below h).more h.size));have T2:=I (fun w1 (h:Below w.heap.size w w1)=>Gx a a2 A2 D2 c2 d2 w.heap.size w1 (h2.below h) (g2.below h));clear h1 g1 h2 g2;cases e0:decide (t=M) with
 |false=>
  have E:=I (show decide ((⟨t,a⟩:Ap)=⟨M,a2⟩)=false from decide_eq_false (fun h=>of_decide_eq_false e0 (congrArg Ap.t h)));rw[e0] at T1;clear e0;go_enter Tryz.func206,Tryz.ntmps206
  go_wp2_with (go_at_call 238;refine Calls.mono (T1.o _ O.o) ?_;rintro e3 w1 ⟨rfl,Z⟩;replace HX:=I (HX.o.below Z);replace HY:=I (HY.o.below Z);replace O:=O.t Z;clear Z T1;have av:=HX.c4;have aw:=HY.c4)
  go_ret;exact⟨by rw[E.o];rfl,O.o⟩
 |true=>
  rw[e0] at T1;have bb:=of_decide_eq_true e0;clear e0;subst bb;cases e1:decide (a=a2) with
  |false=>
   have E:=I (show decide ((⟨t,a⟩:Ap)=⟨t,a2⟩)=false from decide_eq_false (fun h=>of_decide_eq_false e1 (congrArg Ap.a h)));rw[e1] at T2;clear e1;go_enter Tryz.func206,Tryz.ntmps206
   go_wp2_with (first
    |(go_at_call 238;refine Calls.mono (T1.o _ O.o) ?_;rintro e3 w1 ⟨rfl,Z⟩;replace HX:=I (HX.o.below Z);replace HY:=I (HY.o.below Z);replace O:=O.t Z;clear Z T1;have av:=HX.c4;have aw:=HY.c4)
    |(go_at_call 112;refine Calls.mono (T2.o _ O.o) ?_;rintro e4 bn ⟨rfl,hw⟩;subst hw;clear T2))
   go_ret;exact⟨by rw[E.o];rfl,O.o⟩
  |true=>
   rw[e1] at T2;have bq:=of_decide_eq_true e1;clear e1;subst bq;have E:=I (show decide ((⟨t,a⟩:Ap)=⟨t,a⟩)=true from decide_eq_true rfl);go_enter Tryz.func206,Tryz.ntmps206
   go_wp2_with (first
    |(go_at_call 238;refine Calls.mono (T1.o _ O.o) ?_;rintro e3 w1 ⟨rfl,Z⟩;replace HX:=I (HX.o.below Z);replace HY:=I (HY.o.below Z);replace O:=O.t Z;clear Z T1;have av:=HX.c4;have aw:=HY.c4)
    |(go_at_call 112;refine Calls.mono (T2.o _ O.o) ?_;rintro e4 bn ⟨rfl,hw⟩;subst hw;clear T2))
   go_ret;exact⟨by rw[E.o];rfl,O.o⟩
theorem dW (x y:Fa) (w:World):(Op.equalIn 10000 84 (.agg #[.int .i64 x.e,.int .i64 x.no]) (.agg #[.int .i64 y.e,.int .i64 y.no])).run Tryz.prog w=.ok (decide (x=y)) w:=by
 obtain⟨e,no⟩:=x;obtain⟨O,M⟩:=y;simp only
 by_cases h0:e=O
 ·subst h0
  by_cases h1:no=M
  ·subst h1
   rw[decide_eq_true rfl]
   go_simp
  ·rw[decide_eq_false (fun h=>h1 (congrArg (fun z=>z.no) h))]
   go_simp
 ·rw[decide_eq_false (fun h=>h0 (congrArg (fun z=>z.e) h))]
  go_simp
theorem dX (x y:As) (w:World):(Op.equalIn 10000 78 (.agg #[.string ⟨x.c.1.toArray⟩,.string ⟨x.c.2.toArray⟩,.string ⟨x.s.1.toArray⟩,.string ⟨x.s.2.toArray⟩,.int .i64 x.t,.int .i64 x.no]) (.agg #[.string ⟨y.c.1.toArray⟩,.string ⟨y.c.2.toArray⟩,.string ⟨y.s.1.toArray⟩,.string ⟨y.s.2.toArray⟩,.int .i64 y.t,.int .i64 y.no])).run Tryz.prog w=.ok (decide (x=y)) w:=by
 obtain⟨⟨a,b⟩,⟨c,d⟩,t,no⟩:=x;obtain⟨⟨O,b2⟩,⟨c2,d2⟩,Z,M⟩:=y;simp only
 by_cases h0:a=O
 ·subst h0
  by_cases h1:b=b2
  ·subst h1
   by_cases h2:c=c2
   ·subst h2
    by_cases h3:d=d2
    ·subst h3
     by_cases h4:t=Z
     ·subst h4
      by_cases h5:no=M
      ·subst h5
       rw[decide_eq_true rfl]
       go_simp
      ·rw[decide_eq_false (fun h=>h5 (congrArg (fun z=>z.no) h))]
       go_simp
     ·rw[decide_eq_false (fun h=>h4 (congrArg (fun z=>z.t) h))]
      go_simp
    ·rw[decide_eq_false (fun h=>h3 (congrArg (fun z=>z.s.2) h))]
     go_simp
   ·rw[decide_eq_false (fun h=>h2 (congrArg (fun z=>z.s.1) h))]
    go_simp
  ·rw[decide_eq_false (fun h=>h1 (congrArg (fun z=>z.c.2) h))]
   go_simp
 ·rw[decide_eq_false (fun h=>h0 (congrArg (fun z=>z.c.1) h))]
  go_simp
end Mc
end Go.Proofs.YtiecjolmennkfaaGreat
