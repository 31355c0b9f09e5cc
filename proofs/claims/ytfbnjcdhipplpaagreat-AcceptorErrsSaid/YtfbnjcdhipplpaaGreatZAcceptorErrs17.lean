import Derived.Test.YtfbnjcdhipplpaaGreatZAcceptorErrs16
set_option maxHeartbeats 25600000
set_option maxRecDepth 100000
set_option linter.unusedVariables false
set_option linter.unusedSimpArgs false
namespace Go.Proofs.YtfbnjcdhipplpaaGreat
namespace Ac
open Go.RowKit Af Se Kd
open Nm (L)
open Rg (It Ent Ring RO its)
open Ms (An)
open Rt (Tp)
open Rp (Rp Stp)
structure SP where
 a:Nat
 r:Nat
 q:Nat
 lo:Nat
 hi:Nat
 P:Ms.Pr
 T:Tp
 v:Value
 v1:Value
 v2:Value
 v3:Value
def AT (p:SP) (j:Nat):Prop:=p.lo<=j/\j<p.hi
def AO (p:SP) (es:List Ent) (u:Value) (j:Nat):Prop:=j=p.a\/RO p.r p.v es j\/Rp.RO p.q u j
def AA (p:SP) (es:List Ent) (u:Value) (j:Nat):Prop:=AO p es u j\/AT p j
abbrev Gw (p:SP) (n m:Nat) (k:Int):Array Value:=#[.string ⟨p.P.1.toArray⟩,.string ⟨p.P.2.toArray⟩,p.v1,p.v2,p.v3,.pointer (some ⟨p.r,0,none⟩),.int .i64 (n:Int),.int .i64 (m:Int),.int .i32 k,.int .u32 0,.pointer (some ⟨p.q,0,none⟩)]
structure AD (w:World) (B:Nat) (p:SP) (es:List Ent) (u:Value) (on:Bool) (st:Int) (l:List An) (n m c:Nat):Prop where
 blk:Blk w p.a 125 (Gw p n m 0)
 ring:Ring w B p.r p.v es
 rp:Rp w B p.q u on st l
 tp:TpK (AT p) w p.v1 p.v2 p.v3 p.T
 lo:B<=p.a
 tlo:B<=p.lo
 hi:p.hi<=w.heap.size
 ar:¬RO p.r p.v es p.a
 aq:¬Rp.RO p.q u p.a
 at_:¬AT p p.a
 rt:∀j,RO p.r p.v es j->¬AT p j
 qt:∀j,Rp.RO p.q u j->¬AT p j
 rq:∀j,RO p.r p.v es j->¬Rp.RO p.q u j
 cz:Cz es c
structure Av (w0 w:World) (B:Nat) (p:SP) (es0:List Ent) (u0:Value) (es:List Ent) (u:Value) (on:Bool) (st:Int) (l:List An) (n m c:Nat):Prop where
 st:AD w B p es u on st l n m c
 eq:bts es=bts es0
 chg:Chg (AO p es0 u0) w0 w
 nw:∀j,AO p es u j->AO p es0 u0 j\/w0.heap.size<=j
section
variable {w0 w w':World} {B:Nat} {p:SP} {es0 es es':List Ent} {u0 u u':Value} {on on':Bool} {st st':Int} {l l':List An} {n m c n' m' c':Nat}
theorem AD.ao_lt (h:AD w B p es u on st l n m c) {j:Nat} (M:AO p es u j):j<w.heap.size:=by
 rcases M with M | M | M
 ·subst M;exact h.blk.lt
 ·exact h.ring.own_lt M
 ·exact h.rp.own_lt M
theorem AD.aa_lt (h:AD w B p es u on st l n m c) {j:Nat} (M:AA p es u j):j<w.heap.size:=by
 rcases M with M | M
 ·exact h.ao_lt M
 ·have:=M.2;have:=h.hi;omega
theorem AD.ao_lo (h:AD w B p es u on st l n m c) {j:Nat} (M:AO p es u j):B<=j:=by
 rcases M with M | M | M
 ·subst M;exact h.lo
 ·exact h.ring.own_lo M
 ·exact h.rp.own_lo M
theorem AD.hB (h:AD w B p es u on st l n m c):B<=w.heap.size:=by have:=h.lo;have:=h.blk.lt;omega
theorem AD.chg {S:Nat->Prop} (h:AD w B p es u on st l n m c) (O:Chg S w w') (hs:∀j,AA p es u j->¬S j):AD w' B p es u on st l n m c:=
 ⟨O.blk h.blk (hs _ (.inl (.inl rfl))),h.ring.chg O (fun j M=>hs j (.inl (.inr (.inl M)))),h.rp.chg O (fun j M=>hs j (.inl (.inr (.inr M)))),h.tp.chg O (fun j M=>⟨h.aa_lt (.inr M),hs j (.inr M)⟩),h.lo,h.tlo,Nat.le_trans h.hi O.size,h.ar,h.aq,h.at_,h.rt,h.qt,h.rq,h.cz⟩
theorem AD.below (h:AD w B p es u on st l n m c) (M:Below w.heap.size w w'):AD w' B p es u on st l n m c:=h.chg (S:=fun _=>False) (Chg.of_below M) (fun _ _ x=>x)
theorem AD.more (h:AD w B p es u on st l n m c) (M:c<=c'):AD w B p es u on st l n m c':=⟨h.blk,h.ring,h.rp,h.tp,h.lo,h.tlo,h.hi,h.ar,h.aq,h.at_,h.rt,h.qt,h.rq,h.cz.mono M⟩
theorem AD.rs (h:AD w B p es u on st l n m c):RS w B p.r p.v es none c:=⟨h.ring,h.hB,fun z M=>(by cases M),fun j O=>(by obtain⟨z,M,_⟩:=O;cases M),fun j O=>(by obtain⟨z,M,_⟩:=O;cases M),h.cz⟩
theorem Av.refl (h:AD w B p es u on st l n m c):Av w w B p es u es u on st l n m c:=⟨h,rfl,Chg.refl _ _,fun _ x=>.inl x⟩
theorem Av.below (h:Av w0 w B p es0 u0 es u on st l n m c) (M:Below w.heap.size w w'):Av w0 w' B p es0 u0 es u on st l n m c:=
 ⟨h.st.below M,h.eq,h.chg.trans (Chg.of_below (S:=fun _=>False) M) (fun _ _ x=>x.elim),h.nw⟩
theorem Av.start (h:AD w B p es u on st l n m c) (M:Below w.heap.size w w'):Av w w' B p es u es u on st l n m c:=(Av.refl h).below M
theorem Av.size (h:Av w0 w B p es0 u0 es u on st l n m c):w0.heap.size<=w.heap.size:=h.chg.size
theorem Av.trans (h:Av w0 w B p es0 u0 es u on st l n m c) (g:Av w w' B p es u es' u' on' st' l' n' m' c'):Av w0 w' B p es0 u0 es' u' on' st' l' n' m' c':=by
 refine⟨g.st,g.eq.trans h.eq,h.chg.trans g.chg (fun j M x=>?_),fun j M=>?_⟩
 ·rcases h.nw j x with y | y
  ·exact y
  ·omega
 ·rcases g.nw j M with y | y
  ·exact h.nw j y
  ·have:=h.size;exact .inr (by omega)
theorem Av.blk {P:Nat} {t:TypeId} {cs:Array Value} (h:Av w0 w B p es0 u0 es u on st l n m c) (M:Blk w0 P t cs) (O:¬AO p es0 u0 P):Blk w P t cs:=h.chg.blk M O
theorem Av.not {P:Nat} (h:Av w0 w B p es0 u0 es u on st l n m c) (M:¬AO p es0 u0 P) (O:P<w0.heap.size):¬AO p es u P:=fun x=>by
 rcases h.nw P x with y | y
 ·exact M y
 ·omega
theorem Av.sl {v:Value} {b:L} (h:Av w0 w B p es0 u0 es u on st l n m c) (hs:SlN (AO p es0 u0) w0 v b):SlN (AO p es u) w v b:=
 hs.keep h.chg (fun _ _ x=>x) (fun j M x=>by
  rcases h.nw j x with y | y
  ·exact y
  ·omega)
theorem AD.fresh (h:AD w B p es u on st l n m c) {P:Nat} (M:w.heap.size<=P):¬AA p es u P:=fun x=>by have:=h.aa_lt x;omega
theorem Av.more (h:Av w0 w B p es0 u0 es u on st l n m c) (M:c<=c'):Av w0 w B p es0 u0 es u on st l n m c':=⟨h.st.more M,h.eq,h.chg,h.nw⟩
theorem Av.over (h:Av w0 w B p es0 u0 es u on st l n m c) {g:Nat} (Z:w0.heap.size<=g) (hk:¬AA p es u g) (hw:w.grownBy w' (some g)):Av w0 w' B p es0 u0 es u on st l n m c:=by
 have M:Chg (fun j=>j=g) w w':=Chg.of_grown hw rfl;exact⟨h.st.chg M (fun j O e=>hk (e▸O)),h.eq,h.chg.trans M (fun j O x=>by omega),h.nw⟩
theorem Av.of_rn (h:AD w B p es u on st l n m c) (g:Rn w w' B p.r p.v es none es' none c'):Av w w' B p es u es' u on st l n m c':=by
 have aw:∀j,¬SO none j:=fun j M=>by obtain⟨z,hz,_⟩:=M;cases hz
 have Z:∀j,RSO p.r p.v es none j->RO p.r p.v es j:=fun j M=>M.elim id (fun x=>(aw j x).elim)
 have av:∀j,RO p.r p.v es' j->RO p.r p.v es j\/w.heap.size<=j:=fun j M=>(g.nw j (.inl M)).imp (Z j) id
 have O:∀j,j<w.heap.size->¬RO p.r p.v es j->¬RO p.r p.v es' j:=fun j hl hn x=>by
  rcases av j x with y | y
  ·exact hn y
  ·omega
 have hq:∀j,Rp.RO p.q u j->¬RO p.r p.v es j:=fun j M x=>h.rq j x M
 have hT:∀j,AT p j->¬RO p.r p.v es j:=fun j M x=>h.rt j x M
 refine⟨⟨g.chg.blk h.blk (fun x=>h.ar (Z _ x)),g.st.k,h.rp.chg g.chg (fun j M x=>hq j M (Z j x)),h.tp.chg g.chg (fun j M=>⟨h.aa_lt (.inr M),fun x=>hT j M (Z j x)⟩),h.lo,h.tlo,Nat.le_trans h.hi g.chg.size,O _ h.blk.lt h.ar,h.aq,h.at_,fun j M x=>O j (h.aa_lt (.inr x)) (hT j x) M,h.qt,fun j M x=>O j (h.rp.own_lt x) (hq j x) M,g.st.cz⟩,g.eq,g.chg.mono (fun j _ x=>.inr (.inl (Z j x))),fun j M=>?_⟩;rcases M with M | M | M
 ·exact .inl (.inl M)
 ·exact(av j M).imp (fun y=>.inr (.inl y)) id
 ·exact .inl (.inr (.inr M))
theorem Av.own_cell {w':World} (h:AD w B p es u on st l n m c) (O:Chg (fun j=>j=p.a) w w') (Z:Blk w' p.a 125 (Gw p n' m' 0)):Av w w' B p es u es u on st l n' m' c:=by
 refine⟨⟨Z,h.ring.chg O (fun j M x=>h.ar (x▸M)),h.rp.chg O (fun j M x=>h.aq (x▸M)),h.tp.chg O (fun j M=>⟨h.aa_lt (.inr M),fun x=>h.at_ (x▸M)⟩),h.lo,h.tlo,Nat.le_trans h.hi O.size,h.ar,h.aq,h.at_,h.rt,h.qt,h.rq,h.cz⟩,rfl,O.mono (fun j _ x=>.inl x),fun _ x=>.inl x⟩
theorem AD.put6 (h:AD w B p es u on st l n m c) (n':Nat):Av w (w.setCell ⟨p.a,6,none⟩ (.int .i64 (n':Int))) B p es u es u on st l n' m c:=
 Av.own_cell h (Ee _ _ _ _) (by have:=h.blk.set 6 (.int .i64 (n':Int));simpa using this)
theorem AD.put7 (h:AD w B p es u on st l n m c) (m':Nat):Av w (w.setCell ⟨p.a,7,none⟩ (.int .i64 (m':Int))) B p es u es u on st l n m' c:=
 Av.own_cell h (Ee _ _ _ _) (by have:=h.blk.set 7 (.int .i64 (m':Int));simpa using this)
theorem Av.base (h:Av w0 w B p es0 u0 es u on st l n m c) (hk:AD w0 B p es0 u0 on' st' l' n' m' c'):Below B w0 w:=h.chg.below hk.hB (fun j _ M=>hk.ao_lo M)
end
end Ac
namespace Ac
open Go.RowKit Af Se Kd
open Nm (strs Cu AV)
open Rg (It Ent Ring RO its)
open Rt (Tp Sm SlV SlP TpV isT SN)
open Rp (Rp Tm)
section
variable {w:World} {B:Nat} {es:List Ent} {T:Tp} {P:Nm.L×Nm.L} {v1 v2 v:Value} {r c:Nat}
theorem az {now:Int} (hs:Sm T) (hp:T.P = []) (cp:∀x∈T.K,x.1.length<=3000/\x.2.length<=3000) (hT:isT T=true) (cy:P.1.length<=1000000/\P.2.length<=1000000) (cg:Cu P.1 P.2=true) (h1:SlV w w.heap.size v1 T.R) (h2:SlP w w.heap.size v2 T.K) (hR:P.1∈T.R) (hr:Ring w B r v es) (hB:B<=w.heap.size) (hz:Cz es c) :
  Calls Tryz.prog 34 #[prV P,.agg (tpA v1 v2),.pointer (some ⟨r,0,none⟩),.int .i64 now] w fun e w'=>∃a q lo hi u1 u2,e=.returned (.tuple #[.pointer (some ⟨a,0,none⟩),.int .i64 0])/\w.heap.size<=a/\w.heap.size<=lo/\w.heap.size<=q/\AD w' B ⟨a,r,q,lo,hi,P,T,v,u1,u2,.slice none 0 0⟩ es (.slice none 0 0) (!decide (now=0)) now [] 0 0 c/\Below w.heap.size w w':=by
 have cd:=h1;have cb:=h2;obtain⟨A1,c1,rfl,cQ,r1⟩:=h1;obtain⟨A2,c2,rfl,cu,r2⟩:=h2;obtain⟨W,eW⟩:=Ak ((w.alloc (.cells #[.string ⟨P.1.toArray⟩,.string ⟨P.2.toArray⟩] 27)).alloc (.cells (tpA (.slice A1 T.R.length c1) (.slice A2 T.K.length c2)) 46));have M:Below w.heap.size w W:=eW▸(Ah.alloc Ag _).alloc (by simp) _;have Z:=I (show Blk W w.heap.size 27 #[.string ⟨P.1.toArray⟩,.string ⟨P.2.toArray⟩] from eW▸(Blk.new w _ _).alloc _);have O:=I (show Blk W (w.heap.size+1) 46 (tpA (.slice A1 T.R.length c1) (.slice A2 T.K.length c2)) by have:=Blk.new (w.alloc (.cells #[.string ⟨P.1.toArray⟩,.string ⟨P.2.toArray⟩] 27)) 46 (tpA (.slice A1 T.R.length c1) (.slice A2 T.K.length c2));simp only[World.size_alloc] at this;exact eW▸this);have HB:=I M;have CI:=I (fun(w1:World) (b1:Below w.heap.size w w1)=>SN T _ w.heap.size w1 hs (show TpV w1 w.heap.size (.agg (tpA (.slice A1 T.R.length c1) (.slice A2 T.K.length c2))) T from⟨_,_,.slice none 0 0,rfl,cd.below b1,cb.below b1,none,0,by rw[hp];rfl,by rw[hp];exact Nat.le_refl _,.inl hp⟩) b1.size);rw[hT] at CI;have CP:=I (fun(w1:World)=>AV P.1 P.2 w1 (by omega) (by omega));rw[cg] at CP;have CC:=I (fun(w1:World) (b1:Below w.heap.size w w1)=>Tr.Cb T.R A1 c1 w.heap.size P.1 w1 (by have:=hs.r;omega) (r1.below b1));have CL:=I (fun w1=>Rg.Lt P w1 (by omega) (by omega));have CT:=I (fun(w1:World) (b1:Below w.heap.size w w1)=>Ui T hs hp cp _ _ w1 (cd.on b1) (cb.on b1));have CR:=I (fun(w1:World)=>Rp.Hx now w1);obtain⟨n,en⟩:=Ak (T.R.length);obtain⟨m,em⟩:=Ak (T.K.length);rw[<-en] at CI CC CT O eW⊢;rw[<-em] at CI CT O eW⊢;have hd:decide (P.1∈T.R)=true:=decide_eq_true hR;rw[hd] at CC;have bx:=I hr;have cw:=I hB;have HZ:=I hz;clear hd hR hr cd cb r1 r2 cQ cu hs hp cp hT cy cg M en em hB hz;go_enter Tryz.func34,Tryz.ntmps34
 go_upto_region 1 with fail
 rw[<-eW];clear eW;have cf:=Z.o.cell 0;have cL:=Z.o.cell 1
 go_upto_region 3 with(first
  |(go_at_call 66;refine Aj (CP.o _) ?_;rintro w1 M;clear CP cf cL;replace O:=I (O.o.below M);replace Z:=I (Z.o.below M);replace HB:=HB.t M;have ca:=O.o.cell 0;have cA:=O.o.cell 1;have cR:=O.o.cell 2;clear M)
  |(go_at_call 71;refine Aj (CI.o _ HB.o) ?_;rintro w2 M;clear CI ca cA cR;replace O:=I (O.o.below M);replace Z:=I (Z.o.below M);replace HB:=HB.t M;have ca:=O.o.cell 0;have cf:=Z.o.cell 0;clear M)
  |(go_at_call 72;refine Aj (CC.o _ HB.o) ?_;rintro w3 hw;clear CC;subst hw)
  |fail)
 clear ca cf;have bn:Below w2.heap.size w2 w2.drew:=below_drewN Ah 1;replace Z:=I (Z.o.below bn);replace O:=I (O.o.below bn);replace HB:=HB.t bn;clear bn;refine Reg.BR (fun w'=>Blk w' w.heap.size 27 #[.string ⟨P.1.toArray⟩,.string ⟨P.2.toArray⟩]/\Blk w' (w.heap.size+1) 46 (tpA (.slice A1 n c1) (.slice A2 m c2))) 11 rfl (by kernel_rfl) ⟨Z.o,O.o⟩ ?_;refine Reg.tw 0 (v:=prV P) rfl ⟨Z.o,O.o⟩ (fun w' hS=>by obtain⟨hP,hT⟩:=hS;have q0:=hP.cell 0;have q1:=hP.cell 1;go_simp<;>rfl) ?_;refine Reg.tw 2 (v:=.agg (tpA (.slice A1 n c1) (.slice A2 m c2))) rfl ⟨Z.o,O.o⟩ (fun w' hS=>by obtain⟨hP,hT⟩:=hS;have k0:=hT.cell 0;have k1:=hT.cell 1;have k2:=hT.cell 2;go_simp<;>rfl) ?_;refine Reg.ty 4 rfl ⟨Z.o,O.o⟩ ?_;refine Reg.ty 5 rfl ⟨Z.o,O.o⟩ ?_;refine Reg.b1 1 ?_
 right
 refine⟨_,_,_,_,_,_,68,#[prV P],rfl,by rfl,(by go_simp<;>first | rfl | exact⟨rfl,rfl⟩),?_⟩;refine Aj (CL.o _) ?_;rintro bz M;replace Z:=I (Z.o.below M);replace O:=I (O.o.below M);replace HB:=HB.t M;clear M;clear CL;refine⟨_,rfl,⟨Z.o,O.o⟩,?_⟩;simp only[Act.put,U,Aa,Ab];refine Reg.b1 3 ?_
 right
 refine⟨_,_,_,_,_,_,73,#[.agg (tpA (.slice A1 n c1) (.slice A2 m c2))],rfl,by rfl,(by go_simp<;>first | rfl | exact⟨rfl,rfl⟩),?_⟩;refine Calls.mono (CT.o _ HB.o) ?_;rintro e wb ⟨u1,u2,rfl,cn,M⟩;have cj:=I HB.o.size;replace Z:=I (Z.o.below M);replace O:=I (O.o.below M);replace HB:=HB.t M;have av:=I cn;have aw:=I (Nat.le_refl wb.heap.size);obtain⟨HI,bb⟩:=Ak (wb.heap.size);have ck:=I (show bz.heap.size<=HI by rw[bb];exact M.size);obtain⟨LO,cr⟩:=Ak (bz.heap.size);rw[<-cr] at av cj ck;rw[<-bb] at av;replace aw:=I (show HI<=wb.heap.size from Nat.le_of_eq bb);clear M cn cr bb;refine⟨_,rfl,⟨Z.o,O.o⟩,?_⟩;simp only[Act.put,U,Aa,Ab];refine Reg.b1 6 ?_
 right
 refine⟨_,_,_,_,_,_,74,#[.int .i64 now],rfl,by rfl,(by go_simp<;>first | rfl | exact⟨rfl,rfl⟩),?_⟩;refine Calls.mono (CR.o _) ?_;rintro e wr ⟨q,rfl,hm⟩;have cM:=I aw.o;have M:=hm.low;have cc:=hm.rp;replace Z:=I (Z.o.below M);replace O:=I (O.o.below M);replace av:=I (av.o.keep (fun b o hx=>World.cell?_of_block (a:=⟨b,o,none⟩) (M.block b (by have:=hx.2;have:=aw.o;omega))) (fun b hx=>hx));replace aw:=I (Nat.le_trans aw.o M.size);replace HB:=HB.t M;have cq:=I cc;have cB:=I (show HI<=q from Nat.le_trans cM.o cc.lo);clear M hm cc;refine⟨_,rfl,⟨Z.o,O.o⟩,?_⟩;simp only[Act.put,U,Aa,Ab];refine Reg.ty 7 rfl ⟨Z.o,O.o⟩ ?_;refine Reg.b1 8 ?_
 left
 obtain⟨A8,c8,A9,c9,e8,e9,_⟩:=av.o.sizes;subst e8 e9;have M:Below wr.heap.size wr (wr.alloc (.cells #[.string ⟨P.1.toArray⟩,.string ⟨P.2.toArray⟩,(.slice A8 T.R.length c8),(.slice A9 T.K.length c9),.slice none 0 0,.pointer (some ⟨r,0,none⟩),.int .i64 0,.int .i64 0,.int .i32 0,.int .u32 0,.pointer (some ⟨q,0,none⟩)] 125)):=Ah.alloc Ag _;have bB:=Blk.new wr 125 #[.string ⟨P.1.toArray⟩,.string ⟨P.2.toArray⟩,(.slice A8 T.R.length c8),(.slice A9 T.K.length c9),.slice none 0 0,.pointer (some ⟨r,0,none⟩),.int .i64 0,.int .i64 0,.int .i32 0,.int .u32 0,.pointer (some ⟨q,0,none⟩)];refine⟨_,_,_,_,_,_,.pointer (some ⟨wr.heap.size,0,none⟩),wr.alloc (.cells #[.string ⟨P.1.toArray⟩,.string ⟨P.2.toArray⟩,(.slice A8 T.R.length c8),(.slice A9 T.K.length c9),.slice none 0 0,.pointer (some ⟨r,0,none⟩),.int .i64 0,.int .i64 0,.int .i32 0,.int .u32 0,.pointer (some ⟨q,0,none⟩)] 125),rfl,by rfl,(by go_simp<;>rfl),⟨Z.o.below M,O.o.below M⟩,?_⟩;simp only[Act.put,U,Aa,Ab];have eb:=I (Nat.le_refl wr.heap.size);obtain⟨wc,cm⟩:=Ak (wr.alloc (.cells #[.string ⟨P.1.toArray⟩,.string ⟨P.2.toArray⟩,(.slice A8 T.R.length c8),(.slice A9 T.K.length c9),.slice none 0 0,.pointer (some ⟨r,0,none⟩),.int .i64 0,.int .i64 0,.int .i32 0,.int .u32 0,.pointer (some ⟨q,0,none⟩)] 125));rw[<-cm] at M bB⊢;clear cm;have cx:=I bB;have bq:=I M;replace Z:=I (Z.o.below M);replace O:=I (O.o.below M);clear M bB;refine Reg.ty 9 rfl ⟨Z.o,O.o⟩ ?_;refine Reg.ty 10 rfl ⟨Z.o,O.o⟩ ?_;refine wpAnyH_done (by kernel_rfl) ?_ _
 go_wp2_with fail
 go_ret2
 have cP:=cj.o;have ec:=ck.o;have ed:=aw.o;have cX:=bq.o.size;have cY:=cw.o;have ea:=cB.o;have cT:=cq.o.lt;have ct:=HB.o.trans (bq.o.mono HB.o.size);refine⟨wr.heap.size,q,LO,HI,_,_,rfl,by omega,cP,by omega,⟨cx.o,bx.o.below ct,?_,?_,?_,?_,?_,?_,?_,?_,?_,?_,?_,HZ.o⟩,ct⟩
 ·exact⟨cq.o.blk.below bq.o,World.ownsRow_nil _ _ _ 4,(show B<=q by omega),by simp [Value.ownBlock],by simp⟩
 ·exact av.o.keep (fun b o hx=>World.cell?_of_block (a:=⟨b,o,none⟩) (bq.o.block b (by have:=hx.2;omega))) (fun b hx=>hx)
 ·show B<=wr.heap.size;omega
 ·show B<=LO;omega
 ·show HI<=_;omega
 ·intro hx;have:=bx.o.own_lt hx;simp only at this;omega
 ·intro hx;rcases hx with hx | hx;(· simp only at hx;omega);(· simp [Value.ownBlock] at hx)
 ·intro hx;have:=hx.2;simp only at this;omega
 ·intro j hx hy;have:=bx.o.own_lt hx;have:=hy.1;simp only at *;omega
 ·intro j hx hy;rcases hx with hx | hx;(· have:=hy.2;simp only at *;omega);(· simp [Value.ownBlock] at hx)
 ·intro j hx hy;have:=bx.o.own_lt hx;rcases hy with hy | hy;(· simp only at *;omega);(· simp [Value.ownBlock] at hy)
end
end Ac
namespace Ac
open Go.RowKit Af Se Kd
open Nm (L Own strs)
open Rg (It Ent Ring RO its)
open Ms (An Pt)
open Rt (Tp Sm GX Jp)
open Tr (expL SC Sr ExpV)
section
variable {w0 w w':World} {B:Nat} {p:SP} {es:List Ent} {u:Value} {on:Bool} {st:Int} {l:List An} {n m c:Nat}
theorem dp {P:Pt} {rz:Int×List L} (h:AD w B p es u on st l n m c) (hs:Sm p.T) (hk:P.ss.length=32) (h1:P.tr.length<=90000) (h2:P.c.1.length<=1000000) (h3:p.P.1.length<=1000000) (hr:pasL p.T p.P.1 P=rz) :
  Calls Tryz.prog 89 #[.pointer (some ⟨p.a,0,none⟩),.agg (ptA P)] w fun e w'=>∃v,e=.returned (.tuple #[v,.int .i64 rz.1])/\Own w' w.heap.size v rz.2/\Below w.heap.size w w':=by
 obtain⟨bq,av⟩:=Ak (ptA P);rw[<-av];obtain⟨W,eW⟩:=Ak (w.alloc (.cells bq 31));have M:Below w.heap.size w W:=eW▸Ah.alloc Ag _;have hp:Blk W w.heap.size 31 bq:=eW▸Blk.new w _ _;have KP:=I (fun(w1:World) (M:Blk w1 w.heap.size 31 bq)=>And.intro (pt_0 (av▸M)) (di hk (av▸M)));have HP:=I hp;have Z:=I (h.below M);have HB:=I M;have CE:=I (fun(w1:World)=>SC P.tr P.c.1 p.P.1 w1 h1 (by omega) (by omega));have bB:=Sr P.tr P.c.1 p.P.1;obtain⟨A1,c1,A2,c2,e1,e2,e3⟩:=h.tp.sizes;have CC:=I (fun(w1:World) (h1:AD w1 B p es u on st l n m c)=>(show Calls Tryz.prog 72 #[.slice A1 p.T.R.length c1,.string ⟨P.c.1.toArray⟩] w1 fun e w'=>e=.returned (.bool (decide (P.c.1∈p.T.R)))/\w1=w' by
  obtain⟨A,c,e,hc,hr⟩:=h1.tp.r.slv (B:=w1.heap.size) (fun b M=>h1.aa_lt (.inr M));rw[e1] at e;injection e with q1 _ q3;subst q1 q3;exact Tr.Cb p.T.R A1 c1 _ P.c.1 w1 (by have:=hs.r;omega) hr))
 have CA:=I (fun(w1:World) (h1:AD w1 B p es u on st l n m c) (A:Option Addr) (cp:Nat) (hr:Rd w1 w1.heap.size A (strs (expL P.tr P.c.1 p.P.1).1))=>Jp p.T (.agg #[p.v1,p.v2,p.v3]) w1.heap.size P.c.1 p.P.1 (expL P.tr P.c.1 p.P.1).1 A cp w1.heap.size w1 hs (h1.tp.tpv (fun b M=>h1.aa_lt (.inr M))) Ag h2 h3 (by omega) hr Ag);have KA:=I (fun(w1:World) (h1:AD w1 B p es u on st l n m c)=>(show w1.cell? ⟨p.a,0,none⟩=some (.string ⟨p.P.1.toArray⟩)/\w1.cell? ⟨p.a,2,none⟩=some (.slice A1 p.T.R.length c1)/\w1.cell? ⟨p.a,3,none⟩=some (.slice A2 p.T.K.length c2)/\w1.cell? ⟨p.a,4,none⟩=some (.slice none 0 0) from⟨h1.blk.cell 0,(h1.blk.cell 2).trans (congrArg some e1),(h1.blk.cell 3).trans (congrArg some e2),(h1.blk.cell 4).trans (congrArg some e3)⟩));rw[e1,e2,e3] at CA;have HR:=I ((show pasL p.T p.P.1 P=(if (expL P.tr P.c.1 p.P.1).2=0 then (if P.c.1∈p.T.R then if GX p.T P.c.1 p.P.1 (expL P.tr P.c.1 p.P.1).1=true then (0,(expL P.tr P.c.1 p.P.1).1) else (11,[]) else (1,[])) else (((expL P.tr P.c.1 p.P.1).2:Int),[]):Int×List L) from rfl).symm.trans hr);obtain⟨nR,ca⟩:=Ak (p.T.R.length);obtain⟨nK,cf⟩:=Ak (p.T.K.length);rw[<-ca] at CC CA KA;rw[<-cf] at CA KA;obtain⟨ls,bb⟩:=Ak ((expL P.tr P.c.1 p.P.1).1);obtain⟨E,eE⟩:=Ak ((expL P.tr P.c.1 p.P.1).2);have O:=I (show ∀w1:World,Calls Tryz.prog 141 #[.string ⟨P.tr.toArray⟩,.string ⟨P.c.1.toArray⟩,.string ⟨p.P.1.toArray⟩] w1 fun e w'=>(∃A cp,e=.returned (.tuple #[.slice A ls.length cp,.int .i64 (E:Int)])/\Own w' w1.heap.size (.slice A ls.length cp) ls)/\Below w1.heap.size w1 w' from fun w1=>(CE.o w1).mono (by
  rintro e w' ⟨⟨v,rfl,ho⟩,M⟩;rw[<-eE];rw[<-bb] at ho;obtain⟨A,cp,rfl,_⟩:=ho.slice;exact⟨⟨A,cp,rfl,ho⟩,M⟩))
 rw[<-bb] at CA HR bB;rw[<-eE] at HR;obtain⟨nl,bz⟩:=Ak (ls.length);rw[<-bz] at CA O;have cq:=I bz;obtain⟨b1,bn⟩:=Ak (decide (P.c.1∈p.T.R));rw[<-bn] at CC;obtain⟨b2,cg⟩:=Ak (GX p.T P.c.1 p.P.1 ls);rw[<-cg] at CA HR;have bx:=I bn;obtain⟨cx,cd⟩:=Ak (P.c.1);obtain⟨px,cc⟩:=Ak (p.P.1);rw[<-cd] at CC CA O HR KP bx;rw[<-cc] at CA O KA;have cm:=(KA.o W Z.o).1;have cn:=(KP.o W HP.o).1;clear h hs hk h1 h2 h3 hr M hp bB e1 e2 e3 bb eE bz bn cg ca cf av cd cc CE;go_enter Tryz.func89,Tryz.ntmps89
 go_upto_region 1 with fail
 rw[<-eW];clear eW
 go_quiet (fail)
 have hd:=below_drewN (Below.refl W.heap.size W) nq;replace HP:=I (HP.o.below hd);replace Z:=I (Z.o.below hd);replace HB:=HB.t hd;clear hd cm cn;generalize W.drewN nq=W1 at HP Z HB⊢;have aw:=(KP.o W1 HP.o).2
 by_cases hE:E=0
 ·replace HR:=I ((if_pos hE).symm.trans HR.o)
  subst hE;cases b1 with
  |false=>
   replace HR:=I ((if_neg (of_decide_eq_false bx.o.symm)).symm.trans HR.o);have er:rz=(1,[]):=HR.o.symm;subst er;clear CA HR
   go_wp2_with (first
    |(go_at_call 141;refine Calls.mono (O.o _) ?_;rintro e w2 ⟨⟨A,cp,rfl,ho⟩,M⟩;clear O aw;replace Z:=I (Z.o.below M);replace HB:=HB.t M;have cb:=(KA.o w2 Z.o).2.1;have c2:=CC.o w2 Z.o;clear M ho CC KA)
    |(go_at_call 72;refine Aj c2 ?_;rintro w3 hw;subst hw;clear c2)
    |fail)
   go_ret2
   exact⟨_,rfl,Own.nil _ _,HB.o⟩
  |true=>
   replace HR:=I ((if_pos (of_decide_eq_true bx.o.symm)).symm.trans HR.o);cases b2 with
   |false=>
    have er:rz=(11,[]):=HR.o.symm;subst er;clear HR
    go_wp2_with (first
     |(go_at_call 141;refine Calls.mono (O.o _) ?_;rintro e w2 ⟨⟨A,cp,rfl,ho⟩,M⟩;clear O aw;replace Z:=I (Z.o.below M);replace HB:=HB.t M;have cb:=(KA.o w2 Z.o).2.1;have cj:=(KA.o w2 Z.o).2.2.1;have ck:=(KA.o w2 Z.o).2.2.2;have c2:=CC.o w2 Z.o;have c3:=CA.o w2 Z.o A cp (by obtain⟨A',c',e',hr⟩:=ho.slice;injection e' with q1;subst q1;exact hr);clear M ho CC CA KA)
     |(go_at_call 72;refine Aj c2 ?_;rintro w3 hw;subst hw;clear c2)
     |(go_at_call 142;refine Aj c3 ?_;rintro w4 M;clear c3;replace HB:=HB.t M;clear M)
     |fail)
    go_ret2
    exact⟨_,rfl,Own.nil _ _,HB.o⟩
   |true=>
    have er:rz=(0,ls):=HR.o.symm;subst er;clear HR
    go_wp2_with (first
     |(go_at_call 141;refine Calls.mono (O.o _) ?_;rintro e w2 ⟨⟨A,cp,rfl,ho⟩,M⟩;clear O aw;replace Z:=I (Z.o.below M);have HO:=I (show Own w2 w.heap.size (.slice A nl cp) ls from ho.from_ HB.o.size);replace HB:=HB.t M;have cb:=(KA.o w2 Z.o).2.1;have cj:=(KA.o w2 Z.o).2.2.1;have ck:=(KA.o w2 Z.o).2.2.2;have c2:=CC.o w2 Z.o;have c3:=CA.o w2 Z.o A cp (by obtain⟨A',c',e',hr⟩:=ho.slice;injection e' with q1;subst q1;exact hr);clear M ho CC CA KA)
     |(go_at_call 72;refine Aj c2 ?_;rintro w3 hw;subst hw;clear c2)
     |(go_at_call 142;refine Aj c3 ?_;rintro w4 M;clear c3;replace HB:=HB.t M;replace HO:=I (HO.o.below M);clear M)
     |fail)
    go_ret2
    exact⟨_,rfl,HO.o,HB.o⟩
 ·replace HR:=I ((if_neg hE).symm.trans HR.o)
  have er:rz=((E:Int),[]):=HR.o.symm;subst er;have t1:((E:Int) != 0)=true:=by simp;omega
  clear CA CC KA HR hE
  go_wp2_with (first
   |(go_at_call 141;refine Calls.mono (O.o _) ?_;rintro e w2 ⟨⟨A,cp,rfl,ho⟩,M⟩;clear O aw;replace HB:=HB.t M;clear M ho)
   |fail)
  go_ret2
  exact⟨_,rfl,Own.nil _ _,HB.o⟩
theorem aA {P:Pt} (h:AD w B p es u on st l n m c) (hs:Sm p.T) (hk:P.ss.length=32) (O:P.tr.length<=90000) (M:P.c.1.length<=1000000) (Z:p.P.1.length<=1000000) :
 Calls Tryz.prog 89 #[.pointer (some ⟨p.a,0,none⟩),.agg (ptA P)] w fun e w'=>∃v,e=.returned (.tuple #[v,.int .i64 (pasL p.T p.P.1 P).1])/\Own w' w.heap.size v (pasL p.T p.P.1 P).2/\Below w.heap.size w w':=dp h hs hk O M Z rfl
end
end Ac
namespace Ac
open Go.RowKit Af Se Kd
open Nm (L)
open Rg (It Ent Ring RO its)
open Ms (An)
open Rp (Rp Stp Tm seeE seeL Uo)
section
variable {w0 w w' W w2:World} {B:Nat} {p:SP} {es:List Ent} {u u':Value} {on on':Bool} {st st':Int} {l l':List An} {n m c:Nat}
theorem Av.seen (h:AD w B p es u on st l n m c) (hW:Below w.heap.size w W) {W2:World} (Z:Below W.heap.size (W.setCell ⟨p.a,8,none⟩ (.int .i32 1)) W2) (g:Stp W2 w2 B p.q u u' on' st' l'):Av w (w2.setCell ⟨p.a,8,none⟩ (.int .i32 0)) B p es u es u' on' st' l' n m c/\w2.cell? ⟨p.a,8,none⟩=some (.int .i32 1)/\w2.frozen? ⟨p.a,8,none⟩=false:=by
 have av:=h.blk.lt;have aw:W.heap.size<=W2.heap.size:=by have:=Z.size;exact Nat.le_trans (Ee W p.a 8 (.int .i32 1)).size this
 have c1:Chg (fun j=>j=p.a\/Rp.RO p.q u j) w W:=(Chg.of_below (S:=fun _=>False) hW).mono (fun _ _ x=>x.elim);have c2:Chg (fun j=>j=p.a\/Rp.RO p.q u j) w (W.setCell ⟨p.a,8,none⟩ (.int .i32 1)):=c1.trans (Ee W p.a 8 (.int .i32 1)) (fun j _ x=>.inl x);have c3:Chg (fun j=>j=p.a\/Rp.RO p.q u j) w W2:=c2.trans (Chg.of_below (S:=fun _=>False) (Z.mono (by simp [World.setCell]))) (fun _ _ x=>x.elim);have c4:Chg (fun j=>j=p.a\/Rp.RO p.q u j) w w2:=c3.trans g.chg (fun j _ x=>.inr x);have c5:Chg (fun j=>j=p.a\/Rp.RO p.q u j) w (w2.setCell ⟨p.a,8,none⟩ (.int .i32 0)):=c4.trans (Ee w2 p.a 8 (.int .i32 0)) (fun j _ x=>.inl x);have b1:Blk (W.setCell ⟨p.a,8,none⟩ (.int .i32 1)) p.a 125 (Gw p n m 1):=by have:=(h.blk.below hW).set 8 (.int .i32 1);simpa using this
 have b2:Blk W2 p.a 125 (Gw p n m 1):=b1.below (Z.mono (by simp [World.setCell]));have b3:Blk w2 p.a 125 (Gw p n m 1):=g.chg.blk b2 h.aq;have b4:Blk (w2.setCell ⟨p.a,8,none⟩ (.int .i32 0)) p.a 125 (Gw p n m 0):=by have:=b3.set 8 (.int .i32 0);simpa using this
 have O:∀j,j<w.heap.size->¬Rp.RO p.q u j->¬Rp.RO p.q u' j:=fun j hl hn x=>by
  rcases g.new j x with y | y
  ·exact hn y
  ·have:=hW.size;omega
 refine⟨⟨⟨b4,h.ring.chg c5 (fun j M x=>?_),g.rp.chg (Ee w2 p.a 8 (.int .i32 0)) (fun j M x=>O _ av h.aq (x▸M)),h.tp.chg c5 (fun j M=>⟨h.aa_lt (.inr M),fun x=>?_⟩),h.lo,h.tlo,Nat.le_trans h.hi c5.size,h.ar,O _ av h.aq,h.at_,h.rt,fun j M x=>O j (h.aa_lt (.inr x)) (fun y=>h.qt j y x) M,fun j M x=>O j (h.ring.own_lt M) (h.rq j M) x,h.cz⟩,rfl,c5.mono (fun j _ x=>x.imp id .inr),fun j M=>?_⟩,b3.cell 8,b3.frozen 8⟩
 ·rcases x with x | x
  ·exact h.ar (x▸M)
  ·exact h.rq j M x
 ·rcases x with x | x
  ·exact h.at_ (x▸M)
  ·exact h.qt j x M
 ·rcases M with M | M | M
  ·exact .inl (.inl M)
  ·exact .inl (.inr (.inl M))
  ·rcases g.new j M with y | y
   ·exact .inl (.inr (.inr y))
   ·have:=hW.size;exact .inr (by omega)
theorem Up {a:An} {now:Int} (h:AD w B p es u on st l n m c) (hs:Tm st) (ha:Tm a.t) (hn:Tm now) (h1:a.c.1.length<=140737488351232) (h2:a.c.2.length<=140737488351232) (hl:l.length<=1000) :
  Calls Tryz.prog 90 #[.pointer (some ⟨p.a,0,none⟩),.agg (Rp.anA a),.int .i64 now] w fun e w'=>e=.returned (.int .i64 (seeE on st l a now))/\∃u',Av w w' B p es u es u' on st (seeL on st l a now) n m c:=by
 obtain⟨W,eW⟩:=Ak (w.alloc (.cells (Rp.anA a) 33));have hb:Below w.heap.size w W:=eW▸Ah.alloc Ag _;have hx:=h.below hb;have cb:=I (show Blk W w.heap.size 33 (Rp.anA a) from eW▸Blk.new w _ _);have HW:=I hb;have HA:=I h;have cl:=Sp.Jr ⟨p.a,8,none⟩ W (hx.blk.cell 8) (hx.blk.frozen 8);have cc:=hx.blk.lt;have bx:Rp (W.setCell ⟨p.a,8,none⟩ (.int .i32 1)) B p.q u on st l:=hx.rp.chg (Ee W p.a 8 (.int .i32 1)) (fun j hj x=>hx.aq (x▸hj));have bn:Blk (W.setCell ⟨p.a,8,none⟩ (.int .i32 1)) p.a 125 (Gw p n m 1):=by have:=hx.blk.set 8 (.int .i32 1);simpa using this
 have bq:=Si.Blk.far cb.o ⟨p.a,8,none⟩ (.int .i32 1) (show p.a≠w.heap.size by have:=h.blk.lt;omega);obtain⟨W1,O⟩:=Ak (W.setCell ⟨p.a,8,none⟩ (.int .i32 1));have cj:=I O;rw[<-O] at bx bn bq cl;have Z:Below W1.heap.size W1 W1.drew:=below_drewN Ah 1;have bB:W1.heap.size=W.heap.size:=by rw[O];simp [World.setCell]
 have ca:=I (bx.below Z);have av:=I (bn.below Z);have M:=I (bq.below Z);have bz:=I (show Below W.heap.size (W.setCell ⟨p.a,8,none⟩ (.int .i32 1)) W1.drew by rw[<-O,<-bB];exact Z);have CS:=I (Uo B p.q u on st l a now W1.drew ca.o hs ha hn h1 h2 hl);clear h hb hx cc bx bn bq Z bB hs ha hn h1 h2 hl O
 go_enter_defers Tryz.func90,Tryz.ntmps90
 go_upto_region 1 with fail
 rw[<-eW];clear eW
 go_upto_region 3 with(first
  |(go_at_call 36;refine Aj cl ?_;rintro w' rfl;clear cl)
  |fail)
 go_region_held3 (fun w2=>w2.cell? ⟨p.a,10,none⟩=some (.pointer (some ⟨p.q,0,none⟩))/\w2.cell? ⟨w.heap.size,0,none⟩=some (.string ⟨a.c.1.toArray⟩)/\w2.cell? ⟨w.heap.size,1,none⟩=some (.string ⟨a.c.2.toArray⟩)/\w2.cell? ⟨w.heap.size,2,none⟩=some (.int .i64 a.t)/\w2.cell? ⟨w.heap.size,3,none⟩=some (.int .i64 a.q)) (exact⟨av.o.cell 10,M.o.cell 0,M.o.cell 1,M.o.cell 2,M.o.cell 3⟩) ((go_at_call 143;refine Aj CS.o ?_;rintro w2 ⟨u',hu⟩;have HU:=I hu;have aw:=I (hu.chg.blk av.o HA.o.aq);have bb:=I (hu.chg.blk M.o (fun x=>by have:=HA.o.rp.own_lt x;omega));clear CS hu av M;have av:=I aw.o;have M:=I bb.o;clear aw bb))
 obtain⟨cd,cf,cg⟩:=Av.seen HA.o HW.o bz.o HU.o;clear av M bz ca cb
 go_wp2
 refine leaves_cons (f:=37) (args:=#[.pointer (some ⟨p.a,8,none⟩)]) (by simp) (by simp [go_sem]) ?_;refine(Sp.DQ ⟨p.a,8,none⟩ _ _ cf cg).mono ?_;rintro e f ck ⟨rfl,rfl,rfl⟩;simp [Leaves,settle,results,Tryz.results90];exact⟨u',cd⟩
end
end Ac
end Go.Proofs.YtfbnjcdhipplpaaGreat
