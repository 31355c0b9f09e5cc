import Derived.Test.YthgignaohimadaaGreatZKdcRoutes21
import Derived.Test.YthgignaohimadaaGreatZKdcRoutes22
set_option maxHeartbeats 25600000
set_option maxRecDepth 100000
set_option linter.unusedVariables false
set_option linter.unusedSimpArgs false
namespace Go.Proofs.YthgignaohimadaaGreat
namespace Kd
open Go.RowKit Af Se
open Nm (strs Bm)
open Rg (It Ent Ring RO its DRing DO)
open Rt (Tp Sm SlV SlP TpV isT)
section
variable {w:World} {B:Nat} {l:List It} {T:Tp} {R:Nm.L} {v1 v2 v:Value} {q lo hi:Nat}
theorem fw (hs:Sm T) (hT:isT T=true) (hR:R∈T.R) (ht:TpK (fun b=>lo<=b/\b<hi) w v1 v2 (.slice none 0 0) T) (M:B<=lo) (E:hi<=w.heap.size) (hd:DRing w B q v l) (hB:B<=w.heap.size) :
  Calls Tryz.prog 20 #[.string ⟨R.toArray⟩,.agg (tpA v1 v2),.pointer (some ⟨q,0,none⟩)] w fun e w'=>∃x,e=.returned (.tuple #[.pointer (some ⟨x,0,none⟩),.int .i64 0])/\w.heap.size<=x/\DK w' B ⟨x,q,lo,hi,R,T,v,v1,v2,.slice none 0 0⟩ l 0 0/\Below w.heap.size w w':=by
 obtain⟨A1,c1,A2,c2,rfl,rfl,_⟩:=ht.sizes;obtain⟨W,Z⟩:=Ak (w.alloc (.cells (tpA (.slice A1 T.R.length c1) (.slice A2 T.K.length c2)) 74));have D:Below w.heap.size w W:=Z▸Ah.alloc Ag _;have bz:TpK (fun b=>lo<=b/\b<hi) W (.slice A1 T.R.length c1) (.slice A2 T.K.length c2) (.slice none 0 0) T:=ht.keep (fun b o N=>World.cell?_of_block (a:=⟨b,o,none⟩) (D.block b (by have:=N.2;omega))) (fun _ x=>x);have F:=I (show Blk W w.heap.size 74 (tpA (.slice A1 T.R.length c1) (.slice A2 T.K.length c2)) from Z▸Blk.new w _ _);have HB:=I D;have CI:=I (Rt.XH T _ hi W hs (bz.tpv (fun b x=>x.2)) (Nat.le_trans E D.size));rw[hT] at CI;have CP:=I (fun(w1:World) (b1:Below w.heap.size w w1)=>Rt.Ej T.R A1 c1 hi R w1 (by have:=hs.r;omega) (by
  obtain⟨A,c,e,_,h⟩:=ht.r.slv (B:=hi) (fun b x=>x.2);injection e with e1 _ _;subst e1;exact h.below (b1.mono E)))
 have cg:¬Tr.ixL R T.R<0:=by
  rw[Tr.ixL,if_pos hR];omega
 have O:=I ht;have cb:=I hd;have cd:=I M;have cf:=I E;have cj:=I hB;obtain⟨n,en⟩:=Ak (T.R.length);obtain⟨m,em⟩:=Ak (T.K.length);obtain⟨ix,bB⟩:=Ak (Tr.ixL R T.R);rw[<-bB] at CP cg;rw[<-en] at CI CP F Z O⊢;rw[<-em] at CI F Z O⊢;clear hs hT hR ht M E hd hB D bz en em bB;go_enter Tryz.func20,Tryz.ntmps20
 go_upto_region 1 with fail
 rw[<-Z];clear Z;have aw:=F.o.cell 0;have bx:=F.o.cell 1;have cc:=F.o.cell 2
 go_upto_region 3 with(first
  |(go_at_call 44;refine Aj CI.o ?_;rintro w2 D;clear CI aw bx cc;replace F:=I (F.o.below D);replace HB:=HB.t D;have aw:=F.o.cell 0;have bx:=F.o.cell 1;have cc:=F.o.cell 2;clear D)
  |(go_at_call 45;refine Aj (CP.o _ HB.o) ?_;rintro w3 hw;clear CP;subst hw)
  |fail)
 go_wp2_with fail
 go_ret2
 have ca:=HB.o.size;have M:=cd.o;have E:=cf.o;have ck:=cj.o;have N:Below w2.heap.size w2 (w2.alloc (.cells #[.string ⟨R.toArray⟩,.slice A1 n c1,.slice A2 m c2,.slice none 0 0,.pointer (some ⟨q,0,none⟩),.int .i64 0,.int .i64 0] 131)):=Ah.alloc Ag _;have J:=HB.o.trans (N.mono ca);refine⟨w2.heap.size,rfl,ca,⟨Blk.new _ _ _,cb.o.below J,?_,?_,M,?_,?_,?_⟩,J⟩
 ·exact O.o.keep (fun b o D=>World.cell?_of_block (a:=⟨b,o,none⟩) (J.block b (by have:=D.2;omega))) (fun b D=>D)
 ·show B<=w2.heap.size;omega
 ·show hi<=_;have:=J.size;omega
 ·intro hx;have:=cb.o.own_lt hx;simp only at this;omega
 ·intro hx;have:=hx.2;simp only at this;omega
end
end Kd
namespace Kd
open Go.RowKit Af Se
open Rg (It Ent Ring RO DRing DO Ap its Qd)
theorem Vl {w:World} {B q:Nat} (D:Blk w q 62 #[.slice none 0 0]) (hB:B<=q):DRing w B q (.slice none 0 0) []:=
 ⟨D,World.ownsRow_nil w B _ 35,hB,by simp [Value.ownBlock]⟩
theorem DW {w w':World} {g:Nat} {t:TypeId} {cs:Array Value} (h:Blk w g t cs) (e:w'.heap[g]? = w.heap[g]?):Blk w' g t cs:=e.trans h
theorem Vm (w:World):Calls Tryz.prog 5 #[.bool false] w fun e w'=>∃g p es d,e=.returned (.pointer (some ⟨g,0,none⟩))/\Scn false w w' g p es d:=by
 have C1:=I (fun(w1:World)=>Qd w1.heap.size w1 Ag);have T1:=I (fun(w1:World)=>OZ rA rA (by decide) w1);have T2:=I (fun(w1:World)=>OZ rA rE (by decide) w1);have T3:=I (fun(w1:World)=>OZ rE rA (by decide) w1);have T4:=I (fun(w1:World)=>Mb w1);have T5:=I (fun(w1:World)=>Kf w1);go_enter Tryz.func5,Tryz.ntmps5
 go_upto_region 2 with(first
  |(go_at_call 15;refine Calls.mono (C1.o _) ?_;rintro e w1 ⟨r,rfl,eD,eg,E⟩;clear C1;have HR:=I eg;have J:=I E;clear eg E)
  |fail)
 obtain⟨W2,cw⟩:=Ak (w1.alloc (.cells #[.slice none 0 0] 62));have E:Below w1.heap.size w1 W2:=cw▸Ah.alloc Ag _;have cQ:=J.o.size;have N:=I (show Sc false W2 w.heap.size r (.slice none 0 0) [] w1.heap.size (.slice none 0 0) 0 (fun _=>False) from⟨HR.o.below E,Vl (cw▸Blk.new w1 _ _) cQ,rfl,(fun j e he=>by simp at he),(fun k hk x=>by
  rcases hk with hk | hk
  ·have:=HR.o.own_lt x;omega
  ·simp [Value.ownBlock] at hk),fun k hk=>hk.elim⟩)
 replace J:=I (J.o.trans (E.mono cQ));rw[<-cw];clear cw E cQ HR eD;obtain⟨q,eq⟩:=Ak (w1.heap.size);rw[<-eq] at N⊢;clear eq
 go_upto_region 9 with(first
  |(go_at_call 7;refine Aj (T1.o _) ?_;rintro eQ E;clear T1;replace N:=I (N.o.below E);replace J:=J.t E;clear E)
  |(go_at_call 7;refine Aj (T2.o _) ?_;rintro eP E;clear T2;replace N:=I (N.o.below E);replace J:=J.t E;clear E)
  |(go_at_call 7;refine Aj (T3.o _) ?_;rintro eN E;clear T3;replace N:=I (N.o.below E);replace J:=J.t E;clear E)
  |(go_at_call 9;refine Aj (T4.o _) ?_;rintro eM E;clear T4;replace N:=I (N.o.below E);replace J:=J.t E;clear E)
  |(go_at_call 11;refine Aj (T5.o _) ?_;rintro cj E;clear T5;replace N:=I (N.o.below E);replace J:=J.t E;clear E)
  |fail)
 obtain⟨W3,cx⟩:=Ak (cj.alloc (.cells #[.string ⟨(kr rA rA).1.toArray⟩,.string ⟨(kr rA rA).2.toArray⟩,.string ⟨(kr rA rE).1.toArray⟩,.string ⟨(kr rA rE).2.toArray⟩,.string ⟨(kr rE rA).1.toArray⟩,.string ⟨(kr rE rA).2.toArray⟩,.string ⟨(pAnn).1.toArray⟩,.string ⟨(pAnn).2.toArray⟩,.string ⟨(Cy).1.toArray⟩,.string ⟨(Cy).2.toArray⟩] 23));have E:Below cj.heap.size cj W3:=cx▸Ah.alloc Ag _;have M:=I (show Blk W3 cj.heap.size 23 #[.string ⟨(kr rA rA).1.toArray⟩,.string ⟨(kr rA rA).2.toArray⟩,.string ⟨(kr rA rE).1.toArray⟩,.string ⟨(kr rA rE).2.toArray⟩,.string ⟨(kr rE rA).1.toArray⟩,.string ⟨(kr rE rA).2.toArray⟩,.string ⟨(pAnn).1.toArray⟩,.string ⟨(pAnn).2.toArray⟩,.string ⟨(Cy).1.toArray⟩,.string ⟨(Cy).2.toArray⟩] from cx▸Blk.new cj _ _);have eb:=I J.o.size;obtain⟨Z,cP⟩:=Ak (cj.heap.size);have eo:=I (((N.o.below E).more (G2:=fun k=>k=Z) (fun k hk=>.inr ⟨by rw[hk,cP];exact M.o.lt,fun x=>by have:=N.o.c.own_lt x;omega,fun x=>by have:=N.o.d.own_lt x;omega⟩)));replace J:=J.t E;rw[<-cx];rw[<-cP] at M eb⊢;clear cx E cP N;have ez:=I (show Below w.heap.size w W3 from J.o);have O:=I (show ∀(j:Nat) (i:It) (w1:World),(itX false)[j]? = some i->Blk w1 Z 23 #[.string ⟨(kr rA rA).1.toArray⟩,.string ⟨(kr rA rA).2.toArray⟩,.string ⟨(kr rA rE).1.toArray⟩,.string ⟨(kr rA rE).2.toArray⟩,.string ⟨(kr rE rA).1.toArray⟩,.string ⟨(kr rE rA).2.toArray⟩,.string ⟨(pAnn).1.toArray⟩,.string ⟨(pAnn).2.toArray⟩,.string ⟨(Cy).1.toArray⟩,.string ⟨(Cy).2.toArray⟩]->w1.cell? ⟨Z,j*2,none⟩=some (.string ⟨i.p.1.toArray⟩)/\w1.cell? ⟨Z,j*2+1,none⟩=some (.string ⟨i.p.2.toArray⟩) by
  intro j i w1 hi h1
  match j,hi with
  |0,hi=>injection hi with hi;subst hi;exact⟨h1.cell 0,h1.cell 1⟩
  |1,hi=>injection hi with hi;subst hi;exact⟨h1.cell 2,h1.cell 3⟩
  |2,hi=>injection hi with hi;subst hi;exact⟨h1.cell 4,h1.cell 5⟩
  |3,hi=>injection hi with hi;subst hi;exact⟨h1.cell 6,h1.cell 7⟩
  |4,hi=>injection hi with hi;subst hi;exact⟨h1.cell 8,h1.cell 9⟩
  |j+5,hi=>simp [itX,itA] at hi)
 obtain⟨cL,ea⟩:∃z:Array Value,z=#[.string ⟨(kr rA rA).1.toArray⟩,.string ⟨(kr rA rA).2.toArray⟩,.string ⟨(kr rA rE).1.toArray⟩,.string ⟨(kr rA rE).2.toArray⟩,.string ⟨(kr rE rA).1.toArray⟩,.string ⟨(kr rE rA).2.toArray⟩,.string ⟨(pAnn).1.toArray⟩,.string ⟨(pAnn).2.toArray⟩,.string ⟨(Cy).1.toArray⟩,.string ⟨(Cy).2.toArray⟩]:=⟨_,rfl⟩;rw[<-ea] at M;simp only[<-ea] at O;clear ea
 go_wp2
 go_loopw [7] (fun iv wr=>∃(j:Nat) (v dv:Value) (es:List Ent),j<=5/\iv=.int .i64 (j:Int)/\Sc false wr w.heap.size r v es q dv j (fun k=>k=Z)/\Blk wr Z 23 cL/\Below w.heap.size w wr) (fun iv _=>5 - (intOf iv).toNat)
 case atStart=>exact⟨0,_,_,_,Nat.zero_le _,rfl,eo.o,M.o,J.o⟩
 case round=>
  obtain⟨j,v,dv,es,hj,rfl,hs,hl,E⟩:=hrel;have N:=I hs;replace M:=I hl;replace J:=I E;clear hs hl E eo ez
  by_cases hlt:j<5
  ·have e1:(j:Int)<5:=by omega
   have e2:(0:Int)<=(j:Int):=by omega
   obtain⟨i,hi⟩:∃i,(itX false)[j]? = some i:=⟨_,List.getElem?_eq_getElem (show j<itA.length from hlt)⟩;have e3:=Xx (show j<5 by omega);have cg:=aY _ hi;have CK:=I (fun w1=>Vh (UInt8.ofNat (10+j)) w1);have TG:=I (fun(w1:World)=>OZ rA rE (by decide) w1);obtain⟨cK,bz⟩:=Ak (AY (kq (UInt8.ofNat (10+j))));rw[<-bz] at CK;have cA:=I (show cK.size=32 by rw[bz];exact DB _);have cB:=I (show cK.all (·.oneCell')=true by rw[bz,<-Qa];exact Hh (Br _));have cf:=I (show(Tryz.prog.info? 36).map (·.size)=some cK.size by rw[bz];exact Gm _);have cR:=I bz;obtain⟨nK,ei⟩:=Ak (((UInt8.ofNat (10+j)).toNat:Int));rw[<-ei] at CK e3;clear bz ei
   go_upto_region 13 with(first
    |(go_at_call 8;refine Aj (CK.o _) ?_;rintro wk E;clear CK;replace N:=I (N.o.below E);replace M:=I (M.o.below E);replace J:=J.t E;clear E)
    |(refine Wh.By (by rfl) 36 (.tmp 8) (.tmp 41) (by rfl) 36 rfl cK (by rfl) (by rfl) (by rw[cA.o];rfl) cf.o cB.o ?_;rintro V hV E;have HK:=I hV;have cy:=I (show Z<wk.heap.size from M.o.lt);have HG:=I (show ∀k,(k=Z\/k=wk.heap.size)->k=Z\/(k<V.heap.size/\¬RO r v es k/\¬DO q dv k) from(fun k hk=>hk.elim .inl (fun e=>.inr ⟨by rw[e];exact hV.lt,fun x=>by have:=N.o.c.own_lt x;omega,fun x=>by have:=N.o.d.own_lt x;omega⟩)));replace N:=I (N.o.below E);replace M:=I (M.o.below E);replace J:=J.t E;clear E hV)
    |fail)
   obtain⟨PK,et⟩:=Ak (wk.heap.size);rw[<-et] at HK cy HG⊢;clear et;replace N:=I (N.o.more HG.o);clear HG;have F:Below V.heap.size V V.drew:=below_drewN Ah 1;replace N:=I (N.o.below F);replace M:=I (M.o.below F);replace HK:=I (HK.o.below F);replace J:=J.t F;clear F
   by_cases hne:i.p=kr rA rE
   ·have q1:=Rg.AQ hne
    have aw:=I (cg.1 hne);clear cg hne cR;obtain⟨c9,ck⟩:=Ak (AY i.k);have C9:=I (show ∀w1:World,Calls Tryz.prog 8 #[.int .u8 99] w1 fun e w'=>e=.returned (.agg c9)/\Below w1.heap.size w1 w' by intro w1;rw[ck,aw.o];exact Vh 99 w1);have ed:=I (show cK.size=c9.size by rw[cA.o,ck];exact(DB _).symm);have ct:=I (show c9.all (·.oneCell')=true by rw[ck,aw.o,<-Qa];exact Hh (Br _));have cu:=I (show(Tryz.prog.info? 36).map (·.size)=some c9.size by rw[ck];exact Gm _);clear aw;have aw:=I ck;clear ck
    go_region_held3 (fun w'=>w'.cell? ⟨Z,j*2,none⟩=some (.string ⟨i.p.1.toArray⟩)/\w'.cell? ⟨Z,j*2+1,none⟩=some (.string ⟨i.p.2.toArray⟩)) (exact O.o j i _ hi M.o) ((go_at_call 7;refine Aj (TG.o _) ?_;rintro wg E;clear TG;replace N:=I (N.o.below E);replace M:=I (M.o.below E);replace HK:=I (HK.o.below E);replace J:=J.t E;clear E))
    clear q1
    go_upto_region 15 with(first
     |(go_at_call 8;refine Aj (C9.o _) ?_;rintro w9 E;clear C9;replace N:=I (N.o.below E);replace M:=I (M.o.below E);replace HK:=I (HK.o.below E);replace J:=J.t E;clear E)
     |(refine Wh.Bo (by rfl) 36 (.tmp 8) (.tmp 48) (by rfl) PK 36 _ HK.o c9 (by rfl) (by rfl) ed.o cu.o ct.o ?_;rintro V9 hV hg;replace N:=I (N.o.put (.inr rfl) hg);replace M:=I (M.o.grown hg (fun e=>by injection e with e;have:=cy.o;omega));replace J:=I (J.o.grown hg J.o.size (fun k hk=>by injection hk with hk;have:=cy.o;have:=eb.o;omega));replace HK:=I hV;clear hV hg)
     |fail)
    clear cA cB cf ed;obtain⟨cK,bz⟩:=Ak (c9);rw[<-bz] at HK aw ct cu;have cB:=ct;have cf:=cu;clear ct cu;clear bz;have F:Below V9.heap.size V9 V9.drew:=below_drewN Ah 1;replace N:=I (N.o.below F);replace M:=I (M.o.below F);replace HK:=I (HK.o.below F);replace J:=J.t F;clear F;have D:=I (show(V9.drew.cell? ⟨Z,j*2,none⟩=some (.string ⟨i.p.1.toArray⟩)/\V9.drew.cell? ⟨Z,j*2+1,none⟩=some (.string ⟨i.p.2.toArray⟩)/\Blk V9.drew PK 36 cK) from⟨(O.o j i _ hi M.o).1,(O.o j i _ hi M.o).2,HK.o⟩);refine Reg.AR (fun w'=>w'.cell? ⟨Z,j*2,none⟩=some (.string ⟨i.p.1.toArray⟩)/\w'.cell? ⟨Z,j*2+1,none⟩=some (.string ⟨i.p.2.toArray⟩)/\Blk w' PK 36 cK) 12 rfl (by kernel_rfl) D.o ?_;refine Reg.ty 0 rfl D.o ?_;refine Reg.ty 1 rfl D.o ?_;refine Reg.ty 2 rfl D.o ?_;refine Reg.ty 3 rfl D.o ?_;refine Reg.tw 4 rfl D.o (fun w' hS=>by have k0:=hS.1;have k1:=hS.2.1;go_simp<;>rfl) ?_;refine Reg.tw 5 (v:=.agg cK) rfl D.o (fun w' hS=>by exact Wh.Ar (.tmp 8) rfl rfl hS.2.2 Tryz.underlying36 rfl cf.o) ?_;refine Reg.b1 6 ?_
    right
    refine⟨_,_,_,_,_,_,16,#[.pointer (some ⟨r,0,none⟩),prV i.p,.agg cK],rfl,by rfl,by go_simp,?_⟩;refine Calls.mono (UD N.o J.o.size hi aw.o) ?_;rintro e wc ⟨⟨nn,rfl⟩,v2,eF,c1,c2,c3,c4,c5,c6,c7,E⟩;replace M:=I (DW M.o (c7 Z (.inl rfl)));replace HK:=I (DW HK.o (c7 PK (.inr rfl)));replace J:=I (J.o.trans E);have bx:=I c1;have bB:=I c2;have cr:=I c3;have cq:=I c4;have cm:=I c5;have cd:=I c6;clear c1 c2 c3 c4 c5 c6 c7 E N;replace D:=I (show(wc.cell? ⟨Z,j*2,none⟩=some (.string ⟨i.p.1.toArray⟩)/\wc.cell? ⟨Z,j*2+1,none⟩=some (.string ⟨i.p.2.toArray⟩)/\Blk wc PK 36 cK) from⟨(O.o j i _ hi M.o).1,(O.o j i _ hi M.o).2,HK.o⟩);refine⟨_,rfl,D.o,?_⟩;simp only[Act.put,U,Aa,Ab];refine Reg.ty 7 rfl D.o ?_;refine Reg.ty 8 rfl D.o ?_;refine Reg.ty 9 rfl D.o ?_;refine Reg.ty 10 rfl D.o ?_;refine Reg.ty 11 rfl D.o ?_;refine wpAnyH_done (by kernel_rfl) ?_ _;clear D
    go_upto_region 16 with fail
    have F:Below wc.heap.size wc wc.drew:=below_drewN Ah 1;have cb:=I (fun k hk=>(⟨Nat.lt_of_lt_of_le (cd.o k hk).1 F.size,(cd.o k hk).2⟩:k<wc.drew.heap.size/\_));replace bx:=I (bx.o.below F);replace bB:=I (bB.o.below F);replace M:=I (M.o.below F);replace HK:=I (HK.o.below F);replace J:=J.t F;clear F cd;have D:=I (show(wc.drew.cell? ⟨Z,j*2,none⟩=some (.string ⟨i.p.1.toArray⟩)/\wc.drew.cell? ⟨Z,j*2+1,none⟩=some (.string ⟨i.p.2.toArray⟩)/\Blk wc.drew PK 36 cK) from⟨(O.o j i _ hi M.o).1,(O.o j i _ hi M.o).2,HK.o⟩);refine Reg.AR (fun w'=>w'.cell? ⟨Z,j*2,none⟩=some (.string ⟨i.p.1.toArray⟩)/\w'.cell? ⟨Z,j*2+1,none⟩=some (.string ⟨i.p.2.toArray⟩)/\Blk w' PK 36 cK) 7 rfl (by kernel_rfl) D.o ?_;refine Reg.ty 0 rfl D.o ?_;refine Reg.ty 1 rfl D.o ?_;refine Reg.ty 2 rfl D.o ?_;refine Reg.ty 3 rfl D.o ?_;refine Reg.tw 4 rfl D.o (fun w' hS=>by have k0:=hS.1;have k1:=hS.2.1;go_simp<;>rfl) ?_;refine Reg.tw 5 (v:=.agg cK) rfl D.o (fun w' hS=>by exact Wh.Ar (.tmp 8) rfl rfl hS.2.2 Tryz.underlying36 rfl cf.o) ?_;refine Reg.b1 6 ?_
    right
    refine⟨_,_,_,_,_,_,17,#[.pointer (some ⟨q,0,none⟩),prV i.p,.agg cK],rfl,by rfl,by go_simp,?_⟩;refine Calls.mono (Yx bx.o bB.o cr.o cq.o cm.o cb.o J.o.size hi aw.o) ?_;rintro e wd ⟨⟨nd,rfl⟩,eB,cn,c7,E⟩;replace M:=I (DW M.o (c7 Z (.inl rfl)));replace HK:=I (DW HK.o (c7 PK (.inr rfl)));replace J:=I (J.o.trans E);have N:=I cn;clear c7 E cn bx bB cr cq cm cb;replace D:=I (show(wd.cell? ⟨Z,j*2,none⟩=some (.string ⟨i.p.1.toArray⟩)/\wd.cell? ⟨Z,j*2+1,none⟩=some (.string ⟨i.p.2.toArray⟩)/\Blk wd PK 36 cK) from⟨(O.o j i _ hi M.o).1,(O.o j i _ hi M.o).2,HK.o⟩);refine⟨_,rfl,D.o,?_⟩;simp only[Act.put,U,Aa,Ab];refine wpAnyH_done (by kernel_rfl) ?_ _;clear D O
    go_wp2<;>skip
    go_roundw
    case rel=>exact⟨j+1,_,_,_,by omega,by go_num,N.o.more (fun k hk=>.inl (.inl hk)),M.o,J.o⟩
    case measure=>simp [intOf];omega
   ·have q1:=Rg.Bd hne
    have aw:=I (show cK=AY i.k by rw[cg.2 hne];exact cR.o);clear cg hne cR
    go_region_held3 (fun w'=>w'.cell? ⟨Z,j*2,none⟩=some (.string ⟨i.p.1.toArray⟩)/\w'.cell? ⟨Z,j*2+1,none⟩=some (.string ⟨i.p.2.toArray⟩)) (exact O.o j i _ hi M.o) ((go_at_call 7;refine Aj (TG.o _) ?_;rintro wg E;clear TG;replace N:=I (N.o.below E);replace M:=I (M.o.below E);replace HK:=I (HK.o.below E);replace J:=J.t E;clear E))
    clear q1
    go_upto_region 15 with fail
    have F:Below wg.heap.size wg wg.drew:=below_drewN Ah 1;replace N:=I (N.o.below F);replace M:=I (M.o.below F);replace HK:=I (HK.o.below F);replace J:=J.t F;clear F;have D:=I (show(wg.drew.cell? ⟨Z,j*2,none⟩=some (.string ⟨i.p.1.toArray⟩)/\wg.drew.cell? ⟨Z,j*2+1,none⟩=some (.string ⟨i.p.2.toArray⟩)/\Blk wg.drew PK 36 cK) from⟨(O.o j i _ hi M.o).1,(O.o j i _ hi M.o).2,HK.o⟩);refine Reg.AR (fun w'=>w'.cell? ⟨Z,j*2,none⟩=some (.string ⟨i.p.1.toArray⟩)/\w'.cell? ⟨Z,j*2+1,none⟩=some (.string ⟨i.p.2.toArray⟩)/\Blk w' PK 36 cK) 12 rfl (by kernel_rfl) D.o ?_;refine Reg.ty 0 rfl D.o ?_;refine Reg.ty 1 rfl D.o ?_;refine Reg.ty 2 rfl D.o ?_;refine Reg.ty 3 rfl D.o ?_;refine Reg.tw 4 rfl D.o (fun w' hS=>by have k0:=hS.1;have k1:=hS.2.1;go_simp<;>rfl) ?_;refine Reg.tw 5 (v:=.agg cK) rfl D.o (fun w' hS=>by exact Wh.Ar (.tmp 8) rfl rfl hS.2.2 Tryz.underlying36 rfl cf.o) ?_;refine Reg.b1 6 ?_
    right
    refine⟨_,_,_,_,_,_,16,#[.pointer (some ⟨r,0,none⟩),prV i.p,.agg cK],rfl,by rfl,by go_simp,?_⟩;refine Calls.mono (UD N.o J.o.size hi aw.o) ?_;rintro e wc ⟨⟨nn,rfl⟩,v2,eF,c1,c2,c3,c4,c5,c6,c7,E⟩;replace M:=I (DW M.o (c7 Z (.inl rfl)));replace HK:=I (DW HK.o (c7 PK (.inr rfl)));replace J:=I (J.o.trans E);have bx:=I c1;have bB:=I c2;have cr:=I c3;have cq:=I c4;have cm:=I c5;have cd:=I c6;clear c1 c2 c3 c4 c5 c6 c7 E N;replace D:=I (show(wc.cell? ⟨Z,j*2,none⟩=some (.string ⟨i.p.1.toArray⟩)/\wc.cell? ⟨Z,j*2+1,none⟩=some (.string ⟨i.p.2.toArray⟩)/\Blk wc PK 36 cK) from⟨(O.o j i _ hi M.o).1,(O.o j i _ hi M.o).2,HK.o⟩);refine⟨_,rfl,D.o,?_⟩;simp only[Act.put,U,Aa,Ab];refine Reg.ty 7 rfl D.o ?_;refine Reg.ty 8 rfl D.o ?_;refine Reg.ty 9 rfl D.o ?_;refine Reg.ty 10 rfl D.o ?_;refine Reg.ty 11 rfl D.o ?_;refine wpAnyH_done (by kernel_rfl) ?_ _;clear D
    go_upto_region 16 with fail
    have F:Below wc.heap.size wc wc.drew:=below_drewN Ah 1;have cb:=I (fun k hk=>(⟨Nat.lt_of_lt_of_le (cd.o k hk).1 F.size,(cd.o k hk).2⟩:k<wc.drew.heap.size/\_));replace bx:=I (bx.o.below F);replace bB:=I (bB.o.below F);replace M:=I (M.o.below F);replace HK:=I (HK.o.below F);replace J:=J.t F;clear F cd;have D:=I (show(wc.drew.cell? ⟨Z,j*2,none⟩=some (.string ⟨i.p.1.toArray⟩)/\wc.drew.cell? ⟨Z,j*2+1,none⟩=some (.string ⟨i.p.2.toArray⟩)/\Blk wc.drew PK 36 cK) from⟨(O.o j i _ hi M.o).1,(O.o j i _ hi M.o).2,HK.o⟩);refine Reg.AR (fun w'=>w'.cell? ⟨Z,j*2,none⟩=some (.string ⟨i.p.1.toArray⟩)/\w'.cell? ⟨Z,j*2+1,none⟩=some (.string ⟨i.p.2.toArray⟩)/\Blk w' PK 36 cK) 7 rfl (by kernel_rfl) D.o ?_;refine Reg.ty 0 rfl D.o ?_;refine Reg.ty 1 rfl D.o ?_;refine Reg.ty 2 rfl D.o ?_;refine Reg.ty 3 rfl D.o ?_;refine Reg.tw 4 rfl D.o (fun w' hS=>by have k0:=hS.1;have k1:=hS.2.1;go_simp<;>rfl) ?_;refine Reg.tw 5 (v:=.agg cK) rfl D.o (fun w' hS=>by exact Wh.Ar (.tmp 8) rfl rfl hS.2.2 Tryz.underlying36 rfl cf.o) ?_;refine Reg.b1 6 ?_
    right
    refine⟨_,_,_,_,_,_,17,#[.pointer (some ⟨q,0,none⟩),prV i.p,.agg cK],rfl,by rfl,by go_simp,?_⟩;refine Calls.mono (Yx bx.o bB.o cr.o cq.o cm.o cb.o J.o.size hi aw.o) ?_;rintro e wd ⟨⟨nd,rfl⟩,eB,cn,c7,E⟩;replace M:=I (DW M.o (c7 Z (.inl rfl)));replace HK:=I (DW HK.o (c7 PK (.inr rfl)));replace J:=I (J.o.trans E);have N:=I cn;clear c7 E cn bx bB cr cq cm cb;replace D:=I (show(wd.cell? ⟨Z,j*2,none⟩=some (.string ⟨i.p.1.toArray⟩)/\wd.cell? ⟨Z,j*2+1,none⟩=some (.string ⟨i.p.2.toArray⟩)/\Blk wd PK 36 cK) from⟨(O.o j i _ hi M.o).1,(O.o j i _ hi M.o).2,HK.o⟩);refine⟨_,rfl,D.o,?_⟩;simp only[Act.put,U,Aa,Ab];refine wpAnyH_done (by kernel_rfl) ?_ _;clear D O
    go_wp2<;>skip
    go_roundw
    case rel=>exact⟨j+1,_,_,_,by omega,by go_num,N.o.more (fun k hk=>.inl (.inl hk)),M.o,J.o⟩
    case measure=>simp [intOf];omega
  ·have ew:j=5:=by omega
   subst ew;clear hlt hj O M eb;have TR:=I (fun(w1:World)=>YG w1);have ev:=I (fun(w1:World)=>YG w1);have N1:=I (fun(w1:World) (v1 v2:Value) (K:Nat->Prop) (hK:∀b,K b->b<w1.heap.size) (ht:TpK K w1 v1 v2 (.slice none 0 0) tT) (hr:Ring w1 w.heap.size r v es) (hB:w.heap.size<=w1.heap.size)=>new_a (R:=rA) ao rfl tT_kt dq (by decide) (ht.r.slv hK) (ht.k.slp hK) (by decide) hr hB);have N2:=I (fun(w1:World) (v1 v2:Value) (lo:Nat) (ht:TpK (fun b=>lo<=b/\b<w1.heap.size) w1 v1 v2 (.slice none 0 0) tT) (hlo:w.heap.size<=lo) (hr:DRing w1 w.heap.size q dv ((itX false).take 5)) (hB:w.heap.size<=w1.heap.size)=>fw (R:=rA) ao dq (by decide) ht hlo Ag hr hB);obtain⟨W0,eR⟩:=Ak (wr)
   go_upto_region 21 with(first
    |(go_at_call 19;refine Calls.mono (TR.o _) ?_;rintro e t1 ⟨a1,a2,rfl,ht,E⟩;have er:=I ht;have ca:=I E;clear ht E TR)
    |(go_at_call 18;refine Calls.mono (N1.o _ _ _ _ (fun b x=>x.2) er.o (N.o.c.below ca.o) (Nat.le_trans J.o.size ca.o.size)) ?_;rintro e t2 ⟨k,lo,hi,u1,u2,rfl,ek,ej,ec,E⟩;have eH:=I ec;have cc:=I E;have eJ:=I ek;have ey:=I ej;clear N1 er ec E ek ej)
    |(go_at_call 19;refine Calls.mono (ev.o _) ?_;rintro e t3 ⟨a3,a4,rfl,ht,E⟩;have ep:=I ht;have cp:=I E;clear ht E ev)
    |(go_at_call 20;refine Calls.mono (N2.o _ _ _ _ ep.o (Nat.le_trans J.o.size (Nat.le_trans ca.o.size cc.o.size)) (N.o.d.below (ca.o.trans ((cc.o.trans (cp.o.mono cc.o.size)).mono ca.o.size))) (Nat.le_trans J.o.size (Nat.le_trans ca.o.size (Nat.le_trans cc.o.size cp.o.size)))) ?_;rintro e t4 ⟨x,rfl,hx,ef,E⟩;have HX:=I hx;have eK:=I ef;have eu:=I E;clear N2 ep hx ef E)
    |fail)
   go_wp2
   go_ret;have eL:=J.o.trans ((ca.o.trans ((cc.o.trans ((cp.o.trans (eu.o.mono cp.o.size)).mono cc.o.size)).mono ca.o.size)).mono J.o.size);exact⟨_,⟨k,r,lo,hi,rA,tT,v,u1,u2,.slice none 0 0⟩,es,⟨x,q,t2.heap.size,t3.heap.size,rA,tT,dv,a3,a4,.slice none 0 0⟩,rfl,dM (a:=false) Ag N.o ca.o eJ.o ey.o eH.o cc.o cp.o HX.o rfl eK.o eu.o eL rfl rfl rfl rfl⟩
end Kd
namespace Kd
open Go.RowKit Af Se
open Rg (It Ent Ring RO DRing DO Ap its)
open Ms (Re As Tg pSm reC)
abbrev scC (k x:Nat):Array Value:=#[.pointer (some ⟨k,0,none⟩),.pointer (some ⟨x,0,none⟩)]
theorem sAnn:pSm pAnn:=⟨by decide,by decide⟩
theorem sMail:pSm Cy:=⟨by decide,by decide⟩
theorem sKrA:pSm (kr rA rA):=⟨by decide,by decide⟩
theorem fx:(asL rA itA 0 ⟨pAnn,kr rA rA,50,3⟩ 5 k1L).1=0/\(asL rA itA 0 ⟨pAnn,kr rA rA,50,3⟩ 5 k1L).2.t.k=1:=by decide +kernel
theorem fA:asL rA itA 2 ⟨Cy,pAnn,50,0⟩ 5 k1L=(6,Ms.re0):=by
 have h:(Ms.tmB 5&&Ms.asB ⟨Cy,pAnn,50,0⟩)=true:=by decide +kernel
 have D:Cy.1=rA/\hasL itA Cy=true:=by decide +kernel
 have E:¬(pAnn=kr rA rA/\hasL itA pAnn=true):=by decide +kernel
 unfold asL;rw[if_pos h,if_pos D,if_neg E]
theorem re_k {S:Nat->Prop} {w:World} {PT:Nat} {cs:Array Value} {x:Re} (D:Blk w PT 44 cs) (h:ReN S w cs x):w.cell? ⟨PT,4,none⟩=some (.int .i64 x.t.k):=by
 obtain⟨b,a,rfl,_,_⟩:=h;rw[D.cell];rfl
theorem XI (w:World):Calls Tryz.prog 12 #[] w fun e w'=>e=.returned (.bool true)/\Below w.heap.size w w':=by
 have C1:=I (Vm w);have T1:=I (fun(w1:World)=>Mb w1);have T2:=I (fun(w1:World)=>OZ rA rA (by decide) w1);have T3:=I (fun(w1:World)=>Kf w1);obtain⟨cr,eg⟩:=Ak (asA ⟨pAnn,kr rA rA,50,3⟩);obtain⟨cq,ea⟩:=Ak (asA ⟨Cy,pAnn,50,0⟩);obtain⟨cp,ec⟩:=Ak (keyA k1L);have ek:=I (LR pAnn (kr rA rA) 50 3);have ej:=I (Ve Cy pAnn 50);have ep:=I XF;rw[<-eg] at ek;rw[<-ea] at ej;rw[<-ec] at ep;obtain⟨r1,et⟩:=Ak (asL rA itA 0 ⟨pAnn,kr rA rA,50,3⟩ 5 k1L);have ei:=I (show r1.1=0/\r1.2.t.k=1 from et▸fx);have E1:=I eg;have E2:=I ea;have EK:=I ec;have ER:=I et;clear eg ea ec et;go_enter Tryz.func12,Tryz.ntmps12
 go_upto_region 4 with(first
  |(go_at_call 5;refine Calls.mono C1.o ?_;rintro e w1 ⟨g,p,es,d,rfl,hs⟩;clear C1;have HS:=I hs;clear hs)
  |fail)
 have cR:=I HS.o.ks;have D:=I (show Blk w1 g 50 (scC p.k d.x) from HS.o.blk);have bB:=I HS.o.gk;have cu:=I (show its es=itA from HS.o.e);have eu:=I (show p.R=rA from HS.o.R);have er:=I HS.o.b;clear HS;have eb:=I (fun(w2:World) (h:KS w2 w.heap.size p es none 0 0 0)=>YE E1.o EK.o eu.o cu.o ER.o.symm h (by omega) (by omega) (by omega) (by decide) (by decide) YF sAnn sKrA);have eo:=I (fun(w2:World) (eB:List Ent) (hi:its eB=itA) (h:KS w2 w.heap.size p eB none 2 1 4)=>YE E2.o EK.o eu.o hi fA h (by omega) (by omega) (by omega) (by decide) (by decide) YF sMail sAnn);have eD:=I cR.o;have ez:=I (show g<w1.heap.size from D.o.lt)
 go_cut [2,3] from 9 to 20 (fun rv ev wx=>∃(PT:Nat) (cs:Array Value) (cn:List Ent),rv=.pointer (some ⟨PT,0,none⟩)/\ev=.int .i64 r1.1/\Got w1 wx w.heap.size p es cn (0+2*cnt r1.1) (0+cnt r1.1) (0+4) PT cs r1.2)
 case first=>
  have ct:Below w1.heap.size w1 w1.drew:=below_drewN Ah 1;have F:=I (Kn.start cR.o ct);replace D:=I (D.o.below ct);clear ct;refine Reg.AR (fun w'=>Blk w' g 50 (scC p.k d.x)) 15 rfl (by kernel_rfl) D.o ?_;refine Reg.ty 0 rfl D.o ?_;refine Reg.ty 1 rfl D.o ?_;refine Reg.ty 2 rfl D.o ?_;refine Reg.tw 3 rfl D.o (fun w' hS=>by have k0:=Blk.cell hS 0;go_simp<;>rfl) ?_;refine Reg.tw 7 (v:=.agg cp) rfl D.o (fun w' hS=>by exact Rg.AP (by simp only[List.map_toArray,List.map_cons,List.map_nil];rfl) ep.o) ?_;refine Reg.b2 4 12 ?_ ?_
  ·right
   refine⟨_,_,_,_,_,_,9,#[],rfl,by rfl,(by go_simp<;>first | rfl | exact⟨rfl,rfl⟩),?_⟩;refine Aj (T1.o _) ?_;rintro cg N;replace D:=I (D.o.below N);replace F:=I (F.o.below N);clear N;refine⟨_,rfl,D.o,?_⟩;simp only[Act.put,U,Aa,Ab];refine Reg.b2 5 12 ?_ ?_
   ·right
    refine⟨_,_,_,_,_,_,7,#[.string ⟨rA.toArray⟩,.string ⟨rA.toArray⟩],rfl,by rfl,(by go_simp<;>first | rfl | exact⟨rfl,rfl⟩),?_⟩;refine Aj (T2.o _) ?_;rintro ck N;replace D:=I (D.o.below N);replace F:=I (F.o.below N);clear N;refine⟨_,rfl,D.o,?_⟩;simp only[Act.put,U,Aa,Ab];refine Reg.tw 6 (v:=.agg cr) rfl D.o (fun w' hS=>by exact Rg.AP (by simp only[List.map_toArray,List.map_cons,List.map_nil];rfl) ek.o) ?_;refine Reg.b2 8 12 ?_ ?_
    ·right
     refine⟨_,_,_,_,_,_,33,#[.pointer (some ⟨p.k,0,none⟩),.agg cr,.int .i64 5,.agg cp],rfl,by rfl,(by go_simp<;>first | rfl | exact⟨rfl,rfl⟩),?_⟩;refine Calls.mono (eb.o _ F.o.st) ?_;rintro e cj ⟨cs,cn,rfl,bx,hk⟩;have O:=I (Da bx);have E:=hk.blk D.o bB.o.no;replace bB:=I (hk.off bB.o D.o.lt);replace D:=I E;clear E;have bz:=I bx;have ed:=I F.o.size;replace F:=I (F.o.trans hk);clear hk bx;refine⟨_,rfl,D.o,?_⟩;simp only[Act.put,U,Aa,Ab];refine Reg.ty 9 rfl D.o ?_;refine Reg.ty 10 rfl D.o ?_;refine Reg.ty 11 rfl D.o ?_;refine Reg.b1 12 ?_
     left
     have N:Below cj.heap.size cj (cj.alloc (.cells reZ 44)):=Ah.alloc Ag _;have E:=Blk.new cj 44 reZ;have M:=I (show g≠cj.heap.size from Nat.ne_of_lt D.o.lt);have aw:=I (show w1.heap.size<=cj.heap.size from F.o.size);have J:=I (F.o.st.offs (Nat.le_refl cj.heap.size));refine⟨_,_,_,_,_,_,.pointer (some ⟨cj.heap.size,0,none⟩),cj.alloc (.cells reZ 44),rfl,by rfl,(by go_simp<;>rfl),(D.o.below N),?_⟩;simp only[Act.put,U,Aa,Ab];obtain⟨eW,cL⟩:=Ak (cj.alloc (.cells reZ 44));rw[<-cL] at N E⊢;clear cL;replace bz:=I (Vd bz.o ed.o Ag N);clear ed;have Z:=I E;clear E;replace D:=I (D.o.below N);replace F:=I (F.o.below N);clear N;obtain⟨PT,cc⟩:=Ak (cj.heap.size);rw[<-cc] at Z aw J M bz⊢;clear cc;refine Reg.AF 13 rfl (by kernel_rfl) (by rfl) PT 44 _ cs Z.o (by rfl) (by rfl) (by rw[O.o.1];rfl) (by rw[O.o.1];exact AM) O.o.2 ?_;intro fI hV hg;have cm:=I (FI F.o bz.o J.o aw.o hV hg);replace D:=I (D.o.grown hg (fun e=>by injection e with e;exact M.o e.symm));clear hV hg Z F bz J aw O;refine⟨D.o,?_⟩;simp only[Act.put,U,Aa,Ab];refine Reg.ty 14 rfl D.o ?_;refine wpAnyH_done (by kernel_rfl) ?_ _
     go_wp2_with fail
     go_meet
     exact⟨PT,_,_,rfl,rfl,cm.o⟩
    ·left
     have N:Below ck.heap.size ck (ck.alloc (.cells reZ 44)):=Ah.alloc Ag _;have E:=Blk.new ck 44 reZ;have M:=I (show g≠ck.heap.size from Nat.ne_of_lt D.o.lt);have aw:=I (show w1.heap.size<=ck.heap.size from F.o.size);have J:=I (F.o.st.offs (Nat.le_refl ck.heap.size));refine⟨_,_,_,_,_,_,.pointer (some ⟨ck.heap.size,0,none⟩),ck.alloc (.cells reZ 44),rfl,by rfl,(by go_simp<;>rfl),(D.o.below N),?_⟩;simp only[Act.put,U,Aa,Ab];obtain⟨fi,cw⟩:=Ak (ck.alloc (.cells reZ 44));rw[<-cw] at N E⊢;clear cw;have Z:=I E;clear E;replace D:=I (D.o.below N);replace F:=I (F.o.below N);clear N;obtain⟨PT,cc⟩:=Ak (ck.heap.size);rw[<-cc] at Z aw J M⊢;clear cc;refine Reg.b1 8 ?_
     right
     refine⟨_,_,_,_,_,_,33,#[.pointer (some ⟨p.k,0,none⟩),.agg cr,.int .i64 5,.agg cp],rfl,by rfl,(by go_simp<;>first | rfl | exact⟨rfl,rfl⟩),?_⟩;refine Calls.mono (eb.o _ F.o.st) ?_;rintro e fs ⟨cs,cn,rfl,bx,hk⟩;have O:=I (Da bx);have E:=hk.blk D.o bB.o.no;replace bB:=I (hk.off bB.o D.o.lt);replace D:=I E;clear E;have bz:=I (IG bx F.o.size Z.o.lt);have E:=hk.blk Z.o J.o.no;replace J:=I (hk.off J.o Z.o.lt);replace Z:=I E;clear E;replace F:=I (F.o.trans hk);clear hk bx;refine⟨_,rfl,D.o,?_⟩;simp only[Act.put,U,Aa,Ab];refine Reg.ty 9 rfl D.o ?_;refine Reg.ty 10 rfl D.o ?_;refine Reg.ty 11 rfl D.o ?_;refine Reg.AF 13 rfl (by kernel_rfl) (by rfl) PT 44 _ cs Z.o (by rfl) (by rfl) (by rw[O.o.1];rfl) (by rw[O.o.1];exact AM) O.o.2 ?_;intro fz hV hg;have cm:=I (FI F.o bz.o J.o aw.o hV hg);replace D:=I (D.o.grown hg (fun e=>by injection e with e;exact M.o e.symm));clear hV hg Z F bz J aw O;refine⟨D.o,?_⟩;simp only[Act.put,U,Aa,Ab];refine Reg.ty 14 rfl D.o ?_;refine wpAnyH_done (by kernel_rfl) ?_ _
     go_wp2_with fail
     go_meet
     exact⟨PT,_,_,rfl,rfl,cm.o⟩
   ·left
    have N:Below cg.heap.size cg (cg.alloc (.cells reZ 44)):=Ah.alloc Ag _;have E:=Blk.new cg 44 reZ;have M:=I (show g≠cg.heap.size from Nat.ne_of_lt D.o.lt);have aw:=I (show w1.heap.size<=cg.heap.size from F.o.size);have J:=I (F.o.st.offs (Nat.le_refl cg.heap.size));refine⟨_,_,_,_,_,_,.pointer (some ⟨cg.heap.size,0,none⟩),cg.alloc (.cells reZ 44),rfl,by rfl,(by go_simp<;>rfl),(D.o.below N),?_⟩;simp only[Act.put,U,Aa,Ab];obtain⟨eQ,cx⟩:=Ak (cg.alloc (.cells reZ 44));rw[<-cx] at N E⊢;clear cx;have Z:=I E;clear E;replace D:=I (D.o.below N);replace F:=I (F.o.below N);clear N;obtain⟨PT,cc⟩:=Ak (cg.heap.size);rw[<-cc] at Z aw J M⊢;clear cc;refine Reg.b1 5 ?_
    right
    refine⟨_,_,_,_,_,_,7,#[.string ⟨rA.toArray⟩,.string ⟨rA.toArray⟩],rfl,by rfl,(by go_simp<;>first | rfl | exact⟨rfl,rfl⟩),?_⟩;refine Aj (T2.o _) ?_;rintro eR N;replace D:=I (D.o.below N);replace F:=I (F.o.below N);replace Z:=I (Z.o.below N);clear N;refine⟨_,rfl,D.o,?_⟩;simp only[Act.put,U,Aa,Ab];refine Reg.tw 6 (v:=.agg cr) rfl D.o (fun w' hS=>by exact Rg.AP (by simp only[List.map_toArray,List.map_cons,List.map_nil];rfl) ek.o) ?_;refine Reg.b1 8 ?_
    right
    refine⟨_,_,_,_,_,_,33,#[.pointer (some ⟨p.k,0,none⟩),.agg cr,.int .i64 5,.agg cp],rfl,by rfl,(by go_simp<;>first | rfl | exact⟨rfl,rfl⟩),?_⟩;refine Calls.mono (eb.o _ F.o.st) ?_;rintro e eP ⟨cs,cn,rfl,bx,hk⟩;have O:=I (Da bx);have E:=hk.blk D.o bB.o.no;replace bB:=I (hk.off bB.o D.o.lt);replace D:=I E;clear E;have bz:=I (IG bx F.o.size Z.o.lt);have E:=hk.blk Z.o J.o.no;replace J:=I (hk.off J.o Z.o.lt);replace Z:=I E;clear E;replace F:=I (F.o.trans hk);clear hk bx;refine⟨_,rfl,D.o,?_⟩;simp only[Act.put,U,Aa,Ab];refine Reg.ty 9 rfl D.o ?_;refine Reg.ty 10 rfl D.o ?_;refine Reg.ty 11 rfl D.o ?_;refine Reg.AF 13 rfl (by kernel_rfl) (by rfl) PT 44 _ cs Z.o (by rfl) (by rfl) (by rw[O.o.1];rfl) (by rw[O.o.1];exact AM) O.o.2 ?_;intro fG hV hg;have cm:=I (FI F.o bz.o J.o aw.o hV hg);replace D:=I (D.o.grown hg (fun e=>by injection e with e;exact M.o e.symm));clear hV hg Z F bz J aw O;refine⟨D.o,?_⟩;simp only[Act.put,U,Aa,Ab];refine Reg.ty 14 rfl D.o ?_;refine wpAnyH_done (by kernel_rfl) ?_ _
    go_wp2_with fail
    go_meet
    exact⟨PT,_,_,rfl,rfl,cm.o⟩
  ·left
   have N:Below w1.drew.heap.size w1.drew (w1.drew.alloc (.cells reZ 44)):=Ah.alloc Ag _;have E:=Blk.new w1.drew 44 reZ;have M:=I (show g≠w1.drew.heap.size from Nat.ne_of_lt D.o.lt);have aw:=I (show w1.heap.size<=w1.drew.heap.size from F.o.size);have J:=I (F.o.st.offs (Nat.le_refl w1.drew.heap.size));refine⟨_,_,_,_,_,_,.pointer (some ⟨w1.drew.heap.size,0,none⟩),w1.drew.alloc (.cells reZ 44),rfl,by rfl,(by go_simp<;>rfl),(D.o.below N),?_⟩;simp only[Act.put,U,Aa,Ab];obtain⟨fv,cy⟩:=Ak (w1.drew.alloc (.cells reZ 44));rw[<-cy] at N E⊢;clear cy;have Z:=I E;clear E;replace D:=I (D.o.below N);replace F:=I (F.o.below N);clear N;obtain⟨PT,cc⟩:=Ak (w1.drew.heap.size);rw[<-cc] at Z aw J M⊢;clear cc;refine Reg.b1 4 ?_
   right
   refine⟨_,_,_,_,_,_,9,#[],rfl,by rfl,(by go_simp<;>first | rfl | exact⟨rfl,rfl⟩),?_⟩;refine Aj (T1.o _) ?_;rintro fb N;replace D:=I (D.o.below N);replace F:=I (F.o.below N);replace Z:=I (Z.o.below N);clear N;refine⟨_,rfl,D.o,?_⟩;simp only[Act.put,U,Aa,Ab];refine Reg.b1 5 ?_
   right
   refine⟨_,_,_,_,_,_,7,#[.string ⟨rA.toArray⟩,.string ⟨rA.toArray⟩],rfl,by rfl,(by go_simp<;>first | rfl | exact⟨rfl,rfl⟩),?_⟩;refine Aj (T2.o _) ?_;rintro eX N;replace D:=I (D.o.below N);replace F:=I (F.o.below N);replace Z:=I (Z.o.below N);clear N;refine⟨_,rfl,D.o,?_⟩;simp only[Act.put,U,Aa,Ab];refine Reg.tw 6 (v:=.agg cr) rfl D.o (fun w' hS=>by exact Rg.AP (by simp only[List.map_toArray,List.map_cons,List.map_nil];rfl) ek.o) ?_;refine Reg.b1 8 ?_
   right
   refine⟨_,_,_,_,_,_,33,#[.pointer (some ⟨p.k,0,none⟩),.agg cr,.int .i64 5,.agg cp],rfl,by rfl,(by go_simp<;>first | rfl | exact⟨rfl,rfl⟩),?_⟩;refine Calls.mono (eb.o _ F.o.st) ?_;rintro e eM ⟨cs,cn,rfl,bx,hk⟩;have O:=I (Da bx);have E:=hk.blk D.o bB.o.no;replace bB:=I (hk.off bB.o D.o.lt);replace D:=I E;clear E;have bz:=I (IG bx F.o.size Z.o.lt);have E:=hk.blk Z.o J.o.no;replace J:=I (hk.off J.o Z.o.lt);replace Z:=I E;clear E;replace F:=I (F.o.trans hk);clear hk bx;refine⟨_,rfl,D.o,?_⟩;simp only[Act.put,U,Aa,Ab];refine Reg.ty 9 rfl D.o ?_;refine Reg.ty 10 rfl D.o ?_;refine Reg.ty 11 rfl D.o ?_;refine Reg.AF 13 rfl (by kernel_rfl) (by rfl) PT 44 _ cs Z.o (by rfl) (by rfl) (by rw[O.o.1];rfl) (by rw[O.o.1];exact AM) O.o.2 ?_;intro fJ hV hg;have cm:=I (FI F.o bz.o J.o aw.o hV hg);replace D:=I (D.o.grown hg (fun e=>by injection e with e;exact M.o e.symm));clear hV hg Z F bz J aw O;refine⟨D.o,?_⟩;simp only[Act.put,U,Aa,Ab];refine Reg.ty 14 rfl D.o ?_;refine wpAnyH_done (by kernel_rfl) ?_ _
   go_wp2_with fail
   go_meet
   exact⟨PT,_,_,rfl,rfl,cm.o⟩
 case rest=>
  obtain⟨PT,cs,cn,rfl,rfl,cf⟩:=hcut;have aw:=I (show PT<wc.heap.size/\PT≠g from⟨cf.blk.lt,fun e=>by have:=D.o.lt;have:=cf.lo;omega⟩);have ef:=re_k cf.blk cf.re;have fy:=I cf.off;have ew:=I cf.blk;have fO:=I cf.re;rw[ei.o.2] at ef;replace ef:=I ef;replace cR:=I (show KS wc w.heap.size p cn none 2 1 4 by have:=cf.kn.st;rw[ei.o.1] at this;exact this);replace cu:=I ((LK cf.kn.eq).trans cu.o);replace er:=I (er.o.trans (cf.kn.base eD.o));replace D:=I (cf.kn.blk D.o bB.o.no);replace bB:=I (cf.kn.off bB.o ez.o);have eL:=I cR.o;have fM:=I (show g<wc.heap.size from D.o.lt);rw[ei.o.1];clear cf eb ei ER eD ez
  go_upto_region 5 with fail
  go_cut [4,5] from 21 to 32 (fun rv ev wx=>∃(PT:Nat) (cs:Array Value) (ey:List Ent),rv=.pointer (some ⟨PT,0,none⟩)/\ev=.int .i64 6/\Got wc wx w.heap.size p cn ey 2 1 8 PT cs Ms.re0)
  case first=>
   have ct:Below wc.heap.size wc wc.drew:=below_drewN Ah 1;have F:=I (Kn.start cR.o ct);replace D:=I (D.o.below ct);clear ct;refine Reg.AR (fun w'=>Blk w' g 50 (scC p.k d.x)) 15 rfl (by kernel_rfl) D.o ?_;refine Reg.ty 0 rfl D.o ?_;refine Reg.ty 1 rfl D.o ?_;refine Reg.ty 2 rfl D.o ?_;refine Reg.tw 3 rfl D.o (fun w' hS=>by have k0:=Blk.cell hS 0;go_simp<;>rfl) ?_;refine Reg.tw 7 (v:=.agg cp) rfl D.o (fun w' hS=>by exact Rg.AP (by simp only[List.map_toArray,List.map_cons,List.map_nil];rfl) ep.o) ?_;refine Reg.b2 4 12 ?_ ?_
   ·right
    refine⟨_,_,_,_,_,_,11,#[],rfl,by rfl,(by go_simp<;>first | rfl | exact⟨rfl,rfl⟩),?_⟩;refine Aj (T3.o _) ?_;rintro cb N;replace D:=I (D.o.below N);replace F:=I (F.o.below N);clear N;refine⟨_,rfl,D.o,?_⟩;simp only[Act.put,U,Aa,Ab];refine Reg.b2 5 12 ?_ ?_
    ·right
     refine⟨_,_,_,_,_,_,9,#[],rfl,by rfl,(by go_simp<;>first | rfl | exact⟨rfl,rfl⟩),?_⟩;refine Aj (T1.o _) ?_;rintro cd N;replace D:=I (D.o.below N);replace F:=I (F.o.below N);clear N;refine⟨_,rfl,D.o,?_⟩;simp only[Act.put,U,Aa,Ab];refine Reg.tw 6 (v:=.agg cq) rfl D.o (fun w' hS=>by exact Rg.AP (by simp only[List.map_toArray,List.map_cons,List.map_nil];rfl) ej.o) ?_;refine Reg.b2 8 12 ?_ ?_
     ·right
      refine⟨_,_,_,_,_,_,33,#[.pointer (some ⟨p.k,0,none⟩),.agg cq,.int .i64 5,.agg cp],rfl,by rfl,(by go_simp<;>first | rfl | exact⟨rfl,rfl⟩),?_⟩;refine Calls.mono (eo.o _ _ cu.o F.o.st) ?_;rintro e ca ⟨cs,cn,rfl,bx,hk⟩;have O:=I (Da bx);have E:=hk.blk D.o bB.o.no;replace bB:=I (hk.off bB.o D.o.lt);replace D:=I E;clear E;have bz:=I bx;have ed:=I F.o.size;replace F:=I (F.o.trans hk);clear hk bx;refine⟨_,rfl,D.o,?_⟩;simp only[Act.put,U,Aa,Ab];refine Reg.ty 9 rfl D.o ?_;refine Reg.ty 10 rfl D.o ?_;refine Reg.ty 11 rfl D.o ?_;refine Reg.b1 12 ?_
      left
      have N:Below ca.heap.size ca (ca.alloc (.cells reZ 44)):=Ah.alloc Ag _;have E:=Blk.new ca 44 reZ;have M:=I (show g≠ca.heap.size from Nat.ne_of_lt D.o.lt);have aw:=I (show wc.heap.size<=ca.heap.size from F.o.size);have J:=I (F.o.st.offs (Nat.le_refl ca.heap.size));refine⟨_,_,_,_,_,_,.pointer (some ⟨ca.heap.size,0,none⟩),ca.alloc (.cells reZ 44),rfl,by rfl,(by go_simp<;>rfl),(D.o.below N),?_⟩;simp only[Act.put,U,Aa,Ab];obtain⟨eS,cA⟩:=Ak (ca.alloc (.cells reZ 44));rw[<-cA] at N E⊢;clear cA;replace bz:=I (Vd bz.o ed.o Ag N);clear ed;have Z:=I E;clear E;replace D:=I (D.o.below N);replace F:=I (F.o.below N);clear N;obtain⟨PT,cc⟩:=Ak (ca.heap.size);rw[<-cc] at Z aw J M bz⊢;clear cc;refine Reg.AF 13 rfl (by kernel_rfl) (by rfl) PT 44 _ cs Z.o (by rfl) (by rfl) (by rw[O.o.1];rfl) (by rw[O.o.1];exact AM) O.o.2 ?_;intro fH hV hg;have cm:=I (FI F.o bz.o J.o aw.o hV hg);replace D:=I (D.o.grown hg (fun e=>by injection e with e;exact M.o e.symm));clear hV hg Z F bz J aw O;refine⟨D.o,?_⟩;simp only[Act.put,U,Aa,Ab];refine Reg.ty 14 rfl D.o ?_;refine wpAnyH_done (by kernel_rfl) ?_ _
      go_wp2_with fail
      go_meet
      exact⟨PT,_,_,rfl,rfl,cm.o⟩
     ·left
      have N:Below cd.heap.size cd (cd.alloc (.cells reZ 44)):=Ah.alloc Ag _;have E:=Blk.new cd 44 reZ;have M:=I (show g≠cd.heap.size from Nat.ne_of_lt D.o.lt);have aw:=I (show wc.heap.size<=cd.heap.size from F.o.size);have J:=I (F.o.st.offs (Nat.le_refl cd.heap.size));refine⟨_,_,_,_,_,_,.pointer (some ⟨cd.heap.size,0,none⟩),cd.alloc (.cells reZ 44),rfl,by rfl,(by go_simp<;>rfl),(D.o.below N),?_⟩;simp only[Act.put,U,Aa,Ab];obtain⟨eN,cP⟩:=Ak (cd.alloc (.cells reZ 44));rw[<-cP] at N E⊢;clear cP;have Z:=I E;clear E;replace D:=I (D.o.below N);replace F:=I (F.o.below N);clear N;obtain⟨PT,cc⟩:=Ak (cd.heap.size);rw[<-cc] at Z aw J M⊢;clear cc;refine Reg.b1 8 ?_
      right
      refine⟨_,_,_,_,_,_,33,#[.pointer (some ⟨p.k,0,none⟩),.agg cq,.int .i64 5,.agg cp],rfl,by rfl,(by go_simp<;>first | rfl | exact⟨rfl,rfl⟩),?_⟩;refine Calls.mono (eo.o _ _ cu.o F.o.st) ?_;rintro e fj ⟨cs,cn,rfl,bx,hk⟩;have O:=I (Da bx);have E:=hk.blk D.o bB.o.no;replace bB:=I (hk.off bB.o D.o.lt);replace D:=I E;clear E;have bz:=I (IG bx F.o.size Z.o.lt);have E:=hk.blk Z.o J.o.no;replace J:=I (hk.off J.o Z.o.lt);replace Z:=I E;clear E;replace F:=I (F.o.trans hk);clear hk bx;refine⟨_,rfl,D.o,?_⟩;simp only[Act.put,U,Aa,Ab];refine Reg.ty 9 rfl D.o ?_;refine Reg.ty 10 rfl D.o ?_;refine Reg.ty 11 rfl D.o ?_;refine Reg.AF 13 rfl (by kernel_rfl) (by rfl) PT 44 _ cs Z.o (by rfl) (by rfl) (by rw[O.o.1];rfl) (by rw[O.o.1];exact AM) O.o.2 ?_;intro fL hV hg;have cm:=I (FI F.o bz.o J.o aw.o hV hg);replace D:=I (D.o.grown hg (fun e=>by injection e with e;exact M.o e.symm));clear hV hg Z F bz J aw O;refine⟨D.o,?_⟩;simp only[Act.put,U,Aa,Ab];refine Reg.ty 14 rfl D.o ?_;refine wpAnyH_done (by kernel_rfl) ?_ _
      go_wp2_with fail
      go_meet
      exact⟨PT,_,_,rfl,rfl,cm.o⟩
    ·left
     have N:Below cb.heap.size cb (cb.alloc (.cells reZ 44)):=Ah.alloc Ag _;have E:=Blk.new cb 44 reZ;have M:=I (show g≠cb.heap.size from Nat.ne_of_lt D.o.lt);have aw:=I (show wc.heap.size<=cb.heap.size from F.o.size);have J:=I (F.o.st.offs (Nat.le_refl cb.heap.size));refine⟨_,_,_,_,_,_,.pointer (some ⟨cb.heap.size,0,none⟩),cb.alloc (.cells reZ 44),rfl,by rfl,(by go_simp<;>rfl),(D.o.below N),?_⟩;simp only[Act.put,U,Aa,Ab];obtain⟨eT,cQ⟩:=Ak (cb.alloc (.cells reZ 44));rw[<-cQ] at N E⊢;clear cQ;have Z:=I E;clear E;replace D:=I (D.o.below N);replace F:=I (F.o.below N);clear N;obtain⟨PT,cc⟩:=Ak (cb.heap.size);rw[<-cc] at Z aw J M⊢;clear cc;refine Reg.b1 5 ?_
     right
     refine⟨_,_,_,_,_,_,9,#[],rfl,by rfl,(by go_simp<;>first | rfl | exact⟨rfl,rfl⟩),?_⟩;refine Aj (T1.o _) ?_;rintro ff N;replace D:=I (D.o.below N);replace F:=I (F.o.below N);replace Z:=I (Z.o.below N);clear N;refine⟨_,rfl,D.o,?_⟩;simp only[Act.put,U,Aa,Ab];refine Reg.tw 6 (v:=.agg cq) rfl D.o (fun w' hS=>by exact Rg.AP (by simp only[List.map_toArray,List.map_cons,List.map_nil];rfl) ej.o) ?_;refine Reg.b1 8 ?_
     right
     refine⟨_,_,_,_,_,_,33,#[.pointer (some ⟨p.k,0,none⟩),.agg cq,.int .i64 5,.agg cp],rfl,by rfl,(by go_simp<;>first | rfl | exact⟨rfl,rfl⟩),?_⟩;refine Calls.mono (eo.o _ _ cu.o F.o.st) ?_;rintro e eV ⟨cs,cn,rfl,bx,hk⟩;have O:=I (Da bx);have E:=hk.blk D.o bB.o.no;replace bB:=I (hk.off bB.o D.o.lt);replace D:=I E;clear E;have bz:=I (IG bx F.o.size Z.o.lt);have E:=hk.blk Z.o J.o.no;replace J:=I (hk.off J.o Z.o.lt);replace Z:=I E;clear E;replace F:=I (F.o.trans hk);clear hk bx;refine⟨_,rfl,D.o,?_⟩;simp only[Act.put,U,Aa,Ab];refine Reg.ty 9 rfl D.o ?_;refine Reg.ty 10 rfl D.o ?_;refine Reg.ty 11 rfl D.o ?_;refine Reg.AF 13 rfl (by kernel_rfl) (by rfl) PT 44 _ cs Z.o (by rfl) (by rfl) (by rw[O.o.1];rfl) (by rw[O.o.1];exact AM) O.o.2 ?_;intro fF hV hg;have cm:=I (FI F.o bz.o J.o aw.o hV hg);replace D:=I (D.o.grown hg (fun e=>by injection e with e;exact M.o e.symm));clear hV hg Z F bz J aw O;refine⟨D.o,?_⟩;simp only[Act.put,U,Aa,Ab];refine Reg.ty 14 rfl D.o ?_;refine wpAnyH_done (by kernel_rfl) ?_ _
     go_wp2_with fail
     go_meet
     exact⟨PT,_,_,rfl,rfl,cm.o⟩
   ·left
    have N:Below wc.drew.heap.size wc.drew (wc.drew.alloc (.cells reZ 44)):=Ah.alloc Ag _;have E:=Blk.new wc.drew 44 reZ;have M:=I (show g≠wc.drew.heap.size from Nat.ne_of_lt D.o.lt);have aw:=I (show wc.heap.size<=wc.drew.heap.size from F.o.size);have J:=I (F.o.st.offs (Nat.le_refl wc.drew.heap.size));refine⟨_,_,_,_,_,_,.pointer (some ⟨wc.drew.heap.size,0,none⟩),wc.drew.alloc (.cells reZ 44),rfl,by rfl,(by go_simp<;>rfl),(D.o.below N),?_⟩;simp only[Act.put,U,Aa,Ab];obtain⟨fu,cB⟩:=Ak (wc.drew.alloc (.cells reZ 44));rw[<-cB] at N E⊢;clear cB;have Z:=I E;clear E;replace D:=I (D.o.below N);replace F:=I (F.o.below N);clear N;obtain⟨PT,cc⟩:=Ak (wc.drew.heap.size);rw[<-cc] at Z aw J M⊢;clear cc;refine Reg.b1 4 ?_
    right
    refine⟨_,_,_,_,_,_,11,#[],rfl,by rfl,(by go_simp<;>first | rfl | exact⟨rfl,rfl⟩),?_⟩;refine Aj (T3.o _) ?_;rintro eF N;replace D:=I (D.o.below N);replace F:=I (F.o.below N);replace Z:=I (Z.o.below N);clear N;refine⟨_,rfl,D.o,?_⟩;simp only[Act.put,U,Aa,Ab];refine Reg.b1 5 ?_
    right
    refine⟨_,_,_,_,_,_,9,#[],rfl,by rfl,(by go_simp<;>first | rfl | exact⟨rfl,rfl⟩),?_⟩;refine Aj (T1.o _) ?_;rintro eK N;replace D:=I (D.o.below N);replace F:=I (F.o.below N);replace Z:=I (Z.o.below N);clear N;refine⟨_,rfl,D.o,?_⟩;simp only[Act.put,U,Aa,Ab];refine Reg.tw 6 (v:=.agg cq) rfl D.o (fun w' hS=>by exact Rg.AP (by simp only[List.map_toArray,List.map_cons,List.map_nil];rfl) ej.o) ?_;refine Reg.b1 8 ?_
    right
    refine⟨_,_,_,_,_,_,33,#[.pointer (some ⟨p.k,0,none⟩),.agg cq,.int .i64 5,.agg cp],rfl,by rfl,(by go_simp<;>first | rfl | exact⟨rfl,rfl⟩),?_⟩;refine Calls.mono (eo.o _ _ cu.o F.o.st) ?_;rintro e eH ⟨cs,cn,rfl,bx,hk⟩;have O:=I (Da bx);have E:=hk.blk D.o bB.o.no;replace bB:=I (hk.off bB.o D.o.lt);replace D:=I E;clear E;have bz:=I (IG bx F.o.size Z.o.lt);have E:=hk.blk Z.o J.o.no;replace J:=I (hk.off J.o Z.o.lt);replace Z:=I E;clear E;replace F:=I (F.o.trans hk);clear hk bx;refine⟨_,rfl,D.o,?_⟩;simp only[Act.put,U,Aa,Ab];refine Reg.ty 9 rfl D.o ?_;refine Reg.ty 10 rfl D.o ?_;refine Reg.ty 11 rfl D.o ?_;refine Reg.AF 13 rfl (by kernel_rfl) (by rfl) PT 44 _ cs Z.o (by rfl) (by rfl) (by rw[O.o.1];rfl) (by rw[O.o.1];exact AM) O.o.2 ?_;intro fK hV hg;have cm:=I (FI F.o bz.o J.o aw.o hV hg);replace D:=I (D.o.grown hg (fun e=>by injection e with e;exact M.o e.symm));clear hV hg Z F bz J aw O;refine⟨D.o,?_⟩;simp only[Act.put,U,Aa,Ab];refine Reg.ty 14 rfl D.o ?_;refine wpAnyH_done (by kernel_rfl) ?_ _
    go_wp2_with fail
    go_meet
    exact⟨PT,_,_,rfl,rfl,cm.o⟩
  case rest=>
   obtain⟨fP,cq,ey,rfl,rfl,cf⟩:=hcut;have ht:=cf.kn.blk ew.o fy.o.no;replace ef:=(ht.cell 4).trans ((ew.o.cell 4).symm.trans ef.o);replace D:=I (cf.kn.blk D.o bB.o.no);have fN:=D.o.cell 0;have CI:=I (bk cf.kn.st.k (by omega));have eJ:=I (er.o.trans (cf.kn.base eL.o));clear cf ht
   go_wp2_with (first
    |(go_at_call 34;refine Aj CI.o ?_;rintro wi hw;clear CI;subst hw)
    |fail)
   go_ret;exact⟨rfl,eJ.o⟩
end Kd
namespace Kd
open Go.RowKit Af Se
open Rg (It Cv BA BH)
open Ms (Re As Tg Pt An Rp pSm reC ptO anO ptB anB rpB prB tmB tgB ptE anE rpE)
open SeL (Bn Bc)
open Nm (krb)
theorem Kh (q:Tg) (v1 v2:Value) (h:v1.oneCell'=true/\v2.oneCell'=true):(tgA q v1 v2).all (·.oneCell')=true:=by
 have e:(tgA q v1 v2).all (·.oneCell')=(v1.oneCell'&&v2.oneCell'):=by simp [tgA,Value.oneCell']
 rw[e,h.1,h.2];rfl
theorem DX {S:Nat->Prop} {w:World} {v:Value} {l:Nm.L} (h:SlN S w v l):v.oneCell'=true:=by
 obtain⟨A,c,rfl,_⟩:=h
 rfl
theorem bn (s t:Nm.L×Nm.L) (ks:Nat->UInt8) (p:Pt) (a:An) (u:Int) (hk:p.ss.length=32) (hp:ptB p=true) (D:anB a=true) :
  ∃x1 x2,reqQ s ks p a t u=⟨⟨s,1,x1⟩,x2,t,u,4⟩/\∀(w:World) (cK E F:Array Value),cK=AY ks->E=ptA p->F=anA a->Calls Tryz.prog 6 #[prV s,.agg cK,.agg E,.agg F,prV t,.int .i64 u] w fun e w'=>∃v1 v2,e=.returned (.tuple #[.agg (tgA ⟨⟨s,1,x1⟩,x2,t,u,4⟩ v1 v2),.bool true])/\SlN (fun j=>j<w.heap.size) w' v1 x1/\SlN (fun j=>j<w.heap.size) w' v2 x2/\Below w.heap.size w w':=by
 have l1:=LG hk hp;have l2:=LH D;have hs:=Hn hp;have J:pSm a.c:=by
  have O:prB a.c=true/\tmB a.t=true/\tmB a.q=true:=by simpa [anB] using D
  have:=Ms.Ft O.1;exact⟨by omega,by omega⟩
 refine⟨(Bn ks 2 77 (ptE p)).1,(Bn (ksOf p.ss) 7 78 (anE a)).1,?_,fun w cK E F N M eA=>?_⟩
 ·rw[reqQ,Gx hk hp,JS D];rfl
 ·exact fh s t u w hk hs.2.2.1 (by omega) J N M eA (Gx hk hp) (JS D) (by rw[He (by omega) (by omega) (by omega) (by omega) (by omega)]) (by rw[He (by omega) (by omega) (by omega) (by omega) (by omega)])
theorem bo {n:Nat} {now u st en:Int} {a:An} {t:Nm.L×Nm.L} {d:Nm.L} (h1:tmB st=true) (h2:tmB en=true) (M:anB a=true) (ht:prB t=true) (hu:tmB u=true) (hn:tmB now=true) :
  tgsL rA tT itA n (reqQ (kr rA rA) (kq 10) ⟨pAnn,kb 5,[],st,en⟩ a t u) now d =
   if en<now then (7,Ms.re0) else if now+5<st then (8,Ms.re0) else
   if a.c=pAnn then (if a.t<now - 5\/now+5<a.t then (8,Ms.re0) else
    if (tarL rA tT itA t).1=0 then (if u<now then (7,Ms.re0) else ansL itA n pAnn (tarL rA tT itA t).2 ⟨pAnn,d,[],now,min u en⟩ 4 (ksOf (kb 5)) 8) else ((tarL rA tT itA t).1,Ms.re0)) else (9,Ms.re0):=by
 have hk:(⟨pAnn,kb 5,[],st,en⟩:Pt).ss.length=32:=PZ 5;have hp:ptB ⟨pAnn,kb 5,[],st,en⟩=true:=by
  have:prB pAnn=true:=by decide +kernel
  simp [ptB,this,h1,h2,Ms.txtB]
 have Z:Cv itA (kr rA rA) 1=some 0:=by decide +kernel
 have hi:keyO itA (some 0)=kq 10:=rfl;have ho:=WW (R:=rA) (l:=itA) (t:=t) (a:=a) (u:=u) (now:=now) hk hp rfl Z hi;have O:=WX (s:=kr rA rA) (t:=t) (ks:=kq 10) (p:=⟨pAnn,kb 5,[],st,en⟩) (u:=u) (now:=now) (c:=pAnn) M;have hm:=an (s:=kr rA rA) (t:=t) (ks:=kq 10) (p:=⟨pAnn,kb 5,[],st,en⟩) (a:=a) (u:=u) hk hp M (by decide +kernel) ht hu;unfold tgsL;rw[if_pos (by rw[hn,hm];rfl),ho]
 by_cases g1:en<now
 ·rw[if_pos g1,if_pos g1];rfl
 ·rw[if_neg g1,if_neg g1]
  by_cases g2:now+5<st
  ·rw[if_pos g2,if_pos g2];rfl
  ·rw[if_neg g2,if_neg g2]
   simp only[O]
   by_cases g3:a.c=pAnn
   ·rw[if_pos g3,if_pos g3]
    by_cases g4:a.t<now - 5\/now+5<a.t
    ·rw[if_pos g4,if_pos g4];rfl
    ·rw[if_neg g4,if_neg g4]
     have N:(reqQ (kr rA rA) (kq 10) ⟨pAnn,kb 5,[],st,en⟩ a t u).s=t:=rfl;have J:(reqQ (kr rA rA) (kq 10) ⟨pAnn,kb 5,[],st,en⟩ a t u).u=u:=rfl;have E:(reqQ (kr rA rA) (kq 10) ⟨pAnn,kb 5,[],st,en⟩ a t u).no=4:=rfl;have D:(reqQ (kr rA rA) (kq 10) ⟨pAnn,kb 5,[],st,en⟩ a t u).t.s.1=rA:=rfl;have F:trsL rA ⟨pAnn,kb 5,[],st,en⟩ rA t=([],0):=by unfold trsL;rw[if_pos (.inl rfl)]
     rw[N,J,E,D,F]
     rfl
   ·rw[if_neg g3,if_neg g3];rfl
theorem fB {w:World} {B:Nat} {p:KP} {es:List Rg.Ent} {n i c g:Nat} (h:KS w B p es none n i c) (F:g<B):Off p es none g:=fun j D e=>by
 rcases D with D | ⟨z,E,_⟩
 ·have:=h.k.ka_lo D;omega
 ·cases E
theorem KR {S:Nat->Prop} {w:World} {cs:Array Value} {x:Re} {s:Nm.L×Nm.L} (h:ReN S w cs x) (e:x.t.s=s):cs[2]? = some (.string ⟨s.1.toArray⟩)/\cs[3]? = some (.string ⟨s.2.toArray⟩):=by
 subst e;obtain⟨b,a,rfl,_,_⟩:=h;exact⟨rfl,rfl⟩
theorem Cd {w:World} {g:Nat} {t:TypeId} {cs:Array Value} {u v:Value} (h:Blk w g t cs) (D:cs[2]? = some u/\cs[3]? = some v):w.cell? ⟨g,2,none⟩=some u/\w.cell? ⟨g,3,none⟩=some v:=⟨(h.cell 2).trans D.1,(h.cell 3).trans D.2⟩
end Kd
namespace Kd
open Go.RowKit Af Se
open Rg (It Ent Ring RO DRing DO Ap its)
open Ms (Re As Tg Pt An Rp pSm reC ptB anB prB tmB)
theorem XJ (p:Nm.L×Nm.L) (t:Int):Tryz.prog.built 42 [(0,prV p),(1,.int .i64 t)]=some (anA ⟨p,t,0⟩):=by kernel_rfl
end Kd
end Go.Proofs.YthgignaohimadaaGreat
