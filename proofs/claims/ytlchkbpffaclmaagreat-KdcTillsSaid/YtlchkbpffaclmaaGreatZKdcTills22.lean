import Derived.Test.YtlchkbpffaclmaaGreatZKdcTills21
set_option maxHeartbeats 25600000
set_option maxRecDepth 100000
set_option linter.unusedVariables false
set_option linter.unusedSimpArgs false
namespace Go.Proofs.YtlchkbpffaclmaaGreat
namespace Kd
open Go.RowKit Af Se
open Nm (strs BO)
open Rg (It Ent Ring RO its DRing DO)
open Rt (Tp Sm SlV SlP TpV isT)
section
variable {w:World} {B:Nat} {l:List It} {T:Tp} {R:Nm.L} {v1 v2 v:Value} {q lo hi:Nat}
theorem aD (hs:Sm T) (hT:isT T=true) (hR:R∈T.R) (ht:TpK (fun b=>lo<=b/\b<hi) w v1 v2 (.slice none 0 0) T) (hlo:B<=lo) (hhi:hi<=w.heap.size) (hd:DRing w B q v l) (hB:B<=w.heap.size) :
  Calls Tryz.prog 19 #[.string ⟨R.toArray⟩,.agg (tpA v1 v2),.pointer (some ⟨q,0,none⟩)] w fun e w'=>∃x,e=.returned (.tuple #[.pointer (some ⟨x,0,none⟩),.int .i64 0])/\w.heap.size<=x/\DK w' B ⟨x,q,lo,hi,R,T,v,v1,v2,.slice none 0 0⟩ l 0 0/\Below w.heap.size w w':=by
 obtain⟨A1,c1,A2,c2,rfl,rfl,_⟩:=ht.sizes;obtain⟨W,eW⟩:=Ak (w.alloc (.cells (tpA (.slice A1 T.R.length c1) (.slice A2 T.K.length c2)) 74));have hb:Below w.heap.size w W:=eW▸Ah.alloc Ag _;have htW:TpK (fun b=>lo<=b/\b<hi) W (.slice A1 T.R.length c1) (.slice A2 T.K.length c2) (.slice none 0 0) T:=ht.keep (fun b o hb2=>World.cell?_of_block (a:=⟨b,o,none⟩) (hb.block b (by have:=hb2.2;omega))) (fun _ x=>x);have HT:=I (show Blk W w.heap.size 74 (tpA (.slice A1 T.R.length c1) (.slice A2 T.K.length c2)) from eW▸Blk.new w _ _);have HB:=I hb;have CI:=I (Rt.Vs T _ hi W hs (htW.tpv (fun b x=>x.2)) (Nat.le_trans hhi hb.size));rw[hT] at CI;have CP:=I (fun(w1:World) (b1:Below w.heap.size w w1)=>Rt.Ed T.R A1 c1 hi R w1 (by have:=hs.r;omega) (by
  obtain⟨A,c,e,_,h⟩:=ht.r.slv (B:=hi) (fun b x=>x.2);injection e with e1 _ _;subst e1;exact h.below (b1.mono hhi)))
 have hix:¬Tr.ixL R T.R<0:=by
  rw[Tr.ixL,if_pos hR];omega
 have HTP:=I ht;have HDR:=I hd;have HLO:=I hlo;have HHI:=I hhi;have HBW:=I hB;obtain⟨n,en⟩:=Ak (T.R.length);obtain⟨m,em⟩:=Ak (T.K.length);obtain⟨ix,eix⟩:=Ak (Tr.ixL R T.R);rw[<-eix] at CP hix;rw[<-en] at CI CP HT eW HTP⊢;rw[<-em] at CI HT eW HTP⊢;clear hs hT hR ht hlo hhi hd hB hb htW en em eix;go_enter Tryz.func19,Tryz.ntmps19
 go_upto_region 1 with fail
 rw[<-eW];clear eW;have kq0:=HT.o.cell 0;have kq1:=HT.o.cell 1;have kq2:=HT.o.cell 2
 go_upto_region 3 with(first
  |(go_at_call 51;refine Aj CI.o ?_;rintro w2 hb;clear CI kq0 kq1 kq2;replace HT:=I (HT.o.below hb);replace HB:=HB.t hb;have kq0:=HT.o.cell 0;have kq1:=HT.o.cell 1;have kq2:=HT.o.cell 2;clear hb)
  |(go_at_call 52;refine Aj (CP.o _ HB.o) ?_;rintro w3 hw;clear CP;subst hw)
  |fail)
 go_wp2_with fail
 go_ret2
 have hsz:=HB.o.size;have hlo:=HLO.o;have hhi:=HHI.o;have hbw:=HBW.o;have hb2:Below w2.heap.size w2 (w2.alloc (.cells #[.string ⟨R.toArray⟩,.slice A1 n c1,.slice A2 m c2,.slice none 0 0,.pointer (some ⟨q,0,none⟩),.int .i64 0,.int .i64 0] 141)):=Ah.alloc Ag _;have hbc:=HB.o.trans (hb2.mono hsz);refine⟨w2.heap.size,rfl,hsz,⟨Blk.new _ _ _,HDR.o.below hbc,?_,?_,hlo,?_,?_,?_⟩,hbc⟩
 ·exact HTP.o.keep (fun b o hb=>World.cell?_of_block (a:=⟨b,o,none⟩) (hbc.block b (by have:=hb.2;omega))) (fun b hb=>hb)
 ·show B<=w2.heap.size;omega
 ·show hi<=_;have:=hbc.size;omega
 ·intro hx;have:=HDR.o.own_lt hx;simp only at this;omega
 ·intro hx;have:=hx.2;simp only at this;omega
end
end Kd
namespace Kd
open Go.RowKit Af Se
open Rg (It Ent Ring RO DRing DO Ap its OB)
theorem TB {w:World} {B q:Nat} (hq:Blk w q 62 #[.slice none 0 0]) (hB:B<=q):DRing w B q (.slice none 0 0) []:=
 ⟨hq,World.ownsRow_nil w B _ 35,hB,by simp [Value.ownBlock]⟩
theorem DJ {w w':World} {g:Nat} {t:TypeId} {cs:Array Value} (h:Blk w g t cs) (e:w'.heap[g]? = w.heap[g]?):Blk w' g t cs:=e.trans h
theorem TC (w:World):Calls Tryz.prog 4 #[.bool false] w fun e w'=>∃g p es d,e=.returned (.pointer (some ⟨g,0,none⟩))/\Scn false w w' g p es d:=by
 have C1:=I (fun(w1:World)=>OB w1.heap.size w1 Ag);have T1:=I (fun(w1:World)=>NH rA rA (by decide) w1);have T2:=I (fun(w1:World)=>NH rA rE (by decide) w1);have T3:=I (fun(w1:World)=>NH rE rA (by decide) w1);have T4:=I (fun(w1:World)=>Lh w1);have T5:=I (fun(w1:World)=>JC w1);go_enter Tryz.func4,Tryz.ntmps4
 go_upto_region 2 with(first
  |(go_at_call 14;refine Calls.mono (C1.o _) ?_;rintro e w1 ⟨r,rfl,hr1,hr2,hb⟩;clear C1;have HR:=I hr2;have HB:=I hb;clear hr2 hb)
  |fail)
 obtain⟨W2,eW2⟩:=Ak (w1.alloc (.cells #[.slice none 0 0] 62));have hb:Below w1.heap.size w1 W2:=eW2▸Ah.alloc Ag _;have hw1:=HB.o.size;have HS:=I (show Sc false W2 w.heap.size r (.slice none 0 0) [] w1.heap.size (.slice none 0 0) 0 (fun _=>False) from⟨HR.o.below hb,TB (eW2▸Blk.new w1 _ _) hw1,rfl,(fun j e he=>by simp at he),(fun k hk x=>by
  rcases hk with hk | hk
  ·have:=HR.o.own_lt x;omega
  ·simp [Value.ownBlock] at hk),fun k hk=>hk.elim⟩)
 replace HB:=I (HB.o.trans (hb.mono hw1));rw[<-eW2];clear eW2 hb hw1 HR hr1;obtain⟨q,eq⟩:=Ak (w1.heap.size);rw[<-eq] at HS⊢;clear eq
 go_upto_region 9 with(first
  |(go_at_call 6;refine Aj (T1.o _) ?_;rintro xT1 hb;clear T1;replace HS:=I (HS.o.below hb);replace HB:=HB.t hb;clear hb)
  |(go_at_call 6;refine Aj (T2.o _) ?_;rintro xT2 hb;clear T2;replace HS:=I (HS.o.below hb);replace HB:=HB.t hb;clear hb)
  |(go_at_call 6;refine Aj (T3.o _) ?_;rintro xT3 hb;clear T3;replace HS:=I (HS.o.below hb);replace HB:=HB.t hb;clear hb)
  |(go_at_call 8;refine Aj (T4.o _) ?_;rintro xT4 hb;clear T4;replace HS:=I (HS.o.below hb);replace HB:=HB.t hb;clear hb)
  |(go_at_call 9;refine Aj (T5.o _) ?_;rintro xT5 hb;clear T5;replace HS:=I (HS.o.below hb);replace HB:=HB.t hb;clear hb)
  |fail)
 obtain⟨W3,eW3⟩:=Ak (xT5.alloc (.cells #[.string ⟨(kr rA rA).1.toArray⟩,.string ⟨(kr rA rA).2.toArray⟩,.string ⟨(kr rA rE).1.toArray⟩,.string ⟨(kr rA rE).2.toArray⟩,.string ⟨(kr rE rA).1.toArray⟩,.string ⟨(kr rE rA).2.toArray⟩,.string ⟨(pAnn).1.toArray⟩,.string ⟨(pAnn).2.toArray⟩,.string ⟨(BU).1.toArray⟩,.string ⟨(BU).2.toArray⟩] 25));have hb:Below xT5.heap.size xT5 W3:=eW3▸Ah.alloc Ag _;have HL:=I (show Blk W3 xT5.heap.size 25 #[.string ⟨(kr rA rA).1.toArray⟩,.string ⟨(kr rA rA).2.toArray⟩,.string ⟨(kr rA rE).1.toArray⟩,.string ⟨(kr rA rE).2.toArray⟩,.string ⟨(kr rE rA).1.toArray⟩,.string ⟨(kr rE rA).2.toArray⟩,.string ⟨(pAnn).1.toArray⟩,.string ⟨(pAnn).2.toArray⟩,.string ⟨(BU).1.toArray⟩,.string ⟨(BU).2.toArray⟩] from eW3▸Blk.new xT5 _ _);have HLB:=I HB.o.size;obtain⟨LB,eLB⟩:=Ak (xT5.heap.size);have HS2:=I (((HS.o.below hb).more (G2:=fun k=>k=LB) (fun k hk=>.inr ⟨by rw[hk,eLB];exact HL.o.lt,fun x=>by have:=HS.o.c.own_lt x;omega,fun x=>by have:=HS.o.d.own_lt x;omega⟩)));replace HB:=HB.t hb;rw[<-eW3];rw[<-eLB] at HL HLB⊢;clear eW3 hb eLB HS;have HBL:=I (show Below w.heap.size w W3 from HB.o);have HCE:=I (show ∀(j:Nat) (i:It) (w1:World),(itX false)[j]? = some i->Blk w1 LB 25 #[.string ⟨(kr rA rA).1.toArray⟩,.string ⟨(kr rA rA).2.toArray⟩,.string ⟨(kr rA rE).1.toArray⟩,.string ⟨(kr rA rE).2.toArray⟩,.string ⟨(kr rE rA).1.toArray⟩,.string ⟨(kr rE rA).2.toArray⟩,.string ⟨(pAnn).1.toArray⟩,.string ⟨(pAnn).2.toArray⟩,.string ⟨(BU).1.toArray⟩,.string ⟨(BU).2.toArray⟩]->w1.cell? ⟨LB,j*2,none⟩=some (.string ⟨i.p.1.toArray⟩)/\w1.cell? ⟨LB,j*2+1,none⟩=some (.string ⟨i.p.2.toArray⟩) by
  intro j i w1 hi h1
  match j,hi with
  |0,hi=>injection hi with hi;subst hi;exact⟨h1.cell 0,h1.cell 1⟩
  |1,hi=>injection hi with hi;subst hi;exact⟨h1.cell 2,h1.cell 3⟩
  |2,hi=>injection hi with hi;subst hi;exact⟨h1.cell 4,h1.cell 5⟩
  |3,hi=>injection hi with hi;subst hi;exact⟨h1.cell 6,h1.cell 7⟩
  |4,hi=>injection hi with hi;subst hi;exact⟨h1.cell 8,h1.cell 9⟩
  |j+5,hi=>simp [itX,itA] at hi)
 obtain⟨cL,ecL⟩:∃z:Array Value,z=#[.string ⟨(kr rA rA).1.toArray⟩,.string ⟨(kr rA rA).2.toArray⟩,.string ⟨(kr rA rE).1.toArray⟩,.string ⟨(kr rA rE).2.toArray⟩,.string ⟨(kr rE rA).1.toArray⟩,.string ⟨(kr rE rA).2.toArray⟩,.string ⟨(pAnn).1.toArray⟩,.string ⟨(pAnn).2.toArray⟩,.string ⟨(BU).1.toArray⟩,.string ⟨(BU).2.toArray⟩]:=⟨_,rfl⟩;rw[<-ecL] at HL;simp only[<-ecL] at HCE;clear ecL
 go_wp2
 go_loopw [7] (fun iv wr=>∃(j:Nat) (v dv:Value) (es:List Ent),j<=5/\iv=.int .i64 (j:Int)/\Sc false wr w.heap.size r v es q dv j (fun k=>k=LB)/\Blk wr LB 25 cL/\Below w.heap.size w wr) (fun iv _=>5 - (intOf iv).toNat)
 case atStart=>exact⟨0,_,_,_,Nat.zero_le _,rfl,HS2.o,HL.o,HB.o⟩
 case round=>
  obtain⟨j,v,dv,es,hj,rfl,hs,hl,hb⟩:=hrel;have HS:=I hs;replace HL:=I hl;replace HB:=I hb;clear hs hl hb HS2 HBL
  by_cases hlt:j<5
  ·have e1:(j:Int)<5:=by omega
   have e2:(0:Int)<=(j:Int):=by omega
   obtain⟨i,hi⟩:∃i,(itX false)[j]? = some i:=⟨_,List.getElem?_eq_getElem (show j<itA.length from hlt)⟩;have e3:=Vk (show j<5 by omega);have hkey:=Yc _ hi;have CK:=I (fun w1=>Qq (UInt8.ofNat (10+j)) w1);have TG:=I (fun(w1:World)=>NH rA rE (by decide) w1);obtain⟨cK,ecK⟩:=Ak (AO (kq (UInt8.ofNat (10+j))));rw[<-ecK] at CK;have HKS:=I (show cK.size=32 by rw[ecK];exact Dm _);have HKO:=I (show cK.all (·.oneCell')=true by rw[ecK,<-Oy];exact GS (Bl _));have HKI:=I (show(Tryz.prog.info? 35).map (·.size)=some cK.size by rw[ecK];exact Fv _);have HEJ:=I ecK;obtain⟨nK,enK⟩:=Ak (((UInt8.ofNat (10+j)).toNat:Int));rw[<-enK] at CK e3;clear ecK enK
   go_upto_region 13 with(first
    |(go_at_call 7;refine Aj (CK.o _) ?_;rintro wk hb;clear CK;replace HS:=I (HS.o.below hb);replace HL:=I (HL.o.below hb);replace HB:=HB.t hb;clear hb)
    |(refine Wh.Bg (by rfl) 35 (.tmp 8) (.tmp 41) (by rfl) 35 rfl cK (by rfl) (by rfl) (by rw[HKS.o];rfl) HKI.o HKO.o ?_;rintro V hV hb;have HK:=I hV;have HPK:=I (show LB<wk.heap.size from HL.o.lt);have HG:=I (show ∀k,(k=LB\/k=wk.heap.size)->k=LB\/(k<V.heap.size/\¬RO r v es k/\¬DO q dv k) from(fun k hk=>hk.elim .inl (fun e=>.inr ⟨by rw[e];exact hV.lt,fun x=>by have:=HS.o.c.own_lt x;omega,fun x=>by have:=HS.o.d.own_lt x;omega⟩)));replace HS:=I (HS.o.below hb);replace HL:=I (HL.o.below hb);replace HB:=HB.t hb;clear hb hV)
    |fail)
   obtain⟨PK,ePK⟩:=Ak (wk.heap.size);rw[<-ePK] at HK HPK HG⊢;clear ePK;replace HS:=I (HS.o.more HG.o);clear HG;have hdr:Below V.heap.size V V.drew:=below_drewN Ah 1;replace HS:=I (HS.o.below hdr);replace HL:=I (HL.o.below hdr);replace HK:=I (HK.o.below hdr);replace HB:=HB.t hdr;clear hdr
   by_cases hne:i.p=kr rA rE
   ·have q1:=Rg.BG hne
    have HEK:=I (hkey.1 hne);clear hkey hne HEJ;obtain⟨c9,ec9⟩:=Ak (AO i.k);have C9:=I (show ∀w1:World,Calls Tryz.prog 7 #[.int .u8 99] w1 fun e w'=>e=.returned (.agg c9)/\Below w1.heap.size w1 w' by intro w1;rw[ec9,HEK.o];exact Qq 99 w1);have H9S:=I (show cK.size=c9.size by rw[HKS.o,ec9];exact(Dm _).symm);have H9O:=I (show c9.all (·.oneCell')=true by rw[ec9,HEK.o,<-Oy];exact GS (Bl _));have H9I:=I (show(Tryz.prog.info? 35).map (·.size)=some c9.size by rw[ec9];exact Fv _);clear HEK;have HEK:=I ec9;clear ec9
    go_region_held3 (fun w'=>w'.cell? ⟨LB,j*2,none⟩=some (.string ⟨i.p.1.toArray⟩)/\w'.cell? ⟨LB,j*2+1,none⟩=some (.string ⟨i.p.2.toArray⟩)) (exact HCE.o j i _ hi HL.o) ((go_at_call 6;refine Aj (TG.o _) ?_;rintro wg hb;clear TG;replace HS:=I (HS.o.below hb);replace HL:=I (HL.o.below hb);replace HK:=I (HK.o.below hb);replace HB:=HB.t hb;clear hb))
    clear q1
    go_upto_region 15 with(first
     |(go_at_call 7;refine Aj (C9.o _) ?_;rintro w9 hb;clear C9;replace HS:=I (HS.o.below hb);replace HL:=I (HL.o.below hb);replace HK:=I (HK.o.below hb);replace HB:=HB.t hb;clear hb)
     |(refine Wh.Bh (by rfl) 35 (.tmp 8) (.tmp 48) (by rfl) PK 35 _ HK.o c9 (by rfl) (by rfl) H9S.o H9I.o H9O.o ?_;rintro V9 hV hg;replace HS:=I (HS.o.put (.inr rfl) hg);replace HL:=I (HL.o.grown hg (fun e=>by injection e with e;have:=HPK.o;omega));replace HB:=I (HB.o.grown hg HB.o.size (fun k hk=>by injection hk with hk;have:=HPK.o;have:=HLB.o;omega));replace HK:=I hV;clear hV hg)
     |fail)
    clear HKS HKO HKI H9S;obtain⟨cK,ecK⟩:=Ak (c9);rw[<-ecK] at HK HEK H9O H9I;have HKO:=H9O;have HKI:=H9I;clear H9O H9I;clear ecK;have hdr:Below V9.heap.size V9 V9.drew:=below_drewN Ah 1;replace HS:=I (HS.o.below hdr);replace HL:=I (HL.o.below hdr);replace HK:=I (HK.o.below hdr);replace HB:=HB.t hdr;clear hdr;have HSS:=I (show(V9.drew.cell? ⟨LB,j*2,none⟩=some (.string ⟨i.p.1.toArray⟩)/\V9.drew.cell? ⟨LB,j*2+1,none⟩=some (.string ⟨i.p.2.toArray⟩)/\Blk V9.drew PK 35 cK) from⟨(HCE.o j i _ hi HL.o).1,(HCE.o j i _ hi HL.o).2,HK.o⟩);refine Reg.Bx (fun w'=>w'.cell? ⟨LB,j*2,none⟩=some (.string ⟨i.p.1.toArray⟩)/\w'.cell? ⟨LB,j*2+1,none⟩=some (.string ⟨i.p.2.toArray⟩)/\Blk w' PK 35 cK) 12 rfl (by kernel_rfl) HSS.o ?_;refine Reg.ty 0 rfl HSS.o ?_;refine Reg.ty 1 rfl HSS.o ?_;refine Reg.ty 2 rfl HSS.o ?_;refine Reg.ty 3 rfl HSS.o ?_;refine Reg.tw 4 rfl HSS.o (fun w' hS=>by have k0:=hS.1;have k1:=hS.2.1;go_simp<;>rfl) ?_;refine Reg.tw 5 (v:=.agg cK) rfl HSS.o (fun w' hS=>by exact Wh.Bq (.tmp 8) rfl rfl hS.2.2 Tryz.underlying35 rfl HKI.o) ?_;refine Reg.b1 6 ?_
    right
    refine⟨_,_,_,_,_,_,15,#[.pointer (some ⟨r,0,none⟩),prV i.p,.agg cK],rfl,by rfl,by go_simp,?_⟩;refine Calls.mono (SK HS.o HB.o.size hi HEK.o) ?_;rintro e wc ⟨⟨nn,rfl⟩,v2,es2,c1,c2,c3,c4,c5,c6,c7,hb⟩;replace HL:=I (DJ HL.o (c7 LB (.inl rfl)));replace HK:=I (DJ HK.o (c7 PK (.inr rfl)));replace HB:=I (HB.o.trans hb);have HC1:=I c1;have HC2:=I c2;have HC3:=I c3;have HC4:=I c4;have HC5:=I c5;have HC6:=I c6;clear c1 c2 c3 c4 c5 c6 c7 hb HS;replace HSS:=I (show(wc.cell? ⟨LB,j*2,none⟩=some (.string ⟨i.p.1.toArray⟩)/\wc.cell? ⟨LB,j*2+1,none⟩=some (.string ⟨i.p.2.toArray⟩)/\Blk wc PK 35 cK) from⟨(HCE.o j i _ hi HL.o).1,(HCE.o j i _ hi HL.o).2,HK.o⟩);refine⟨_,rfl,HSS.o,?_⟩;simp only[Act.put,U,Aa,Ab];refine Reg.ty 7 rfl HSS.o ?_;refine Reg.ty 8 rfl HSS.o ?_;refine Reg.ty 9 rfl HSS.o ?_;refine Reg.ty 10 rfl HSS.o ?_;refine Reg.ty 11 rfl HSS.o ?_;refine wpAnyH_done (by kernel_rfl) ?_ _;clear HSS
    go_upto_region 16 with fail
    have hdr:Below wc.heap.size wc wc.drew:=below_drewN Ah 1;have HC6b:=I (fun k hk=>(⟨Nat.lt_of_lt_of_le (HC6.o k hk).1 hdr.size,(HC6.o k hk).2⟩:k<wc.drew.heap.size/\_));replace HC1:=I (HC1.o.below hdr);replace HC2:=I (HC2.o.below hdr);replace HL:=I (HL.o.below hdr);replace HK:=I (HK.o.below hdr);replace HB:=HB.t hdr;clear hdr HC6;have HSS:=I (show(wc.drew.cell? ⟨LB,j*2,none⟩=some (.string ⟨i.p.1.toArray⟩)/\wc.drew.cell? ⟨LB,j*2+1,none⟩=some (.string ⟨i.p.2.toArray⟩)/\Blk wc.drew PK 35 cK) from⟨(HCE.o j i _ hi HL.o).1,(HCE.o j i _ hi HL.o).2,HK.o⟩);refine Reg.Bx (fun w'=>w'.cell? ⟨LB,j*2,none⟩=some (.string ⟨i.p.1.toArray⟩)/\w'.cell? ⟨LB,j*2+1,none⟩=some (.string ⟨i.p.2.toArray⟩)/\Blk w' PK 35 cK) 7 rfl (by kernel_rfl) HSS.o ?_;refine Reg.ty 0 rfl HSS.o ?_;refine Reg.ty 1 rfl HSS.o ?_;refine Reg.ty 2 rfl HSS.o ?_;refine Reg.ty 3 rfl HSS.o ?_;refine Reg.tw 4 rfl HSS.o (fun w' hS=>by have k0:=hS.1;have k1:=hS.2.1;go_simp<;>rfl) ?_;refine Reg.tw 5 (v:=.agg cK) rfl HSS.o (fun w' hS=>by exact Wh.Bq (.tmp 8) rfl rfl hS.2.2 Tryz.underlying35 rfl HKI.o) ?_;refine Reg.b1 6 ?_
    right
    refine⟨_,_,_,_,_,_,16,#[.pointer (some ⟨q,0,none⟩),prV i.p,.agg cK],rfl,by rfl,by go_simp,?_⟩;refine Calls.mono (We HC1.o HC2.o HC3.o HC4.o HC5.o HC6b.o HB.o.size hi HEK.o) ?_;rintro e wd ⟨⟨nd,rfl⟩,dv2,hs2,c7,hb⟩;replace HL:=I (DJ HL.o (c7 LB (.inl rfl)));replace HK:=I (DJ HK.o (c7 PK (.inr rfl)));replace HB:=I (HB.o.trans hb);have HS:=I hs2;clear c7 hb hs2 HC1 HC2 HC3 HC4 HC5 HC6b;replace HSS:=I (show(wd.cell? ⟨LB,j*2,none⟩=some (.string ⟨i.p.1.toArray⟩)/\wd.cell? ⟨LB,j*2+1,none⟩=some (.string ⟨i.p.2.toArray⟩)/\Blk wd PK 35 cK) from⟨(HCE.o j i _ hi HL.o).1,(HCE.o j i _ hi HL.o).2,HK.o⟩);refine⟨_,rfl,HSS.o,?_⟩;simp only[Act.put,U,Aa,Ab];refine wpAnyH_done (by kernel_rfl) ?_ _;clear HSS HCE
    go_wp2<;>skip
    go_roundw
    case rel=>exact⟨j+1,_,_,_,by omega,by go_num,HS.o.more (fun k hk=>.inl (.inl hk)),HL.o,HB.o⟩
    case measure=>simp [intOf];omega
   ·have q1:=Rg.Cx hne
    have HEK:=I (show cK=AO i.k by rw[hkey.2 hne];exact HEJ.o);clear hkey hne HEJ
    go_region_held3 (fun w'=>w'.cell? ⟨LB,j*2,none⟩=some (.string ⟨i.p.1.toArray⟩)/\w'.cell? ⟨LB,j*2+1,none⟩=some (.string ⟨i.p.2.toArray⟩)) (exact HCE.o j i _ hi HL.o) ((go_at_call 6;refine Aj (TG.o _) ?_;rintro wg hb;clear TG;replace HS:=I (HS.o.below hb);replace HL:=I (HL.o.below hb);replace HK:=I (HK.o.below hb);replace HB:=HB.t hb;clear hb))
    clear q1
    go_upto_region 15 with fail
    have hdr:Below wg.heap.size wg wg.drew:=below_drewN Ah 1;replace HS:=I (HS.o.below hdr);replace HL:=I (HL.o.below hdr);replace HK:=I (HK.o.below hdr);replace HB:=HB.t hdr;clear hdr;have HSS:=I (show(wg.drew.cell? ⟨LB,j*2,none⟩=some (.string ⟨i.p.1.toArray⟩)/\wg.drew.cell? ⟨LB,j*2+1,none⟩=some (.string ⟨i.p.2.toArray⟩)/\Blk wg.drew PK 35 cK) from⟨(HCE.o j i _ hi HL.o).1,(HCE.o j i _ hi HL.o).2,HK.o⟩);refine Reg.Bx (fun w'=>w'.cell? ⟨LB,j*2,none⟩=some (.string ⟨i.p.1.toArray⟩)/\w'.cell? ⟨LB,j*2+1,none⟩=some (.string ⟨i.p.2.toArray⟩)/\Blk w' PK 35 cK) 12 rfl (by kernel_rfl) HSS.o ?_;refine Reg.ty 0 rfl HSS.o ?_;refine Reg.ty 1 rfl HSS.o ?_;refine Reg.ty 2 rfl HSS.o ?_;refine Reg.ty 3 rfl HSS.o ?_;refine Reg.tw 4 rfl HSS.o (fun w' hS=>by have k0:=hS.1;have k1:=hS.2.1;go_simp<;>rfl) ?_;refine Reg.tw 5 (v:=.agg cK) rfl HSS.o (fun w' hS=>by exact Wh.Bq (.tmp 8) rfl rfl hS.2.2 Tryz.underlying35 rfl HKI.o) ?_;refine Reg.b1 6 ?_
    right
    refine⟨_,_,_,_,_,_,15,#[.pointer (some ⟨r,0,none⟩),prV i.p,.agg cK],rfl,by rfl,by go_simp,?_⟩;refine Calls.mono (SK HS.o HB.o.size hi HEK.o) ?_;rintro e wc ⟨⟨nn,rfl⟩,v2,es2,c1,c2,c3,c4,c5,c6,c7,hb⟩;replace HL:=I (DJ HL.o (c7 LB (.inl rfl)));replace HK:=I (DJ HK.o (c7 PK (.inr rfl)));replace HB:=I (HB.o.trans hb);have HC1:=I c1;have HC2:=I c2;have HC3:=I c3;have HC4:=I c4;have HC5:=I c5;have HC6:=I c6;clear c1 c2 c3 c4 c5 c6 c7 hb HS;replace HSS:=I (show(wc.cell? ⟨LB,j*2,none⟩=some (.string ⟨i.p.1.toArray⟩)/\wc.cell? ⟨LB,j*2+1,none⟩=some (.string ⟨i.p.2.toArray⟩)/\Blk wc PK 35 cK) from⟨(HCE.o j i _ hi HL.o).1,(HCE.o j i _ hi HL.o).2,HK.o⟩);refine⟨_,rfl,HSS.o,?_⟩;simp only[Act.put,U,Aa,Ab];refine Reg.ty 7 rfl HSS.o ?_;refine Reg.ty 8 rfl HSS.o ?_;refine Reg.ty 9 rfl HSS.o ?_;refine Reg.ty 10 rfl HSS.o ?_;refine Reg.ty 11 rfl HSS.o ?_;refine wpAnyH_done (by kernel_rfl) ?_ _;clear HSS
    go_upto_region 16 with fail
    have hdr:Below wc.heap.size wc wc.drew:=below_drewN Ah 1;have HC6b:=I (fun k hk=>(⟨Nat.lt_of_lt_of_le (HC6.o k hk).1 hdr.size,(HC6.o k hk).2⟩:k<wc.drew.heap.size/\_));replace HC1:=I (HC1.o.below hdr);replace HC2:=I (HC2.o.below hdr);replace HL:=I (HL.o.below hdr);replace HK:=I (HK.o.below hdr);replace HB:=HB.t hdr;clear hdr HC6;have HSS:=I (show(wc.drew.cell? ⟨LB,j*2,none⟩=some (.string ⟨i.p.1.toArray⟩)/\wc.drew.cell? ⟨LB,j*2+1,none⟩=some (.string ⟨i.p.2.toArray⟩)/\Blk wc.drew PK 35 cK) from⟨(HCE.o j i _ hi HL.o).1,(HCE.o j i _ hi HL.o).2,HK.o⟩);refine Reg.Bx (fun w'=>w'.cell? ⟨LB,j*2,none⟩=some (.string ⟨i.p.1.toArray⟩)/\w'.cell? ⟨LB,j*2+1,none⟩=some (.string ⟨i.p.2.toArray⟩)/\Blk w' PK 35 cK) 7 rfl (by kernel_rfl) HSS.o ?_;refine Reg.ty 0 rfl HSS.o ?_;refine Reg.ty 1 rfl HSS.o ?_;refine Reg.ty 2 rfl HSS.o ?_;refine Reg.ty 3 rfl HSS.o ?_;refine Reg.tw 4 rfl HSS.o (fun w' hS=>by have k0:=hS.1;have k1:=hS.2.1;go_simp<;>rfl) ?_;refine Reg.tw 5 (v:=.agg cK) rfl HSS.o (fun w' hS=>by exact Wh.Bq (.tmp 8) rfl rfl hS.2.2 Tryz.underlying35 rfl HKI.o) ?_;refine Reg.b1 6 ?_
    right
    refine⟨_,_,_,_,_,_,16,#[.pointer (some ⟨q,0,none⟩),prV i.p,.agg cK],rfl,by rfl,by go_simp,?_⟩;refine Calls.mono (We HC1.o HC2.o HC3.o HC4.o HC5.o HC6b.o HB.o.size hi HEK.o) ?_;rintro e wd ⟨⟨nd,rfl⟩,dv2,hs2,c7,hb⟩;replace HL:=I (DJ HL.o (c7 LB (.inl rfl)));replace HK:=I (DJ HK.o (c7 PK (.inr rfl)));replace HB:=I (HB.o.trans hb);have HS:=I hs2;clear c7 hb hs2 HC1 HC2 HC3 HC4 HC5 HC6b;replace HSS:=I (show(wd.cell? ⟨LB,j*2,none⟩=some (.string ⟨i.p.1.toArray⟩)/\wd.cell? ⟨LB,j*2+1,none⟩=some (.string ⟨i.p.2.toArray⟩)/\Blk wd PK 35 cK) from⟨(HCE.o j i _ hi HL.o).1,(HCE.o j i _ hi HL.o).2,HK.o⟩);refine⟨_,rfl,HSS.o,?_⟩;simp only[Act.put,U,Aa,Ab];refine wpAnyH_done (by kernel_rfl) ?_ _;clear HSS HCE
    go_wp2<;>skip
    go_roundw
    case rel=>exact⟨j+1,_,_,_,by omega,by go_num,HS.o.more (fun k hk=>.inl (.inl hk)),HL.o,HB.o⟩
    case measure=>simp [intOf];omega
  ·have hje:j=5:=by omega
   subst hje;clear hlt hj HCE HL HLB;have TR:=I (fun(w1:World)=>Wn w1);have TR2:=I (fun(w1:World)=>Wn w1);have N1:=I (fun(w1:World) (v1 v2:Value) (K:Nat->Prop) (hK:∀b,K b->b<w1.heap.size) (ht:TpK K w1 v1 v2 (.slice none 0 0) tT) (hr:Ring w1 w.heap.size r v es) (hB:w.heap.size<=w1.heap.size)=>new_a (R:=rA) Xx rfl tT_kt Zz (by decide) (ht.r.slv hK) (ht.k.slp hK) (by decide) hr hB);have N2:=I (fun(w1:World) (v1 v2:Value) (lo:Nat) (ht:TpK (fun b=>lo<=b/\b<w1.heap.size) w1 v1 v2 (.slice none 0 0) tT) (hlo:w.heap.size<=lo) (hr:DRing w1 w.heap.size q dv ((itX false).take 5)) (hB:w.heap.size<=w1.heap.size)=>aD (R:=rA) Xx Zz (by decide) ht hlo Ag hr hB);obtain⟨W0,eW0⟩:=Ak (wr)
   go_upto_region 21 with(first
    |(go_at_call 18;refine Calls.mono (TR.o _) ?_;rintro e t1 ⟨a1,a2,rfl,ht,hb⟩;have HT1:=I ht;have HB1:=I hb;clear ht hb TR)
    |(go_at_call 17;refine Calls.mono (N1.o _ _ _ _ (fun b x=>x.2) HT1.o (HS.o.c.below HB1.o) (Nat.le_trans HB.o.size HB1.o.size)) ?_;rintro e t2 ⟨k,lo,hi,u1,u2,rfl,hk1,hk2,hkd,hb⟩;have HKD:=I hkd;have HB2:=I hb;have HK1:=I hk1;have HK2:=I hk2;clear N1 HT1 hkd hb hk1 hk2)
    |(go_at_call 18;refine Calls.mono (TR2.o _) ?_;rintro e t3 ⟨a3,a4,rfl,ht,hb⟩;have HT3:=I ht;have HB3:=I hb;clear ht hb TR2)
    |(go_at_call 19;refine Calls.mono (N2.o _ _ _ _ HT3.o (Nat.le_trans HB.o.size (Nat.le_trans HB1.o.size HB2.o.size)) (HS.o.d.below (HB1.o.trans ((HB2.o.trans (HB3.o.mono HB2.o.size)).mono HB1.o.size))) (Nat.le_trans HB.o.size (Nat.le_trans HB1.o.size (Nat.le_trans HB2.o.size HB3.o.size)))) ?_;rintro e t4 ⟨x,rfl,hx,hdk,hb⟩;have HX:=I hx;have HDK:=I hdk;have HB4:=I hb;clear N2 HT3 hx hdk hb)
    |fail)
   go_wp2
   go_ret;have hb4:=HB.o.trans ((HB1.o.trans ((HB2.o.trans ((HB3.o.trans (HB4.o.mono HB3.o.size)).mono HB2.o.size)).mono HB1.o.size)).mono HB.o.size);exact⟨_,⟨k,r,lo,hi,rA,tT,v,u1,u2,.slice none 0 0⟩,es,⟨x,q,t2.heap.size,t3.heap.size,rA,tT,dv,a3,a4,.slice none 0 0⟩,rfl,ZT (a:=false) Ag HS.o HB1.o HK1.o HK2.o HKD.o HB2.o HB3.o HX.o rfl HDK.o HB4.o hb4 rfl rfl rfl rfl⟩
end Kd
namespace Kd
open Go.RowKit Af Se
open Rg (It Ent Ring RO DRing DO Ap its)
open Ms (Re As Tg pSm reC)
abbrev scC (k x:Nat):Array Value:=#[.pointer (some ⟨k,0,none⟩),.pointer (some ⟨x,0,none⟩)]
theorem sAnn:pSm pAnn:=⟨by decide,by decide⟩
theorem aE:pSm BU:=⟨by decide,by decide⟩
theorem sKrA:pSm (kr rA rA):=⟨by decide,by decide⟩
theorem aF:(asL rA itA 0 ⟨pAnn,kr rA rA,50,3⟩ 5 k1L).1=0/\(asL rA itA 0 ⟨pAnn,kr rA rA,50,3⟩ 5 k1L).2.t.k=1:=by decide +kernel
theorem aG:asL rA itA 2 ⟨BU,pAnn,50,0⟩ 5 k1L=(6,Ms.re0):=by
 have h:(Ms.tmB 5&&Ms.asB ⟨BU,pAnn,50,0⟩)=true:=by decide +kernel
 have h1:BU.1=rA/\hasL itA BU=true:=by decide +kernel
 have h2:¬(pAnn=kr rA rA/\hasL itA pAnn=true):=by decide +kernel
 unfold asL;rw[if_pos h,if_pos h1,if_neg h2]
theorem re_k {S:Nat->Prop} {w:World} {PT:Nat} {cs:Array Value} {x:Re} (hb:Blk w PT 43 cs) (h:ReN S w cs x):w.cell? ⟨PT,4,none⟩=some (.int .i64 x.t.k):=by
 obtain⟨b,a,rfl,_,_⟩:=h;rw[hb.cell];rfl
theorem Vt (w:World):Calls Tryz.prog 11 #[] w fun e w'=>e=.returned (.bool true)/\Below w.heap.size w w':=by
 have C1:=I (TC w);have T1:=I (fun(w1:World)=>Lh w1);have T2:=I (fun(w1:World)=>NH rA rA (by decide) w1);have T3:=I (fun(w1:World)=>JC w1);obtain⟨cs1,ecs1⟩:=Ak (asA ⟨pAnn,kr rA rA,50,3⟩);obtain⟨cs2,ecs2⟩:=Ak (asA ⟨BU,pAnn,50,0⟩);obtain⟨csK,ecsK⟩:=Ak (keyA k1L);have HB1:=I (Le pAnn (kr rA rA) 50 3);have HB2:=I (Tw BU pAnn 50);have HBK:=I Vq;rw[<-ecs1] at HB1;rw[<-ecs2] at HB2;rw[<-ecsK] at HBK;obtain⟨r1,er1⟩:=Ak (asL rA itA 0 ⟨pAnn,kr rA rA,50,3⟩ 5 k1L);have HR1:=I (show r1.1=0/\r1.2.t.k=1 from er1▸aF);have E1:=I ecs1;have E2:=I ecs2;have EK:=I ecsK;have ER:=I er1;clear ecs1 ecs2 ecsK er1;go_enter Tryz.func11,Tryz.ntmps11
 go_upto_region 4 with(first
  |(go_at_call 4;refine Calls.mono C1.o ?_;rintro e w1 ⟨g,p,es,d,rfl,hs⟩;clear C1;have HS:=I hs;clear hs)
  |fail)
 have HKS:=I HS.o.ks;have HG:=I (show Blk w1 g 49 (scC p.k d.x) from HS.o.blk);have HOG:=I HS.o.gk;have HIT:=I (show its es=itA from HS.o.e);have HPR:=I (show p.R=rA from HS.o.R);have HBB:=I HS.o.b;clear HS;have CA1:=I (fun(w2:World) (h:KS w2 w.heap.size p es none 0 0 0)=>Wl E1.o EK.o HPR.o HIT.o ER.o.symm h (by omega) (by omega) (by omega) (by decide) (by decide) Wm sAnn sKrA);have CA2:=I (fun(w2:World) (es1:List Ent) (hi:its es1=itA) (h:KS w2 w.heap.size p es1 none 2 1 4)=>Wl E2.o EK.o HPR.o hi aG h (by omega) (by omega) (by omega) (by decide) (by decide) Wm aE sAnn);have HS0:=I HKS.o;have HG0:=I (show g<w1.heap.size from HG.o.lt)
 go_cut [2,3] from 9 to 20 (fun rv ev wx=>∃(PT:Nat) (cs:Array Value) (es2:List Ent),rv=.pointer (some ⟨PT,0,none⟩)/\ev=.int .i64 r1.1/\Got w1 wx w.heap.size p es es2 (0+2*cnt r1.1) (0+cnt r1.1) (0+4) PT cs r1.2)
 case first=>
  have hdr:Below w1.heap.size w1 w1.drew:=below_drewN Ah 1;have HK:=I (Kn.start HKS.o hdr);replace HG:=I (HG.o.below hdr);clear hdr;refine Reg.Bx (fun w'=>Blk w' g 49 (scC p.k d.x)) 15 rfl (by kernel_rfl) HG.o ?_;refine Reg.ty 0 rfl HG.o ?_;refine Reg.ty 1 rfl HG.o ?_;refine Reg.ty 2 rfl HG.o ?_;refine Reg.tw 3 rfl HG.o (fun w' hS=>by have k0:=Blk.cell hS 0;go_simp<;>rfl) ?_;refine Reg.tw 7 (v:=.agg csK) rfl HG.o (fun w' hS=>by exact Rg.Bv (by simp only[List.map_toArray,List.map_cons,List.map_nil];rfl) HBK.o) ?_;refine Reg.b2 4 12 ?_ ?_
  ·right
   refine⟨_,_,_,_,_,_,8,#[],rfl,by rfl,(by go_simp<;>first | rfl | exact⟨rfl,rfl⟩),?_⟩;refine Aj (T1.o _) ?_;rintro wlp6 hb;replace HG:=I (HG.o.below hb);replace HK:=I (HK.o.below hb);clear hb;refine⟨_,rfl,HG.o,?_⟩;simp only[Act.put,U,Aa,Ab];refine Reg.b2 5 12 ?_ ?_
   ·right
    refine⟨_,_,_,_,_,_,6,#[.string ⟨rA.toArray⟩,.string ⟨rA.toArray⟩],rfl,by rfl,(by go_simp<;>first | rfl | exact⟨rfl,rfl⟩),?_⟩;refine Aj (T2.o _) ?_;rintro wlp7 hb;replace HG:=I (HG.o.below hb);replace HK:=I (HK.o.below hb);clear hb;refine⟨_,rfl,HG.o,?_⟩;simp only[Act.put,U,Aa,Ab];refine Reg.tw 6 (v:=.agg cs1) rfl HG.o (fun w' hS=>by exact Rg.Bv (by simp only[List.map_toArray,List.map_cons,List.map_nil];rfl) HB1.o) ?_;refine Reg.b2 8 12 ?_ ?_
    ·right
     refine⟨_,_,_,_,_,_,32,#[.pointer (some ⟨p.k,0,none⟩),.agg cs1,.int .i64 5,.agg csK],rfl,by rfl,(by go_simp<;>first | rfl | exact⟨rfl,rfl⟩),?_⟩;refine Calls.mono (CA1.o _ HK.o.st) ?_;rintro e wap9 ⟨cs,es2,rfl,hre,hk⟩;have HCS:=I (CH hre);have hnb:=hk.blk HG.o HOG.o.no;replace HOG:=I (hk.off HOG.o HG.o.lt);replace HG:=I hnb;clear hnb;have HRE:=I hre;have HRS:=I HK.o.size;replace HK:=I (HK.o.trans hk);clear hk hre;refine⟨_,rfl,HG.o,?_⟩;simp only[Act.put,U,Aa,Ab];refine Reg.ty 9 rfl HG.o ?_;refine Reg.ty 10 rfl HG.o ?_;refine Reg.ty 11 rfl HG.o ?_;refine Reg.b1 12 ?_
     left
     have hb:Below wap9.heap.size wap9 (wap9.alloc (.cells reZ 43)):=Ah.alloc Ag _;have hnb:=Blk.new wap9 43 reZ;have HNEHG:=I (show g≠wap9.heap.size from Nat.ne_of_lt HG.o.lt);have HPT:=I (show w1.heap.size<=wap9.heap.size from HK.o.size);have HOT:=I (HK.o.st.offs (Nat.le_refl wap9.heap.size));refine⟨_,_,_,_,_,_,.pointer (some ⟨wap9.heap.size,0,none⟩),wap9.alloc (.cells reZ 43),rfl,by rfl,(by go_simp<;>rfl),(HG.o.below hb),?_⟩;simp only[Act.put,U,Aa,Ab];obtain⟨wtp13,ewtp13⟩:=Ak (wap9.alloc (.cells reZ 43));rw[<-ewtp13] at hb hnb⊢;clear ewtp13;replace HRE:=I (Tv HRE.o HRS.o Ag hb);clear HRS;have HT:=I hnb;clear hnb;replace HG:=I (HG.o.below hb);replace HK:=I (HK.o.below hb);clear hb;obtain⟨PT,ePT⟩:=Ak (wap9.heap.size);rw[<-ePT] at HT HPT HOT HNEHG HRE⊢;clear ePT;refine Reg.AP 13 rfl (by kernel_rfl) (by rfl) PT 43 _ cs HT.o (by rfl) (by rfl) (by rw[HCS.o.1];rfl) (by rw[HCS.o.1];exact AK) HCS.o.2 ?_;intro Vp14 hV hg;have HGT:=I (FG HK.o HRE.o HOT.o HPT.o hV hg);replace HG:=I (HG.o.grown hg (fun e=>by injection e with e;exact HNEHG.o e.symm));clear hV hg HT HK HRE HOT HPT HCS;refine⟨HG.o,?_⟩;simp only[Act.put,U,Aa,Ab];refine Reg.ty 14 rfl HG.o ?_;refine wpAnyH_done (by kernel_rfl) ?_ _
     go_wp2_with fail
     go_meet
     exact⟨PT,_,_,rfl,rfl,HGT.o⟩
    ·left
     have hb:Below wlp7.heap.size wlp7 (wlp7.alloc (.cells reZ 43)):=Ah.alloc Ag _;have hnb:=Blk.new wlp7 43 reZ;have HNEHG:=I (show g≠wlp7.heap.size from Nat.ne_of_lt HG.o.lt);have HPT:=I (show w1.heap.size<=wlp7.heap.size from HK.o.size);have HOT:=I (HK.o.st.offs (Nat.le_refl wlp7.heap.size));refine⟨_,_,_,_,_,_,.pointer (some ⟨wlp7.heap.size,0,none⟩),wlp7.alloc (.cells reZ 43),rfl,by rfl,(by go_simp<;>rfl),(HG.o.below hb),?_⟩;simp only[Act.put,U,Aa,Ab];obtain⟨wtp16,ewtp16⟩:=Ak (wlp7.alloc (.cells reZ 43));rw[<-ewtp16] at hb hnb⊢;clear ewtp16;have HT:=I hnb;clear hnb;replace HG:=I (HG.o.below hb);replace HK:=I (HK.o.below hb);clear hb;obtain⟨PT,ePT⟩:=Ak (wlp7.heap.size);rw[<-ePT] at HT HPT HOT HNEHG⊢;clear ePT;refine Reg.b1 8 ?_
     right
     refine⟨_,_,_,_,_,_,32,#[.pointer (some ⟨p.k,0,none⟩),.agg cs1,.int .i64 5,.agg csK],rfl,by rfl,(by go_simp<;>first | rfl | exact⟨rfl,rfl⟩),?_⟩;refine Calls.mono (CA1.o _ HK.o.st) ?_;rintro e wap17 ⟨cs,es2,rfl,hre,hk⟩;have HCS:=I (CH hre);have hnb:=hk.blk HG.o HOG.o.no;replace HOG:=I (hk.off HOG.o HG.o.lt);replace HG:=I hnb;clear hnb;have HRE:=I (Ij hre HK.o.size HT.o.lt);have hnb:=hk.blk HT.o HOT.o.no;replace HOT:=I (hk.off HOT.o HT.o.lt);replace HT:=I hnb;clear hnb;replace HK:=I (HK.o.trans hk);clear hk hre;refine⟨_,rfl,HG.o,?_⟩;simp only[Act.put,U,Aa,Ab];refine Reg.ty 9 rfl HG.o ?_;refine Reg.ty 10 rfl HG.o ?_;refine Reg.ty 11 rfl HG.o ?_;refine Reg.AP 13 rfl (by kernel_rfl) (by rfl) PT 43 _ cs HT.o (by rfl) (by rfl) (by rw[HCS.o.1];rfl) (by rw[HCS.o.1];exact AK) HCS.o.2 ?_;intro Vp21 hV hg;have HGT:=I (FG HK.o HRE.o HOT.o HPT.o hV hg);replace HG:=I (HG.o.grown hg (fun e=>by injection e with e;exact HNEHG.o e.symm));clear hV hg HT HK HRE HOT HPT HCS;refine⟨HG.o,?_⟩;simp only[Act.put,U,Aa,Ab];refine Reg.ty 14 rfl HG.o ?_;refine wpAnyH_done (by kernel_rfl) ?_ _
     go_wp2_with fail
     go_meet
     exact⟨PT,_,_,rfl,rfl,HGT.o⟩
   ·left
    have hb:Below wlp6.heap.size wlp6 (wlp6.alloc (.cells reZ 43)):=Ah.alloc Ag _;have hnb:=Blk.new wlp6 43 reZ;have HNEHG:=I (show g≠wlp6.heap.size from Nat.ne_of_lt HG.o.lt);have HPT:=I (show w1.heap.size<=wlp6.heap.size from HK.o.size);have HOT:=I (HK.o.st.offs (Nat.le_refl wlp6.heap.size));refine⟨_,_,_,_,_,_,.pointer (some ⟨wlp6.heap.size,0,none⟩),wlp6.alloc (.cells reZ 43),rfl,by rfl,(by go_simp<;>rfl),(HG.o.below hb),?_⟩;simp only[Act.put,U,Aa,Ab];obtain⟨wtp23,ewtp23⟩:=Ak (wlp6.alloc (.cells reZ 43));rw[<-ewtp23] at hb hnb⊢;clear ewtp23;have HT:=I hnb;clear hnb;replace HG:=I (HG.o.below hb);replace HK:=I (HK.o.below hb);clear hb;obtain⟨PT,ePT⟩:=Ak (wlp6.heap.size);rw[<-ePT] at HT HPT HOT HNEHG⊢;clear ePT;refine Reg.b1 5 ?_
    right
    refine⟨_,_,_,_,_,_,6,#[.string ⟨rA.toArray⟩,.string ⟨rA.toArray⟩],rfl,by rfl,(by go_simp<;>first | rfl | exact⟨rfl,rfl⟩),?_⟩;refine Aj (T2.o _) ?_;rintro wlp24 hb;replace HG:=I (HG.o.below hb);replace HK:=I (HK.o.below hb);replace HT:=I (HT.o.below hb);clear hb;refine⟨_,rfl,HG.o,?_⟩;simp only[Act.put,U,Aa,Ab];refine Reg.tw 6 (v:=.agg cs1) rfl HG.o (fun w' hS=>by exact Rg.Bv (by simp only[List.map_toArray,List.map_cons,List.map_nil];rfl) HB1.o) ?_;refine Reg.b1 8 ?_
    right
    refine⟨_,_,_,_,_,_,32,#[.pointer (some ⟨p.k,0,none⟩),.agg cs1,.int .i64 5,.agg csK],rfl,by rfl,(by go_simp<;>first | rfl | exact⟨rfl,rfl⟩),?_⟩;refine Calls.mono (CA1.o _ HK.o.st) ?_;rintro e wap26 ⟨cs,es2,rfl,hre,hk⟩;have HCS:=I (CH hre);have hnb:=hk.blk HG.o HOG.o.no;replace HOG:=I (hk.off HOG.o HG.o.lt);replace HG:=I hnb;clear hnb;have HRE:=I (Ij hre HK.o.size HT.o.lt);have hnb:=hk.blk HT.o HOT.o.no;replace HOT:=I (hk.off HOT.o HT.o.lt);replace HT:=I hnb;clear hnb;replace HK:=I (HK.o.trans hk);clear hk hre;refine⟨_,rfl,HG.o,?_⟩;simp only[Act.put,U,Aa,Ab];refine Reg.ty 9 rfl HG.o ?_;refine Reg.ty 10 rfl HG.o ?_;refine Reg.ty 11 rfl HG.o ?_;refine Reg.AP 13 rfl (by kernel_rfl) (by rfl) PT 43 _ cs HT.o (by rfl) (by rfl) (by rw[HCS.o.1];rfl) (by rw[HCS.o.1];exact AK) HCS.o.2 ?_;intro Vp30 hV hg;have HGT:=I (FG HK.o HRE.o HOT.o HPT.o hV hg);replace HG:=I (HG.o.grown hg (fun e=>by injection e with e;exact HNEHG.o e.symm));clear hV hg HT HK HRE HOT HPT HCS;refine⟨HG.o,?_⟩;simp only[Act.put,U,Aa,Ab];refine Reg.ty 14 rfl HG.o ?_;refine wpAnyH_done (by kernel_rfl) ?_ _
    go_wp2_with fail
    go_meet
    exact⟨PT,_,_,rfl,rfl,HGT.o⟩
  ·left
   have hb:Below w1.drew.heap.size w1.drew (w1.drew.alloc (.cells reZ 43)):=Ah.alloc Ag _;have hnb:=Blk.new w1.drew 43 reZ;have HNEHG:=I (show g≠w1.drew.heap.size from Nat.ne_of_lt HG.o.lt);have HPT:=I (show w1.heap.size<=w1.drew.heap.size from HK.o.size);have HOT:=I (HK.o.st.offs (Nat.le_refl w1.drew.heap.size));refine⟨_,_,_,_,_,_,.pointer (some ⟨w1.drew.heap.size,0,none⟩),w1.drew.alloc (.cells reZ 43),rfl,by rfl,(by go_simp<;>rfl),(HG.o.below hb),?_⟩;simp only[Act.put,U,Aa,Ab];obtain⟨wtp32,ewtp32⟩:=Ak (w1.drew.alloc (.cells reZ 43));rw[<-ewtp32] at hb hnb⊢;clear ewtp32;have HT:=I hnb;clear hnb;replace HG:=I (HG.o.below hb);replace HK:=I (HK.o.below hb);clear hb;obtain⟨PT,ePT⟩:=Ak (w1.drew.heap.size);rw[<-ePT] at HT HPT HOT HNEHG⊢;clear ePT;refine Reg.b1 4 ?_
   right
   refine⟨_,_,_,_,_,_,8,#[],rfl,by rfl,(by go_simp<;>first | rfl | exact⟨rfl,rfl⟩),?_⟩;refine Aj (T1.o _) ?_;rintro wlp33 hb;replace HG:=I (HG.o.below hb);replace HK:=I (HK.o.below hb);replace HT:=I (HT.o.below hb);clear hb;refine⟨_,rfl,HG.o,?_⟩;simp only[Act.put,U,Aa,Ab];refine Reg.b1 5 ?_
   right
   refine⟨_,_,_,_,_,_,6,#[.string ⟨rA.toArray⟩,.string ⟨rA.toArray⟩],rfl,by rfl,(by go_simp<;>first | rfl | exact⟨rfl,rfl⟩),?_⟩;refine Aj (T2.o _) ?_;rintro wlp34 hb;replace HG:=I (HG.o.below hb);replace HK:=I (HK.o.below hb);replace HT:=I (HT.o.below hb);clear hb;refine⟨_,rfl,HG.o,?_⟩;simp only[Act.put,U,Aa,Ab];refine Reg.tw 6 (v:=.agg cs1) rfl HG.o (fun w' hS=>by exact Rg.Bv (by simp only[List.map_toArray,List.map_cons,List.map_nil];rfl) HB1.o) ?_;refine Reg.b1 8 ?_
   right
   refine⟨_,_,_,_,_,_,32,#[.pointer (some ⟨p.k,0,none⟩),.agg cs1,.int .i64 5,.agg csK],rfl,by rfl,(by go_simp<;>first | rfl | exact⟨rfl,rfl⟩),?_⟩;refine Calls.mono (CA1.o _ HK.o.st) ?_;rintro e wap36 ⟨cs,es2,rfl,hre,hk⟩;have HCS:=I (CH hre);have hnb:=hk.blk HG.o HOG.o.no;replace HOG:=I (hk.off HOG.o HG.o.lt);replace HG:=I hnb;clear hnb;have HRE:=I (Ij hre HK.o.size HT.o.lt);have hnb:=hk.blk HT.o HOT.o.no;replace HOT:=I (hk.off HOT.o HT.o.lt);replace HT:=I hnb;clear hnb;replace HK:=I (HK.o.trans hk);clear hk hre;refine⟨_,rfl,HG.o,?_⟩;simp only[Act.put,U,Aa,Ab];refine Reg.ty 9 rfl HG.o ?_;refine Reg.ty 10 rfl HG.o ?_;refine Reg.ty 11 rfl HG.o ?_;refine Reg.AP 13 rfl (by kernel_rfl) (by rfl) PT 43 _ cs HT.o (by rfl) (by rfl) (by rw[HCS.o.1];rfl) (by rw[HCS.o.1];exact AK) HCS.o.2 ?_;intro Vp40 hV hg;have HGT:=I (FG HK.o HRE.o HOT.o HPT.o hV hg);replace HG:=I (HG.o.grown hg (fun e=>by injection e with e;exact HNEHG.o e.symm));clear hV hg HT HK HRE HOT HPT HCS;refine⟨HG.o,?_⟩;simp only[Act.put,U,Aa,Ab];refine Reg.ty 14 rfl HG.o ?_;refine wpAnyH_done (by kernel_rfl) ?_ _
   go_wp2_with fail
   go_meet
   exact⟨PT,_,_,rfl,rfl,HGT.o⟩
 case rest=>
  obtain⟨PT,cs,es2,rfl,rfl,hgt⟩:=hcut;have HPT:=I (show PT<wc.heap.size/\PT≠g from⟨hgt.blk.lt,fun e=>by have:=HG.o.lt;have:=hgt.lo;omega⟩);have HK4:=re_k hgt.blk hgt.re;have HTO:=I hgt.off;have HTB:=I hgt.blk;have HTR:=I hgt.re;rw[HR1.o.2] at HK4;replace HK4:=I HK4;replace HKS:=I (show KS wc w.heap.size p es2 none 2 1 4 by have:=hgt.kn.st;rw[HR1.o.1] at this;exact this);replace HIT:=I ((KZ hgt.kn.eq).trans HIT.o);replace HBB:=I (HBB.o.trans (hgt.kn.base HS0.o));replace HG:=I (hgt.kn.blk HG.o HOG.o.no);replace HOG:=I (hgt.kn.off HOG.o HG0.o);have HS1:=I HKS.o;have HG1:=I (show g<wc.heap.size from HG.o.lt);rw[HR1.o.1];clear hgt CA1 HR1 ER HS0 HG0
  go_upto_region 5 with fail
  go_cut [4,5] from 21 to 32 (fun rv ev wx=>∃(PT:Nat) (cs:Array Value) (es3:List Ent),rv=.pointer (some ⟨PT,0,none⟩)/\ev=.int .i64 6/\Got wc wx w.heap.size p es2 es3 2 1 8 PT cs Ms.re0)
  case first=>
   have hdr:Below wc.heap.size wc wc.drew:=below_drewN Ah 1;have HK:=I (Kn.start HKS.o hdr);replace HG:=I (HG.o.below hdr);clear hdr;refine Reg.Bx (fun w'=>Blk w' g 49 (scC p.k d.x)) 15 rfl (by kernel_rfl) HG.o ?_;refine Reg.ty 0 rfl HG.o ?_;refine Reg.ty 1 rfl HG.o ?_;refine Reg.ty 2 rfl HG.o ?_;refine Reg.tw 3 rfl HG.o (fun w' hS=>by have k0:=Blk.cell hS 0;go_simp<;>rfl) ?_;refine Reg.tw 7 (v:=.agg csK) rfl HG.o (fun w' hS=>by exact Rg.Bv (by simp only[List.map_toArray,List.map_cons,List.map_nil];rfl) HBK.o) ?_;refine Reg.b2 4 12 ?_ ?_
   ·right
    refine⟨_,_,_,_,_,_,9,#[],rfl,by rfl,(by go_simp<;>first | rfl | exact⟨rfl,rfl⟩),?_⟩;refine Aj (T3.o _) ?_;rintro wlq47 hb;replace HG:=I (HG.o.below hb);replace HK:=I (HK.o.below hb);clear hb;refine⟨_,rfl,HG.o,?_⟩;simp only[Act.put,U,Aa,Ab];refine Reg.b2 5 12 ?_ ?_
    ·right
     refine⟨_,_,_,_,_,_,8,#[],rfl,by rfl,(by go_simp<;>first | rfl | exact⟨rfl,rfl⟩),?_⟩;refine Aj (T1.o _) ?_;rintro wlq48 hb;replace HG:=I (HG.o.below hb);replace HK:=I (HK.o.below hb);clear hb;refine⟨_,rfl,HG.o,?_⟩;simp only[Act.put,U,Aa,Ab];refine Reg.tw 6 (v:=.agg cs2) rfl HG.o (fun w' hS=>by exact Rg.Bv (by simp only[List.map_toArray,List.map_cons,List.map_nil];rfl) HB2.o) ?_;refine Reg.b2 8 12 ?_ ?_
     ·right
      refine⟨_,_,_,_,_,_,32,#[.pointer (some ⟨p.k,0,none⟩),.agg cs2,.int .i64 5,.agg csK],rfl,by rfl,(by go_simp<;>first | rfl | exact⟨rfl,rfl⟩),?_⟩;refine Calls.mono (CA2.o _ _ HIT.o HK.o.st) ?_;rintro e waq50 ⟨cs,es2,rfl,hre,hk⟩;have HCS:=I (CH hre);have hnb:=hk.blk HG.o HOG.o.no;replace HOG:=I (hk.off HOG.o HG.o.lt);replace HG:=I hnb;clear hnb;have HRE:=I hre;have HRS:=I HK.o.size;replace HK:=I (HK.o.trans hk);clear hk hre;refine⟨_,rfl,HG.o,?_⟩;simp only[Act.put,U,Aa,Ab];refine Reg.ty 9 rfl HG.o ?_;refine Reg.ty 10 rfl HG.o ?_;refine Reg.ty 11 rfl HG.o ?_;refine Reg.b1 12 ?_
      left
      have hb:Below waq50.heap.size waq50 (waq50.alloc (.cells reZ 43)):=Ah.alloc Ag _;have hnb:=Blk.new waq50 43 reZ;have HNEHG:=I (show g≠waq50.heap.size from Nat.ne_of_lt HG.o.lt);have HPT:=I (show wc.heap.size<=waq50.heap.size from HK.o.size);have HOT:=I (HK.o.st.offs (Nat.le_refl waq50.heap.size));refine⟨_,_,_,_,_,_,.pointer (some ⟨waq50.heap.size,0,none⟩),waq50.alloc (.cells reZ 43),rfl,by rfl,(by go_simp<;>rfl),(HG.o.below hb),?_⟩;simp only[Act.put,U,Aa,Ab];obtain⟨wtq54,ewtq54⟩:=Ak (waq50.alloc (.cells reZ 43));rw[<-ewtq54] at hb hnb⊢;clear ewtq54;replace HRE:=I (Tv HRE.o HRS.o Ag hb);clear HRS;have HT:=I hnb;clear hnb;replace HG:=I (HG.o.below hb);replace HK:=I (HK.o.below hb);clear hb;obtain⟨PT,ePT⟩:=Ak (waq50.heap.size);rw[<-ePT] at HT HPT HOT HNEHG HRE⊢;clear ePT;refine Reg.AP 13 rfl (by kernel_rfl) (by rfl) PT 43 _ cs HT.o (by rfl) (by rfl) (by rw[HCS.o.1];rfl) (by rw[HCS.o.1];exact AK) HCS.o.2 ?_;intro Vq55 hV hg;have HGT:=I (FG HK.o HRE.o HOT.o HPT.o hV hg);replace HG:=I (HG.o.grown hg (fun e=>by injection e with e;exact HNEHG.o e.symm));clear hV hg HT HK HRE HOT HPT HCS;refine⟨HG.o,?_⟩;simp only[Act.put,U,Aa,Ab];refine Reg.ty 14 rfl HG.o ?_;refine wpAnyH_done (by kernel_rfl) ?_ _
      go_wp2_with fail
      go_meet
      exact⟨PT,_,_,rfl,rfl,HGT.o⟩
     ·left
      have hb:Below wlq48.heap.size wlq48 (wlq48.alloc (.cells reZ 43)):=Ah.alloc Ag _;have hnb:=Blk.new wlq48 43 reZ;have HNEHG:=I (show g≠wlq48.heap.size from Nat.ne_of_lt HG.o.lt);have HPT:=I (show wc.heap.size<=wlq48.heap.size from HK.o.size);have HOT:=I (HK.o.st.offs (Nat.le_refl wlq48.heap.size));refine⟨_,_,_,_,_,_,.pointer (some ⟨wlq48.heap.size,0,none⟩),wlq48.alloc (.cells reZ 43),rfl,by rfl,(by go_simp<;>rfl),(HG.o.below hb),?_⟩;simp only[Act.put,U,Aa,Ab];obtain⟨wtq57,ewtq57⟩:=Ak (wlq48.alloc (.cells reZ 43));rw[<-ewtq57] at hb hnb⊢;clear ewtq57;have HT:=I hnb;clear hnb;replace HG:=I (HG.o.below hb);replace HK:=I (HK.o.below hb);clear hb;obtain⟨PT,ePT⟩:=Ak (wlq48.heap.size);rw[<-ePT] at HT HPT HOT HNEHG⊢;clear ePT;refine Reg.b1 8 ?_
      right
      refine⟨_,_,_,_,_,_,32,#[.pointer (some ⟨p.k,0,none⟩),.agg cs2,.int .i64 5,.agg csK],rfl,by rfl,(by go_simp<;>first | rfl | exact⟨rfl,rfl⟩),?_⟩;refine Calls.mono (CA2.o _ _ HIT.o HK.o.st) ?_;rintro e waq58 ⟨cs,es2,rfl,hre,hk⟩;have HCS:=I (CH hre);have hnb:=hk.blk HG.o HOG.o.no;replace HOG:=I (hk.off HOG.o HG.o.lt);replace HG:=I hnb;clear hnb;have HRE:=I (Ij hre HK.o.size HT.o.lt);have hnb:=hk.blk HT.o HOT.o.no;replace HOT:=I (hk.off HOT.o HT.o.lt);replace HT:=I hnb;clear hnb;replace HK:=I (HK.o.trans hk);clear hk hre;refine⟨_,rfl,HG.o,?_⟩;simp only[Act.put,U,Aa,Ab];refine Reg.ty 9 rfl HG.o ?_;refine Reg.ty 10 rfl HG.o ?_;refine Reg.ty 11 rfl HG.o ?_;refine Reg.AP 13 rfl (by kernel_rfl) (by rfl) PT 43 _ cs HT.o (by rfl) (by rfl) (by rw[HCS.o.1];rfl) (by rw[HCS.o.1];exact AK) HCS.o.2 ?_;intro Vq62 hV hg;have HGT:=I (FG HK.o HRE.o HOT.o HPT.o hV hg);replace HG:=I (HG.o.grown hg (fun e=>by injection e with e;exact HNEHG.o e.symm));clear hV hg HT HK HRE HOT HPT HCS;refine⟨HG.o,?_⟩;simp only[Act.put,U,Aa,Ab];refine Reg.ty 14 rfl HG.o ?_;refine wpAnyH_done (by kernel_rfl) ?_ _
      go_wp2_with fail
      go_meet
      exact⟨PT,_,_,rfl,rfl,HGT.o⟩
    ·left
     have hb:Below wlq47.heap.size wlq47 (wlq47.alloc (.cells reZ 43)):=Ah.alloc Ag _;have hnb:=Blk.new wlq47 43 reZ;have HNEHG:=I (show g≠wlq47.heap.size from Nat.ne_of_lt HG.o.lt);have HPT:=I (show wc.heap.size<=wlq47.heap.size from HK.o.size);have HOT:=I (HK.o.st.offs (Nat.le_refl wlq47.heap.size));refine⟨_,_,_,_,_,_,.pointer (some ⟨wlq47.heap.size,0,none⟩),wlq47.alloc (.cells reZ 43),rfl,by rfl,(by go_simp<;>rfl),(HG.o.below hb),?_⟩;simp only[Act.put,U,Aa,Ab];obtain⟨wtq64,ewtq64⟩:=Ak (wlq47.alloc (.cells reZ 43));rw[<-ewtq64] at hb hnb⊢;clear ewtq64;have HT:=I hnb;clear hnb;replace HG:=I (HG.o.below hb);replace HK:=I (HK.o.below hb);clear hb;obtain⟨PT,ePT⟩:=Ak (wlq47.heap.size);rw[<-ePT] at HT HPT HOT HNEHG⊢;clear ePT;refine Reg.b1 5 ?_
     right
     refine⟨_,_,_,_,_,_,8,#[],rfl,by rfl,(by go_simp<;>first | rfl | exact⟨rfl,rfl⟩),?_⟩;refine Aj (T1.o _) ?_;rintro wlq65 hb;replace HG:=I (HG.o.below hb);replace HK:=I (HK.o.below hb);replace HT:=I (HT.o.below hb);clear hb;refine⟨_,rfl,HG.o,?_⟩;simp only[Act.put,U,Aa,Ab];refine Reg.tw 6 (v:=.agg cs2) rfl HG.o (fun w' hS=>by exact Rg.Bv (by simp only[List.map_toArray,List.map_cons,List.map_nil];rfl) HB2.o) ?_;refine Reg.b1 8 ?_
     right
     refine⟨_,_,_,_,_,_,32,#[.pointer (some ⟨p.k,0,none⟩),.agg cs2,.int .i64 5,.agg csK],rfl,by rfl,(by go_simp<;>first | rfl | exact⟨rfl,rfl⟩),?_⟩;refine Calls.mono (CA2.o _ _ HIT.o HK.o.st) ?_;rintro e waq67 ⟨cs,es2,rfl,hre,hk⟩;have HCS:=I (CH hre);have hnb:=hk.blk HG.o HOG.o.no;replace HOG:=I (hk.off HOG.o HG.o.lt);replace HG:=I hnb;clear hnb;have HRE:=I (Ij hre HK.o.size HT.o.lt);have hnb:=hk.blk HT.o HOT.o.no;replace HOT:=I (hk.off HOT.o HT.o.lt);replace HT:=I hnb;clear hnb;replace HK:=I (HK.o.trans hk);clear hk hre;refine⟨_,rfl,HG.o,?_⟩;simp only[Act.put,U,Aa,Ab];refine Reg.ty 9 rfl HG.o ?_;refine Reg.ty 10 rfl HG.o ?_;refine Reg.ty 11 rfl HG.o ?_;refine Reg.AP 13 rfl (by kernel_rfl) (by rfl) PT 43 _ cs HT.o (by rfl) (by rfl) (by rw[HCS.o.1];rfl) (by rw[HCS.o.1];exact AK) HCS.o.2 ?_;intro Vq71 hV hg;have HGT:=I (FG HK.o HRE.o HOT.o HPT.o hV hg);replace HG:=I (HG.o.grown hg (fun e=>by injection e with e;exact HNEHG.o e.symm));clear hV hg HT HK HRE HOT HPT HCS;refine⟨HG.o,?_⟩;simp only[Act.put,U,Aa,Ab];refine Reg.ty 14 rfl HG.o ?_;refine wpAnyH_done (by kernel_rfl) ?_ _
     go_wp2_with fail
     go_meet
     exact⟨PT,_,_,rfl,rfl,HGT.o⟩
   ·left
    have hb:Below wc.drew.heap.size wc.drew (wc.drew.alloc (.cells reZ 43)):=Ah.alloc Ag _;have hnb:=Blk.new wc.drew 43 reZ;have HNEHG:=I (show g≠wc.drew.heap.size from Nat.ne_of_lt HG.o.lt);have HPT:=I (show wc.heap.size<=wc.drew.heap.size from HK.o.size);have HOT:=I (HK.o.st.offs (Nat.le_refl wc.drew.heap.size));refine⟨_,_,_,_,_,_,.pointer (some ⟨wc.drew.heap.size,0,none⟩),wc.drew.alloc (.cells reZ 43),rfl,by rfl,(by go_simp<;>rfl),(HG.o.below hb),?_⟩;simp only[Act.put,U,Aa,Ab];obtain⟨wtq73,ewtq73⟩:=Ak (wc.drew.alloc (.cells reZ 43));rw[<-ewtq73] at hb hnb⊢;clear ewtq73;have HT:=I hnb;clear hnb;replace HG:=I (HG.o.below hb);replace HK:=I (HK.o.below hb);clear hb;obtain⟨PT,ePT⟩:=Ak (wc.drew.heap.size);rw[<-ePT] at HT HPT HOT HNEHG⊢;clear ePT;refine Reg.b1 4 ?_
    right
    refine⟨_,_,_,_,_,_,9,#[],rfl,by rfl,(by go_simp<;>first | rfl | exact⟨rfl,rfl⟩),?_⟩;refine Aj (T3.o _) ?_;rintro wlq74 hb;replace HG:=I (HG.o.below hb);replace HK:=I (HK.o.below hb);replace HT:=I (HT.o.below hb);clear hb;refine⟨_,rfl,HG.o,?_⟩;simp only[Act.put,U,Aa,Ab];refine Reg.b1 5 ?_
    right
    refine⟨_,_,_,_,_,_,8,#[],rfl,by rfl,(by go_simp<;>first | rfl | exact⟨rfl,rfl⟩),?_⟩;refine Aj (T1.o _) ?_;rintro wlq75 hb;replace HG:=I (HG.o.below hb);replace HK:=I (HK.o.below hb);replace HT:=I (HT.o.below hb);clear hb;refine⟨_,rfl,HG.o,?_⟩;simp only[Act.put,U,Aa,Ab];refine Reg.tw 6 (v:=.agg cs2) rfl HG.o (fun w' hS=>by exact Rg.Bv (by simp only[List.map_toArray,List.map_cons,List.map_nil];rfl) HB2.o) ?_;refine Reg.b1 8 ?_
    right
    refine⟨_,_,_,_,_,_,32,#[.pointer (some ⟨p.k,0,none⟩),.agg cs2,.int .i64 5,.agg csK],rfl,by rfl,(by go_simp<;>first | rfl | exact⟨rfl,rfl⟩),?_⟩;refine Calls.mono (CA2.o _ _ HIT.o HK.o.st) ?_;rintro e waq77 ⟨cs,es2,rfl,hre,hk⟩;have HCS:=I (CH hre);have hnb:=hk.blk HG.o HOG.o.no;replace HOG:=I (hk.off HOG.o HG.o.lt);replace HG:=I hnb;clear hnb;have HRE:=I (Ij hre HK.o.size HT.o.lt);have hnb:=hk.blk HT.o HOT.o.no;replace HOT:=I (hk.off HOT.o HT.o.lt);replace HT:=I hnb;clear hnb;replace HK:=I (HK.o.trans hk);clear hk hre;refine⟨_,rfl,HG.o,?_⟩;simp only[Act.put,U,Aa,Ab];refine Reg.ty 9 rfl HG.o ?_;refine Reg.ty 10 rfl HG.o ?_;refine Reg.ty 11 rfl HG.o ?_;refine Reg.AP 13 rfl (by kernel_rfl) (by rfl) PT 43 _ cs HT.o (by rfl) (by rfl) (by rw[HCS.o.1];rfl) (by rw[HCS.o.1];exact AK) HCS.o.2 ?_;intro Vq81 hV hg;have HGT:=I (FG HK.o HRE.o HOT.o HPT.o hV hg);replace HG:=I (HG.o.grown hg (fun e=>by injection e with e;exact HNEHG.o e.symm));clear hV hg HT HK HRE HOT HPT HCS;refine⟨HG.o,?_⟩;simp only[Act.put,U,Aa,Ab];refine Reg.ty 14 rfl HG.o ?_;refine wpAnyH_done (by kernel_rfl) ?_ _
    go_wp2_with fail
    go_meet
    exact⟨PT,_,_,rfl,rfl,HGT.o⟩
  case rest=>
   obtain⟨PT2,cs2,es3,rfl,rfl,hgt⟩:=hcut;have ht:=hgt.kn.blk HTB.o HTO.o.no;replace HK4:=(ht.cell 4).trans ((HTB.o.cell 4).symm.trans HK4.o);replace HG:=I (hgt.kn.blk HG.o HOG.o.no);have kg0:=HG.o.cell 0;have CI:=I (Ym hgt.kn.st.k (by omega));have HBF:=I (HBB.o.trans (hgt.kn.base HS1.o));clear hgt ht
   go_wp2_with (first
    |(go_at_call 33;refine Aj CI.o ?_;rintro wi hw;clear CI;subst hw)
    |fail)
   go_ret;exact⟨rfl,HBF.o⟩
end Kd
namespace Kd
open Go.RowKit Af Se
open Rg (It Cp Bz Bw)
open Ms (Re As Tg Pt An Rp pSm reC ptO anO ptB anB rpB prB tmB tgB ptE anE rpE)
open SeL (Bd AN)
open Nm (krb)
theorem aH (q:Tg) (v1 v2:Value) (h:v1.oneCell'=true/\v2.oneCell'=true):(tgA q v1 v2).all (·.oneCell')=true:=by
 have e:(tgA q v1 v2).all (·.oneCell')=(v1.oneCell'&&v2.oneCell'):=by simp [tgA,Value.oneCell']
 rw[e,h.1,h.2];rfl
theorem Wp {S:Nat->Prop} {w:World} {v:Value} {l:Nm.L} (h:SlN S w v l):v.oneCell'=true:=by
 obtain⟨A,c,rfl,_⟩:=h
 rfl
theorem Yp (s t:Nm.L×Nm.L) (ks:Nat->UInt8) (p:Pt) (a:An) (u:Int) (hk:p.ss.length=32) (hp:ptB p=true) (ha:anB a=true) :
  ∃x1 x2,reqQ s ks p a t u=⟨⟨s,1,x1⟩,x2,t,u,4⟩/\∀(w:World) (cK cP cA:Array Value),cK=AO ks->cP=ptA p->cA=anA a->Calls Tryz.prog 5 #[prV s,.agg cK,.agg cP,.agg cA,prV t,.int .i64 u] w fun e w'=>∃v1 v2,e=.returned (.tuple #[.agg (tgA ⟨⟨s,1,x1⟩,x2,t,u,4⟩ v1 v2),.bool true])/\SlN (fun j=>j<w.heap.size) w' v1 x1/\SlN (fun j=>j<w.heap.size) w' v2 x2/\Below w.heap.size w w':=by
 have l1:=Hr hk hp;have l2:=KW ha;have hs:=Ha hp;have hc:pSm a.c:=by
  have h':prB a.c=true/\tmB a.t=true/\tmB a.q=true:=by simpa [anB] using ha
  have:=Ms.Fp h'.1;exact⟨by omega,by omega⟩
 refine⟨(Bd ks 2 77 (ptE p)).1,(Bd (ksOf p.ss) 7 78 (anE a)).1,?_,fun w cK cP cA eK eP eA=>?_⟩
 ·rw[reqQ,Gq hk hp,Jq ha];rfl
 ·exact an s t u w hk hs.2.2.1 (by omega) hc eK eP eA (Gq hk hp) (Jq ha) (by rw[GP (by omega) (by omega) (by omega) (by omega) (by omega)]) (by rw[GP (by omega) (by omega) (by omega) (by omega) (by omega)])
theorem Yq {n:Nat} {now u st en:Int} {a:An} {t:Nm.L×Nm.L} {d:Nm.L} (h1:tmB st=true) (h2:tmB en=true) (ha:anB a=true) (ht:prB t=true) (hu:tmB u=true) (hn:tmB now=true) :
  tgsL rA tT itA n (reqQ (kr rA rA) (kq 10) ⟨pAnn,kb 5,[],st,en⟩ a t u) now d =
   if en<now then (7,Ms.re0) else if now+5<st then (8,Ms.re0) else
   if a.c=pAnn then (if a.t<now - 5\/now+5<a.t then (8,Ms.re0) else
    if (tarL rA tT itA t).1=0 then (if u<now then (7,Ms.re0) else ansL itA n pAnn (tarL rA tT itA t).2 ⟨pAnn,d,[],now,min u en⟩ 4 (ksOf (kb 5)) 8) else ((tarL rA tT itA t).1,Ms.re0)) else (9,Ms.re0):=by
 have hk:(⟨pAnn,kb 5,[],st,en⟩:Pt).ss.length=32:=Kb 5;have hp:ptB ⟨pAnn,kb 5,[],st,en⟩=true:=by
  have:prB pAnn=true:=by decide +kernel
  simp [ptB,this,h1,h2,Ms.txtB]
 have hf:Cp itA (kr rA rA) 1=some 0:=by decide +kernel
 have hi:keyO itA (some 0)=kq 10:=rfl;have ho:=UG (R:=rA) (l:=itA) (t:=t) (a:=a) (u:=u) (now:=now) hk hp rfl hf hi;have hx:=UH (s:=kr rA rA) (t:=t) (ks:=kq 10) (p:=⟨pAnn,kb 5,[],st,en⟩) (u:=u) (now:=now) (c:=pAnn) ha;have hm:=Xw (s:=kr rA rA) (t:=t) (ks:=kq 10) (p:=⟨pAnn,kb 5,[],st,en⟩) (a:=a) (u:=u) hk hp ha (by decide +kernel) ht hu;unfold tgsL;rw[if_pos (by rw[hn,hm];rfl),ho]
 by_cases g1:en<now
 ·rw[if_pos g1,if_pos g1];rfl
 ·rw[if_neg g1,if_neg g1]
  by_cases g2:now+5<st
  ·rw[if_pos g2,if_pos g2];rfl
  ·rw[if_neg g2,if_neg g2]
   simp only[hx]
   by_cases g3:a.c=pAnn
   ·rw[if_pos g3,if_pos g3]
    by_cases g4:a.t<now - 5\/now+5<a.t
    ·rw[if_pos g4,if_pos g4];rfl
    ·rw[if_neg g4,if_neg g4]
     have hq:(reqQ (kr rA rA) (kq 10) ⟨pAnn,kb 5,[],st,en⟩ a t u).s=t:=rfl;have hq2:(reqQ (kr rA rA) (kq 10) ⟨pAnn,kb 5,[],st,en⟩ a t u).u=u:=rfl;have hq3:(reqQ (kr rA rA) (kq 10) ⟨pAnn,kb 5,[],st,en⟩ a t u).no=4:=rfl;have hq4:(reqQ (kr rA rA) (kq 10) ⟨pAnn,kb 5,[],st,en⟩ a t u).t.s.1=rA:=rfl;have htr:trsL rA ⟨pAnn,kb 5,[],st,en⟩ rA t=([],0):=by unfold trsL;rw[if_pos (.inl rfl)]
     rw[hq,hq2,hq3,hq4,htr]
     rfl
   ·rw[if_neg g3,if_neg g3];rfl
end Kd
end Go.Proofs.YtlchkbpffaclmaaGreat
