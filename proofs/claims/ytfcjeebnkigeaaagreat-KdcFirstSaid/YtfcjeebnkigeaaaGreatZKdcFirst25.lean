import Derived.Test.YtfcjeebnkigeaaaGreatZKdcFirst22
import Derived.Test.YtfcjeebnkigeaaaGreatZKdcFirst24
set_option maxHeartbeats 25600000
set_option maxRecDepth 100000
set_option linter.unusedVariables false
set_option linter.unusedSimpArgs false
namespace Go.Proofs.YtfcjeebnkigeaaaGreat
section
namespace Kd
open Go.RowKit Af Se
open Nm (strs Bv)
open Rg (It Ent Ring RO its DRing DO)
open Rt (Tp Sm SlV SlP TpV isT)
section
variable {w:World} {B:Nat} {l:List It} {T:Tp} {R:Nm.L} {v1 v2 v:Value} {q lo hi:Nat}
theorem Ve (hs:Sm T) (hT:isT T=true) (hR:R∈T.R) (ht:TpK (fun b=>lo≤b∧b<hi) w v1 v2 (.slice none 0 0) T) (hlo:B≤lo) (hhi:hi≤w.heap.size) (hd:DRing w B q v l) (hB:B≤w.heap.size) :
  Calls Tryz.prog 46 #[.string ⟨R.toArray⟩,.agg (tpA v1 v2),.pointer (some ⟨q,0,none⟩)] w fun e w'=>∃x,e = .returned (.tuple #[.pointer (some ⟨x,0,none⟩),.int .i64 0])∧w.heap.size≤x∧DK w' B ⟨x,q,lo,hi,R,T,v,v1,v2,.slice none 0 0⟩ l 0 0∧Below w.heap.size w w':=by
 obtain⟨A1,c1,A2,c2,rfl,rfl,_⟩:=ht.sizes;obtain⟨W,eW⟩:∃W,W=w.alloc (.cells (tpA (.slice A1 T.R.length c1) (.slice A2 T.K.length c2)) 60):=⟨_,rfl⟩;have hb:Below w.heap.size w W:=eW▸(Below.refl _ _).alloc (Nat.le_refl _) _;have htW:TpK (fun b=>lo≤b∧b<hi) W (.slice A1 T.R.length c1) (.slice A2 T.K.length c2) (.slice none 0 0) T:=ht.keep (fun b o hb2=>World.cell?_of_block (a:=⟨b,o,none⟩) (hb.block b (by have:=hb2.2;omega))) (fun _ x=>x);have HT:=I (show Blk W w.heap.size 60 (tpA (.slice A1 T.R.length c1) (.slice A2 T.K.length c2)) from eW▸Blk.new w _ _);have HB:=I hb;have CI:=I (Rt.Uq T _ hi W hs (htW.tpv (fun b x=>x.2)) (Nat.le_trans hhi hb.size));rw[hT] at CI;have CP:=I (fun(w1:World) (b1:Below w.heap.size w w1)=>Rt.DJ T.R A1 c1 hi R w1 (by have:=hs.r;omega) (by
  obtain⟨A,c,e,_,h⟩:=ht.r.slv (B:=hi) (fun b x=>x.2);injection e with e1 _ _;subst e1;exact h.below (b1.mono hhi)))
 have hix:¬Tr.ixL R T.R<0:=by
  rw[Tr.ixL,if_pos hR];omega
 have HTP:=I ht;have HDR:=I hd;have HLO:=I hlo;have HHI:=I hhi;have HBW:=I hB;obtain⟨n,en⟩:∃n,n=T.R.length:=⟨_,rfl⟩;obtain⟨m,em⟩:∃m,m=T.K.length:=⟨_,rfl⟩;obtain⟨ix,eix⟩:∃z,z=Tr.ixL R T.R:=⟨_,rfl⟩;rw[←eix] at CP hix;rw[←en] at CI CP HT eW HTP⊢;rw[←em] at CI HT eW HTP⊢;clear hs hT hR ht hlo hhi hd hB hb htW en em eix;go_enter Tryz.func46,Tryz.ntmps46
 go_upto_region 1 with fail
 rw[←eW];clear eW;have kq0:=HT.o.cell 0;have kq1:=HT.o.cell 1;have kq2:=HT.o.cell 2
 go_upto_region 3 with(first
  |(go_at_call 103;refine Calls.mono CI.o ?_;rintro e w2 ⟨rfl,hb⟩;clear CI kq0 kq1 kq2;replace HT:=I (HT.o.below hb);replace HB:=HB.t hb;have kq0:=HT.o.cell 0;have kq1:=HT.o.cell 1;have kq2:=HT.o.cell 2;clear hb)
  |(go_at_call 104;refine Calls.mono (CP.o _ HB.o) ?_;rintro e w3 ⟨rfl,hw⟩;clear CP;subst hw)
  |fail)
 go_wp2_with fail
 go_ret2
 have hsz:=HB.o.size;have hlo:=HLO.o;have hhi:=HHI.o;have hbw:=HBW.o;have hb2:Below w2.heap.size w2 (w2.alloc (.cells #[.string ⟨R.toArray⟩,.slice A1 n c1,.slice A2 m c2,.slice none 0 0,.pointer (some ⟨q,0,none⟩),.int .i64 0,.int .i64 0] 63)):=(Below.refl _ _).alloc (Nat.le_refl _) _;have hbc:=HB.o.trans (hb2.mono hsz);refine⟨w2.heap.size,rfl,hsz,⟨Blk.new _ _ _,HDR.o.below hbc,?_,?_,hlo,?_,?_,?_⟩,hbc⟩
 ·exact HTP.o.keep (fun b o hb=>World.cell?_of_block (a:=⟨b,o,none⟩) (hbc.block b (by have:=hb.2;omega))) (fun b hb=>hb)
 ·show B≤w2.heap.size;omega
 ·show hi≤_;have:=hbc.size;omega
 ·intro hx;have:=HDR.o.own_lt hx;simp only at this;omega
 ·intro hx;have:=hx.2;simp only at this;omega
end
end Kd
end
section
namespace Kd
open Go.RowKit Af Se
open Rg (It Ent Ring RO DRing DO Ap its Kk)
theorem Lv {w:World} {B q:Nat} (hq:Blk w q 115 #[.slice none 0 0]) (hB:B≤q):DRing w B q (.slice none 0 0) []:=
 ⟨hq,World.ownsRow_nil w B _ 35,hB,by simp [Value.ownBlock]⟩
theorem Bs {w w':World} {g:Nat} {t:TypeId} {cs:Array Value} (h:Blk w g t cs) (e:w'.heap[g]? = w.heap[g]?):Blk w' g t cs:=e.trans h
theorem WW (w:World):Calls Tryz.prog 16 #[.bool false] w fun e w'=>∃g p es d,e = .returned (.pointer (some ⟨g,0,none⟩))∧Scn false w w' g p es d:=by
 have C1:=I (fun(w1:World)=>Kk w1.heap.size w1 (Nat.le_refl _));have T1:=I (fun(w1:World)=>Gz rA rA (by decide) w1);have T2:=I (fun(w1:World)=>Gz rA rE (by decide) w1);have T3:=I (fun(w1:World)=>Gz rE rA (by decide) w1);have T4:=I (fun(w1:World)=>Hu w1);have T5:=I (fun(w1:World)=>Gy w1);go_enter Tryz.func16,Tryz.ntmps16
 go_upto_region 2 with(first
  |(go_at_call 39;refine Calls.mono (C1.o _) ?_;rintro e w1 ⟨r,rfl,hr1,hr2,hb⟩;clear C1;have HR:=I hr2;have HB:=I hb;clear hr2 hb)
  |fail)
 obtain⟨W2,eW2⟩:∃z,z=w1.alloc (.cells #[.slice none 0 0] 115):=⟨_,rfl⟩;have hb:Below w1.heap.size w1 W2:=eW2▸(Below.refl _ _).alloc (Nat.le_refl _) _;have hw1:=HB.o.size;have HS:=I (show Sc false W2 w.heap.size r (.slice none 0 0) [] w1.heap.size (.slice none 0 0) 0 (fun _=>False) from⟨HR.o.below hb,Lv (eW2▸Blk.new w1 _ _) hw1,rfl,(fun j e he=>by simp at he),(fun k hk x=>by
  rcases hk with hk | hk
  ·have:=HR.o.own_lt x;omega
  ·simp [Value.ownBlock] at hk),fun k hk=>hk.elim⟩)
 replace HB:=I (HB.o.trans (hb.mono hw1));rw[←eW2];clear eW2 hb hw1 HR hr1;obtain⟨q,eq⟩:∃z,z=w1.heap.size:=⟨_,rfl⟩;rw[←eq] at HS⊢;clear eq
 go_upto_region 9 with(first
  |(go_at_call 28;refine Calls.mono (T1.o _) ?_;rintro e xT1 ⟨rfl,hb⟩;clear T1;replace HS:=I (HS.o.below hb);replace HB:=HB.t hb;clear hb)
  |(go_at_call 28;refine Calls.mono (T2.o _) ?_;rintro e xT2 ⟨rfl,hb⟩;clear T2;replace HS:=I (HS.o.below hb);replace HB:=HB.t hb;clear hb)
  |(go_at_call 28;refine Calls.mono (T3.o _) ?_;rintro e xT3 ⟨rfl,hb⟩;clear T3;replace HS:=I (HS.o.below hb);replace HB:=HB.t hb;clear hb)
  |(go_at_call 27;refine Calls.mono (T4.o _) ?_;rintro e xT4 ⟨rfl,hb⟩;clear T4;replace HS:=I (HS.o.below hb);replace HB:=HB.t hb;clear hb)
  |(go_at_call 34;refine Calls.mono (T5.o _) ?_;rintro e xT5 ⟨rfl,hb⟩;clear T5;replace HS:=I (HS.o.below hb);replace HB:=HB.t hb;clear hb)
  |fail)
 obtain⟨W3,eW3⟩:∃z,z=xT5.alloc (.cells #[.string ⟨(kr rA rA).1.toArray⟩,.string ⟨(kr rA rA).2.toArray⟩,.string ⟨(kr rA rE).1.toArray⟩,.string ⟨(kr rA rE).2.toArray⟩,.string ⟨(kr rE rA).1.toArray⟩,.string ⟨(kr rE rA).2.toArray⟩,.string ⟨(pAnn).1.toArray⟩,.string ⟨(pAnn).2.toArray⟩,.string ⟨(Cx).1.toArray⟩,.string ⟨(Cx).2.toArray⟩] 27):=⟨_,rfl⟩;have hb:Below xT5.heap.size xT5 W3:=eW3▸(Below.refl _ _).alloc (Nat.le_refl _) _;have HL:=I (show Blk W3 xT5.heap.size 27 #[.string ⟨(kr rA rA).1.toArray⟩,.string ⟨(kr rA rA).2.toArray⟩,.string ⟨(kr rA rE).1.toArray⟩,.string ⟨(kr rA rE).2.toArray⟩,.string ⟨(kr rE rA).1.toArray⟩,.string ⟨(kr rE rA).2.toArray⟩,.string ⟨(pAnn).1.toArray⟩,.string ⟨(pAnn).2.toArray⟩,.string ⟨(Cx).1.toArray⟩,.string ⟨(Cx).2.toArray⟩] from eW3▸Blk.new xT5 _ _);have HLB:=I HB.o.size;obtain⟨LB,eLB⟩:∃z,z=xT5.heap.size:=⟨_,rfl⟩;have HS2:=I (((HS.o.below hb).more (G2:=fun k=>k=LB) (fun k hk=>.inr ⟨by rw[hk,eLB];exact HL.o.lt,fun x=>by have:=HS.o.c.own_lt x;omega,fun x=>by have:=HS.o.d.own_lt x;omega⟩)));replace HB:=HB.t hb;rw[←eW3];rw[←eLB] at HL HLB⊢;clear eW3 hb eLB HS;have HBL:=I (show Below w.heap.size w W3 from HB.o);have HCE:=I (show ∀(j:Nat) (i:It) (w1:World),(itX false)[j]? = some i→Blk w1 LB 27 #[.string ⟨(kr rA rA).1.toArray⟩,.string ⟨(kr rA rA).2.toArray⟩,.string ⟨(kr rA rE).1.toArray⟩,.string ⟨(kr rA rE).2.toArray⟩,.string ⟨(kr rE rA).1.toArray⟩,.string ⟨(kr rE rA).2.toArray⟩,.string ⟨(pAnn).1.toArray⟩,.string ⟨(pAnn).2.toArray⟩,.string ⟨(Cx).1.toArray⟩,.string ⟨(Cx).2.toArray⟩]→w1.cell? ⟨LB,j*2,none⟩=some (.string ⟨i.p.1.toArray⟩)∧w1.cell? ⟨LB,j*2+1,none⟩=some (.string ⟨i.p.2.toArray⟩) by
  intro j i w1 hi h1
  match j,hi with
  |0,hi=>injection hi with hi;subst hi;exact⟨h1.cell 0,h1.cell 1⟩
  |1,hi=>injection hi with hi;subst hi;exact⟨h1.cell 2,h1.cell 3⟩
  |2,hi=>injection hi with hi;subst hi;exact⟨h1.cell 4,h1.cell 5⟩
  |3,hi=>injection hi with hi;subst hi;exact⟨h1.cell 6,h1.cell 7⟩
  |4,hi=>injection hi with hi;subst hi;exact⟨h1.cell 8,h1.cell 9⟩
  |j+5,hi=>simp [itX,itA] at hi)
 obtain⟨cL,ecL⟩:∃z:Array Value,z=#[.string ⟨(kr rA rA).1.toArray⟩,.string ⟨(kr rA rA).2.toArray⟩,.string ⟨(kr rA rE).1.toArray⟩,.string ⟨(kr rA rE).2.toArray⟩,.string ⟨(kr rE rA).1.toArray⟩,.string ⟨(kr rE rA).2.toArray⟩,.string ⟨(pAnn).1.toArray⟩,.string ⟨(pAnn).2.toArray⟩,.string ⟨(Cx).1.toArray⟩,.string ⟨(Cx).2.toArray⟩]:=⟨_,rfl⟩;rw[←ecL] at HL;simp only[←ecL] at HCE;clear ecL
 go_wp2
 go_loopw [7] (fun iv wr=>∃(j:Nat) (v dv:Value) (es:List Ent),j≤5∧iv = .int .i64 (j:Int)∧Sc false wr w.heap.size r v es q dv j (fun k=>k=LB)∧Blk wr LB 27 cL∧Below w.heap.size w wr) (fun iv _=>5 - (intOf iv).toNat)
 case atStart=>exact⟨0,_,_,_,Nat.zero_le _,rfl,HS2.o,HL.o,HB.o⟩
 case round=>
  obtain⟨j,v,dv,es,hj,rfl,hs,hl,hb⟩:=hrel;have HS:=I hs;replace HL:=I hl;replace HB:=I hb;clear hs hl hb HS2 HBL
  by_cases hlt:j<5
  ·have e1:(j:Int)<5:=by omega
   have e2:(0:Int)≤(j:Int):=by omega
   obtain⟨i,hi⟩:∃i,(itX false)[j]? = some i:=⟨_,List.getElem?_eq_getElem (show j<itA.length from hlt)⟩;have e3:=Ob (show j<5 by omega);have hkey:=Sr _ hi;have CK:=I (fun w1=>MQ (UInt8.ofNat (10+j)) w1);have TG:=I (fun(w1:World)=>Gz rA rE (by decide) w1);obtain⟨cK,ecK⟩:∃z,z=AP (kq (UInt8.ofNat (10+j))):=⟨_,rfl⟩;rw[←ecK] at CK;have HKS:=I (show cK.size=32 by rw[ecK];exact Ce _);have HKO:=I (show cK.all (·.oneCell')=true by rw[ecK,←Jz];exact Ea (Bf _));have HKI:=I (show(Tryz.prog.info? 47).map (·.size)=some cK.size by rw[ecK];exact EH _);have HEJ:=I ecK;obtain⟨nK,enK⟩:∃z,z=((UInt8.ofNat (10+j)).toNat:Int):=⟨_,rfl⟩;rw[←enK] at CK e3;clear ecK enK
   go_upto_region 13 with(first
    |(go_at_call 18;refine Calls.mono (CK.o _) ?_;rintro e wk ⟨rfl,hb⟩;clear CK;replace HS:=I (HS.o.below hb);replace HL:=I (HL.o.below hb);replace HB:=HB.t hb;clear hb)
    |(refine Wh.BY (by rfl) 47 (.tmp 8) (.tmp 41) (by rfl) 47 rfl cK (by rfl) (by rfl) (by rw[HKS.o];rfl) HKI.o HKO.o ?_;rintro V hV hb;have HK:=I hV;have HPK:=I (show LB<wk.heap.size from HL.o.lt);have HG:=I (show ∀k,(k=LB∨k=wk.heap.size)→k=LB∨(k<V.heap.size∧¬RO r v es k∧¬DO q dv k) from(fun k hk=>hk.elim .inl (fun e=>.inr ⟨by rw[e];exact hV.lt,fun x=>by have:=HS.o.c.own_lt x;omega,fun x=>by have:=HS.o.d.own_lt x;omega⟩)));replace HS:=I (HS.o.below hb);replace HL:=I (HL.o.below hb);replace HB:=HB.t hb;clear hb hV)
    |fail)
   obtain⟨PK,ePK⟩:∃z,z=wk.heap.size:=⟨_,rfl⟩;rw[←ePK] at HK HPK HG⊢;clear ePK;replace HS:=I (HS.o.more HG.o);clear HG;have hdr:Below V.heap.size V V.drew:=below_drewN (Below.refl _ _) 1;replace HS:=I (HS.o.below hdr);replace HL:=I (HL.o.below hdr);replace HK:=I (HK.o.below hdr);replace HB:=HB.t hdr;clear hdr
   by_cases hne:i.p=kr rA rE
   ·have q1:=Rg.Co hne
    have HEK:=I (hkey.1 hne);clear hkey hne HEJ;obtain⟨c9,ec9⟩:∃z,z=AP i.k:=⟨_,rfl⟩;have C9:=I (show ∀w1:World,Calls Tryz.prog 18 #[.int .u8 99] w1 fun e w'=>e = .returned (.agg c9)∧Below w1.heap.size w1 w' by intro w1;rw[ec9,HEK.o];exact MQ 99 w1);have H9S:=I (show cK.size=c9.size by rw[HKS.o,ec9];exact(Ce _).symm);have H9O:=I (show c9.all (·.oneCell')=true by rw[ec9,HEK.o,←Jz];exact Ea (Bf _));have H9I:=I (show(Tryz.prog.info? 47).map (·.size)=some c9.size by rw[ec9];exact EH _);clear HEK;have HEK:=I ec9;clear ec9
    go_region_held3 (fun w'=>w'.cell? ⟨LB,j*2,none⟩=some (.string ⟨i.p.1.toArray⟩)∧w'.cell? ⟨LB,j*2+1,none⟩=some (.string ⟨i.p.2.toArray⟩)) (exact HCE.o j i _ hi HL.o) ((go_at_call 28;refine Calls.mono (TG.o _) ?_;rintro e wg ⟨rfl,hb⟩;clear TG;replace HS:=I (HS.o.below hb);replace HL:=I (HL.o.below hb);replace HK:=I (HK.o.below hb);replace HB:=HB.t hb;clear hb))
    clear q1
    go_upto_region 15 with(first
     |(go_at_call 18;refine Calls.mono (C9.o _) ?_;rintro e w9 ⟨rfl,hb⟩;clear C9;replace HS:=I (HS.o.below hb);replace HL:=I (HL.o.below hb);replace HK:=I (HK.o.below hb);replace HB:=HB.t hb;clear hb)
     |(refine Wh.CU (by rfl) 47 (.tmp 8) (.tmp 48) (by rfl) PK 47 _ HK.o c9 (by rfl) (by rfl) H9S.o H9I.o H9O.o ?_;rintro V9 hV hg;replace HS:=I (HS.o.put (.inr rfl) hg);replace HL:=I (HL.o.grown hg (fun e=>by injection e with e;have:=HPK.o;omega));replace HB:=I (HB.o.grown hg HB.o.size (fun k hk=>by injection hk with hk;have:=HPK.o;have:=HLB.o;omega));replace HK:=I hV;clear hV hg)
     |fail)
    clear HKS HKO HKI H9S;obtain⟨cK,ecK⟩:∃z,z=c9:=⟨_,rfl⟩;rw[←ecK] at HK HEK H9O H9I;have HKO:=H9O;have HKI:=H9I;clear H9O H9I;clear ecK;have hdr:Below V9.heap.size V9 V9.drew:=below_drewN (Below.refl _ _) 1;replace HS:=I (HS.o.below hdr);replace HL:=I (HL.o.below hdr);replace HK:=I (HK.o.below hdr);replace HB:=HB.t hdr;clear hdr;have HSS:=I (show(V9.drew.cell? ⟨LB,j*2,none⟩=some (.string ⟨i.p.1.toArray⟩)∧V9.drew.cell? ⟨LB,j*2+1,none⟩=some (.string ⟨i.p.2.toArray⟩)∧Blk V9.drew PK 47 cK) from⟨(HCE.o j i _ hi HL.o).1,(HCE.o j i _ hi HL.o).2,HK.o⟩);refine Reg.AR (fun w'=>w'.cell? ⟨LB,j*2,none⟩=some (.string ⟨i.p.1.toArray⟩)∧w'.cell? ⟨LB,j*2+1,none⟩=some (.string ⟨i.p.2.toArray⟩)∧Blk w' PK 47 cK) 12 rfl (by kernel_rfl) HSS.o ?_;refine Reg.tk 0 (v:=?vxa1) rfl HSS.o (fun w' hS=>?hxa1) ?rxa1
    case hxa1=>go_simp<;>rfl
    simp only[Act.put,U,Aa,Ab];refine Reg.tk 1 (v:=?vxa2) rfl HSS.o (fun w' hS=>?hxa2) ?rxa2
    case hxa2=>go_simp<;>rfl
    simp only[Act.put,U,Aa,Ab];refine Reg.tk 2 (v:=?vxa3) rfl HSS.o (fun w' hS=>?hxa3) ?rxa3
    case hxa3=>go_simp<;>rfl
    simp only[Act.put,U,Aa,Ab];refine Reg.tk 3 (v:=?vxa4) rfl HSS.o (fun w' hS=>?hxa4) ?rxa4
    case hxa4=>go_simp<;>rfl
    simp only[Act.put,U,Aa,Ab];refine Reg.tk 4 (v:=?vxa5) rfl HSS.o (fun w' hS=>?hxa5) ?rxa5
    case hxa5=>have k0:=hS.1;have k1:=hS.2.1;go_simp<;>rfl
    simp only[Act.put,U,Aa,Ab];refine Reg.tk 5 (v:=.agg cK) rfl HSS.o (fun w' hS=>?hxa6) ?rxa6
    case hxa6=>exact Wh.AS (.tmp 8) rfl rfl hS.2.2 Tryz.underlying47 rfl HKI.o
    simp only[Act.put,U,Aa,Ab];refine Reg.Ad [6] (by kernel_rfl) (by simp) ?_;intro j0 hj0;obtain rfl:j0=6:=by simpa using hj0
    clear hj0
    right
    refine⟨_,_,_,_,_,_,44,#[.pointer (some ⟨r,0,none⟩),prV i.p,.agg cK],rfl,by rfl,by go_simp,?_⟩;refine Calls.mono (Kp HS.o HB.o.size hi HEK.o) ?_;rintro e wc ⟨⟨nn,rfl⟩,v2,es2,c1,c2,c3,c4,c5,c6,c7,hb⟩;replace HL:=I (Bs HL.o (c7 LB (.inl rfl)));replace HK:=I (Bs HK.o (c7 PK (.inr rfl)));replace HB:=I (HB.o.trans hb);have HC1:=I c1;have HC2:=I c2;have HC3:=I c3;have HC4:=I c4;have HC5:=I c5;have HC6:=I c6;clear c1 c2 c3 c4 c5 c6 c7 hb HS;replace HSS:=I (show(wc.cell? ⟨LB,j*2,none⟩=some (.string ⟨i.p.1.toArray⟩)∧wc.cell? ⟨LB,j*2+1,none⟩=some (.string ⟨i.p.2.toArray⟩)∧Blk wc PK 47 cK) from⟨(HCE.o j i _ hi HL.o).1,(HCE.o j i _ hi HL.o).2,HK.o⟩);refine⟨_,rfl,HSS.o,?_⟩;simp only[Act.put,U,Aa,Ab];refine Reg.tk 7 (v:=?vxa7) rfl HSS.o (fun w' hS=>?hxa7) ?rxa7
    case hxa7=>go_simp<;>rfl
    simp only[Act.put,U,Aa,Ab];refine Reg.tk 8 (v:=?vxa8) rfl HSS.o (fun w' hS=>?hxa8) ?rxa8
    case hxa8=>go_simp<;>rfl
    simp only[Act.put,U,Aa,Ab];refine Reg.tk 9 (v:=?vxa9) rfl HSS.o (fun w' hS=>?hxa9) ?rxa9
    case hxa9=>go_simp<;>rfl
    simp only[Act.put,U,Aa,Ab];refine Reg.tk 10 (v:=?vxa10) rfl HSS.o (fun w' hS=>?hxa10) ?rxa10
    case hxa10=>go_simp<;>rfl
    simp only[Act.put,U,Aa,Ab];refine Reg.tk 11 (v:=?vxa11) rfl HSS.o (fun w' hS=>?hxa11) ?rxa11
    case hxa11=>go_simp<;>rfl
    simp only[Act.put,U,Aa,Ab];refine wpAnyH_done (by kernel_rfl) ?_ _;clear HSS
    go_upto_region 16 with fail
    have hdr:Below wc.heap.size wc wc.drew:=below_drewN (Below.refl _ _) 1;have HC6b:=I (fun k hk=>(⟨Nat.lt_of_lt_of_le (HC6.o k hk).1 hdr.size,(HC6.o k hk).2⟩:k<wc.drew.heap.size∧_));replace HC1:=I (HC1.o.below hdr);replace HC2:=I (HC2.o.below hdr);replace HL:=I (HL.o.below hdr);replace HK:=I (HK.o.below hdr);replace HB:=HB.t hdr;clear hdr HC6;have HSS:=I (show(wc.drew.cell? ⟨LB,j*2,none⟩=some (.string ⟨i.p.1.toArray⟩)∧wc.drew.cell? ⟨LB,j*2+1,none⟩=some (.string ⟨i.p.2.toArray⟩)∧Blk wc.drew PK 47 cK) from⟨(HCE.o j i _ hi HL.o).1,(HCE.o j i _ hi HL.o).2,HK.o⟩);refine Reg.AR (fun w'=>w'.cell? ⟨LB,j*2,none⟩=some (.string ⟨i.p.1.toArray⟩)∧w'.cell? ⟨LB,j*2+1,none⟩=some (.string ⟨i.p.2.toArray⟩)∧Blk w' PK 47 cK) 7 rfl (by kernel_rfl) HSS.o ?_;refine Reg.tk 0 (v:=?vxb1) rfl HSS.o (fun w' hS=>?hxb1) ?rxb1
    case hxb1=>go_simp<;>rfl
    simp only[Act.put,U,Aa,Ab];refine Reg.tk 1 (v:=?vxb2) rfl HSS.o (fun w' hS=>?hxb2) ?rxb2
    case hxb2=>go_simp<;>rfl
    simp only[Act.put,U,Aa,Ab];refine Reg.tk 2 (v:=?vxb3) rfl HSS.o (fun w' hS=>?hxb3) ?rxb3
    case hxb3=>go_simp<;>rfl
    simp only[Act.put,U,Aa,Ab];refine Reg.tk 3 (v:=?vxb4) rfl HSS.o (fun w' hS=>?hxb4) ?rxb4
    case hxb4=>go_simp<;>rfl
    simp only[Act.put,U,Aa,Ab];refine Reg.tk 4 (v:=?vxb5) rfl HSS.o (fun w' hS=>?hxb5) ?rxb5
    case hxb5=>have k0:=hS.1;have k1:=hS.2.1;go_simp<;>rfl
    simp only[Act.put,U,Aa,Ab];refine Reg.tk 5 (v:=.agg cK) rfl HSS.o (fun w' hS=>?hxb6) ?rxb6
    case hxb6=>exact Wh.AS (.tmp 8) rfl rfl hS.2.2 Tryz.underlying47 rfl HKI.o
    simp only[Act.put,U,Aa,Ab];refine Reg.Ad [6] (by kernel_rfl) (by simp) ?_;intro j0 hj0;obtain rfl:j0=6:=by simpa using hj0
    clear hj0
    right
    refine⟨_,_,_,_,_,_,45,#[.pointer (some ⟨q,0,none⟩),prV i.p,.agg cK],rfl,by rfl,by go_simp,?_⟩;refine Calls.mono (NT HC1.o HC2.o HC3.o HC4.o HC5.o HC6b.o HB.o.size hi HEK.o) ?_;rintro e wd ⟨⟨nd,rfl⟩,dv2,hs2,c7,hb⟩;replace HL:=I (Bs HL.o (c7 LB (.inl rfl)));replace HK:=I (Bs HK.o (c7 PK (.inr rfl)));replace HB:=I (HB.o.trans hb);have HS:=I hs2;clear c7 hb hs2 HC1 HC2 HC3 HC4 HC5 HC6b;replace HSS:=I (show(wd.cell? ⟨LB,j*2,none⟩=some (.string ⟨i.p.1.toArray⟩)∧wd.cell? ⟨LB,j*2+1,none⟩=some (.string ⟨i.p.2.toArray⟩)∧Blk wd PK 47 cK) from⟨(HCE.o j i _ hi HL.o).1,(HCE.o j i _ hi HL.o).2,HK.o⟩);refine⟨_,rfl,HSS.o,?_⟩;simp only[Act.put,U,Aa,Ab];refine wpAnyH_done (by kernel_rfl) ?_ _;clear HSS HCE
    go_wp2<;>skip
    go_roundw
    case rel=>exact⟨j+1,_,_,_,by omega,by go_num,HS.o.more (fun k hk=>.inl (.inl hk)),HL.o,HB.o⟩
    case measure=>simp [intOf];omega
   ·have q1:=Rg.DG hne
    have HEK:=I (show cK=AP i.k by rw[hkey.2 hne];exact HEJ.o);clear hkey hne HEJ
    go_region_held3 (fun w'=>w'.cell? ⟨LB,j*2,none⟩=some (.string ⟨i.p.1.toArray⟩)∧w'.cell? ⟨LB,j*2+1,none⟩=some (.string ⟨i.p.2.toArray⟩)) (exact HCE.o j i _ hi HL.o) ((go_at_call 28;refine Calls.mono (TG.o _) ?_;rintro e wg ⟨rfl,hb⟩;clear TG;replace HS:=I (HS.o.below hb);replace HL:=I (HL.o.below hb);replace HK:=I (HK.o.below hb);replace HB:=HB.t hb;clear hb))
    clear q1
    go_upto_region 15 with fail
    have hdr:Below wg.heap.size wg wg.drew:=below_drewN (Below.refl _ _) 1;replace HS:=I (HS.o.below hdr);replace HL:=I (HL.o.below hdr);replace HK:=I (HK.o.below hdr);replace HB:=HB.t hdr;clear hdr;have HSS:=I (show(wg.drew.cell? ⟨LB,j*2,none⟩=some (.string ⟨i.p.1.toArray⟩)∧wg.drew.cell? ⟨LB,j*2+1,none⟩=some (.string ⟨i.p.2.toArray⟩)∧Blk wg.drew PK 47 cK) from⟨(HCE.o j i _ hi HL.o).1,(HCE.o j i _ hi HL.o).2,HK.o⟩);refine Reg.AR (fun w'=>w'.cell? ⟨LB,j*2,none⟩=some (.string ⟨i.p.1.toArray⟩)∧w'.cell? ⟨LB,j*2+1,none⟩=some (.string ⟨i.p.2.toArray⟩)∧Blk w' PK 47 cK) 12 rfl (by kernel_rfl) HSS.o ?_;refine Reg.tk 0 (v:=?vya1) rfl HSS.o (fun w' hS=>?hya1) ?rya1
    case hya1=>go_simp<;>rfl
    simp only[Act.put,U,Aa,Ab];refine Reg.tk 1 (v:=?vya2) rfl HSS.o (fun w' hS=>?hya2) ?rya2
    case hya2=>go_simp<;>rfl
    simp only[Act.put,U,Aa,Ab];refine Reg.tk 2 (v:=?vya3) rfl HSS.o (fun w' hS=>?hya3) ?rya3
    case hya3=>go_simp<;>rfl
    simp only[Act.put,U,Aa,Ab];refine Reg.tk 3 (v:=?vya4) rfl HSS.o (fun w' hS=>?hya4) ?rya4
    case hya4=>go_simp<;>rfl
    simp only[Act.put,U,Aa,Ab];refine Reg.tk 4 (v:=?vya5) rfl HSS.o (fun w' hS=>?hya5) ?rya5
    case hya5=>have k0:=hS.1;have k1:=hS.2.1;go_simp<;>rfl
    simp only[Act.put,U,Aa,Ab];refine Reg.tk 5 (v:=.agg cK) rfl HSS.o (fun w' hS=>?hya6) ?rya6
    case hya6=>exact Wh.AS (.tmp 8) rfl rfl hS.2.2 Tryz.underlying47 rfl HKI.o
    simp only[Act.put,U,Aa,Ab];refine Reg.Ad [6] (by kernel_rfl) (by simp) ?_;intro j0 hj0;obtain rfl:j0=6:=by simpa using hj0
    clear hj0
    right
    refine⟨_,_,_,_,_,_,44,#[.pointer (some ⟨r,0,none⟩),prV i.p,.agg cK],rfl,by rfl,by go_simp,?_⟩;refine Calls.mono (Kp HS.o HB.o.size hi HEK.o) ?_;rintro e wc ⟨⟨nn,rfl⟩,v2,es2,c1,c2,c3,c4,c5,c6,c7,hb⟩;replace HL:=I (Bs HL.o (c7 LB (.inl rfl)));replace HK:=I (Bs HK.o (c7 PK (.inr rfl)));replace HB:=I (HB.o.trans hb);have HC1:=I c1;have HC2:=I c2;have HC3:=I c3;have HC4:=I c4;have HC5:=I c5;have HC6:=I c6;clear c1 c2 c3 c4 c5 c6 c7 hb HS;replace HSS:=I (show(wc.cell? ⟨LB,j*2,none⟩=some (.string ⟨i.p.1.toArray⟩)∧wc.cell? ⟨LB,j*2+1,none⟩=some (.string ⟨i.p.2.toArray⟩)∧Blk wc PK 47 cK) from⟨(HCE.o j i _ hi HL.o).1,(HCE.o j i _ hi HL.o).2,HK.o⟩);refine⟨_,rfl,HSS.o,?_⟩;simp only[Act.put,U,Aa,Ab];refine Reg.tk 7 (v:=?vya7) rfl HSS.o (fun w' hS=>?hya7) ?rya7
    case hya7=>go_simp<;>rfl
    simp only[Act.put,U,Aa,Ab];refine Reg.tk 8 (v:=?vya8) rfl HSS.o (fun w' hS=>?hya8) ?rya8
    case hya8=>go_simp<;>rfl
    simp only[Act.put,U,Aa,Ab];refine Reg.tk 9 (v:=?vya9) rfl HSS.o (fun w' hS=>?hya9) ?rya9
    case hya9=>go_simp<;>rfl
    simp only[Act.put,U,Aa,Ab];refine Reg.tk 10 (v:=?vya10) rfl HSS.o (fun w' hS=>?hya10) ?rya10
    case hya10=>go_simp<;>rfl
    simp only[Act.put,U,Aa,Ab];refine Reg.tk 11 (v:=?vya11) rfl HSS.o (fun w' hS=>?hya11) ?rya11
    case hya11=>go_simp<;>rfl
    simp only[Act.put,U,Aa,Ab];refine wpAnyH_done (by kernel_rfl) ?_ _;clear HSS
    go_upto_region 16 with fail
    have hdr:Below wc.heap.size wc wc.drew:=below_drewN (Below.refl _ _) 1;have HC6b:=I (fun k hk=>(⟨Nat.lt_of_lt_of_le (HC6.o k hk).1 hdr.size,(HC6.o k hk).2⟩:k<wc.drew.heap.size∧_));replace HC1:=I (HC1.o.below hdr);replace HC2:=I (HC2.o.below hdr);replace HL:=I (HL.o.below hdr);replace HK:=I (HK.o.below hdr);replace HB:=HB.t hdr;clear hdr HC6;have HSS:=I (show(wc.drew.cell? ⟨LB,j*2,none⟩=some (.string ⟨i.p.1.toArray⟩)∧wc.drew.cell? ⟨LB,j*2+1,none⟩=some (.string ⟨i.p.2.toArray⟩)∧Blk wc.drew PK 47 cK) from⟨(HCE.o j i _ hi HL.o).1,(HCE.o j i _ hi HL.o).2,HK.o⟩);refine Reg.AR (fun w'=>w'.cell? ⟨LB,j*2,none⟩=some (.string ⟨i.p.1.toArray⟩)∧w'.cell? ⟨LB,j*2+1,none⟩=some (.string ⟨i.p.2.toArray⟩)∧Blk w' PK 47 cK) 7 rfl (by kernel_rfl) HSS.o ?_;refine Reg.tk 0 (v:=?vyb1) rfl HSS.o (fun w' hS=>?hyb1) ?ryb1
    case hyb1=>go_simp<;>rfl
    simp only[Act.put,U,Aa,Ab];refine Reg.tk 1 (v:=?vyb2) rfl HSS.o (fun w' hS=>?hyb2) ?ryb2
    case hyb2=>go_simp<;>rfl
    simp only[Act.put,U,Aa,Ab];refine Reg.tk 2 (v:=?vyb3) rfl HSS.o (fun w' hS=>?hyb3) ?ryb3
    case hyb3=>go_simp<;>rfl
    simp only[Act.put,U,Aa,Ab];refine Reg.tk 3 (v:=?vyb4) rfl HSS.o (fun w' hS=>?hyb4) ?ryb4
    case hyb4=>go_simp<;>rfl
    simp only[Act.put,U,Aa,Ab];refine Reg.tk 4 (v:=?vyb5) rfl HSS.o (fun w' hS=>?hyb5) ?ryb5
    case hyb5=>have k0:=hS.1;have k1:=hS.2.1;go_simp<;>rfl
    simp only[Act.put,U,Aa,Ab];refine Reg.tk 5 (v:=.agg cK) rfl HSS.o (fun w' hS=>?hyb6) ?ryb6
    case hyb6=>exact Wh.AS (.tmp 8) rfl rfl hS.2.2 Tryz.underlying47 rfl HKI.o
    simp only[Act.put,U,Aa,Ab];refine Reg.Ad [6] (by kernel_rfl) (by simp) ?_;intro j0 hj0;obtain rfl:j0=6:=by simpa using hj0
    clear hj0
    right
    refine⟨_,_,_,_,_,_,45,#[.pointer (some ⟨q,0,none⟩),prV i.p,.agg cK],rfl,by rfl,by go_simp,?_⟩;refine Calls.mono (NT HC1.o HC2.o HC3.o HC4.o HC5.o HC6b.o HB.o.size hi HEK.o) ?_;rintro e wd ⟨⟨nd,rfl⟩,dv2,hs2,c7,hb⟩;replace HL:=I (Bs HL.o (c7 LB (.inl rfl)));replace HK:=I (Bs HK.o (c7 PK (.inr rfl)));replace HB:=I (HB.o.trans hb);have HS:=I hs2;clear c7 hb hs2 HC1 HC2 HC3 HC4 HC5 HC6b;replace HSS:=I (show(wd.cell? ⟨LB,j*2,none⟩=some (.string ⟨i.p.1.toArray⟩)∧wd.cell? ⟨LB,j*2+1,none⟩=some (.string ⟨i.p.2.toArray⟩)∧Blk wd PK 47 cK) from⟨(HCE.o j i _ hi HL.o).1,(HCE.o j i _ hi HL.o).2,HK.o⟩);refine⟨_,rfl,HSS.o,?_⟩;simp only[Act.put,U,Aa,Ab];refine wpAnyH_done (by kernel_rfl) ?_ _;clear HSS HCE
    go_wp2<;>skip
    go_roundw
    case rel=>exact⟨j+1,_,_,_,by omega,by go_num,HS.o.more (fun k hk=>.inl (.inl hk)),HL.o,HB.o⟩
    case measure=>simp [intOf];omega
  ·have hje:j=5:=by omega
   subst hje;clear hlt hj HCE HL HLB;have TR:=I (fun(w1:World)=>Oc w1);have TR2:=I (fun(w1:World)=>Oc w1);have N1:=I (fun(w1:World) (v1 v2:Value) (K:Nat→Prop) (hK:∀b,K b→b<w1.heap.size) (ht:TpK K w1 v1 v2 (.slice none 0 0) tT) (hr:Ring w1 w.heap.size r v es) (hB:w.heap.size≤w1.heap.size)=>Yc (R:=rA) TU rfl Yu TT (by decide) (ht.r.slv hK) (ht.k.slp hK) (by decide) hr hB);have N2:=I (fun(w1:World) (v1 v2:Value) (lo:Nat) (ht:TpK (fun b=>lo≤b∧b<w1.heap.size) w1 v1 v2 (.slice none 0 0) tT) (hlo:w.heap.size≤lo) (hr:DRing w1 w.heap.size q dv ((itX false).take 5)) (hB:w.heap.size≤w1.heap.size)=>Ve (R:=rA) TU TT (by decide) ht hlo (Nat.le_refl _) hr hB);obtain⟨W0,eW0⟩:∃z,z=wr:=⟨_,rfl⟩
   go_upto_region 21 with(first
    |(go_at_call 38;refine Calls.mono (TR.o _) ?_;rintro e t1 ⟨a1,a2,rfl,ht,hb⟩;have HT1:=I ht;have HB1:=I hb;clear ht hb TR)
    |(go_at_call 37;refine Calls.mono (N1.o _ _ _ _ (fun b x=>x.2) HT1.o (HS.o.c.below HB1.o) (Nat.le_trans HB.o.size HB1.o.size)) ?_;rintro e t2 ⟨k,lo,hi,u1,u2,rfl,hk1,hk2,hkd,hb⟩;have HKD:=I hkd;have HB2:=I hb;have HK1:=I hk1;have HK2:=I hk2;clear N1 HT1 hkd hb hk1 hk2)
    |(go_at_call 38;refine Calls.mono (TR2.o _) ?_;rintro e t3 ⟨a3,a4,rfl,ht,hb⟩;have HT3:=I ht;have HB3:=I hb;clear ht hb TR2)
    |(go_at_call 46;refine Calls.mono (N2.o _ _ _ _ HT3.o (Nat.le_trans HB.o.size (Nat.le_trans HB1.o.size HB2.o.size)) (HS.o.d.below (HB1.o.trans ((HB2.o.trans (HB3.o.mono HB2.o.size)).mono HB1.o.size))) (Nat.le_trans HB.o.size (Nat.le_trans HB1.o.size (Nat.le_trans HB2.o.size HB3.o.size)))) ?_;rintro e t4 ⟨x,rfl,hx,hdk,hb⟩;have HX:=I hx;have HDK:=I hdk;have HB4:=I hb;clear N2 HT3 hx hdk hb)
    |fail)
   go_wp2
   go_ret;have hb4:=HB.o.trans ((HB1.o.trans ((HB2.o.trans ((HB3.o.trans (HB4.o.mono HB3.o.size)).mono HB2.o.size)).mono HB1.o.size)).mono HB.o.size);exact⟨_,⟨k,r,lo,hi,rA,tT,v,u1,u2,.slice none 0 0⟩,es,⟨x,q,t2.heap.size,t3.heap.size,rA,tT,dv,a3,a4,.slice none 0 0⟩,rfl,Va (a:=false) (Nat.le_refl _) HS.o HB1.o HK1.o HK2.o HKD.o HB2.o HB3.o HX.o rfl HDK.o HB4.o hb4 rfl rfl rfl rfl⟩
theorem WX (w:World):Calls Tryz.prog 16 #[.bool true] w fun e w'=>∃g p es d,e = .returned (.pointer (some ⟨g,0,none⟩))∧Scn true w w' g p es d:=by
 have C1:=I (fun(w1:World)=>Kk w1.heap.size w1 (Nat.le_refl _));have T1:=I (fun(w1:World)=>Gz rA rA (by decide) w1);have T2:=I (fun(w1:World)=>Gz rA rE (by decide) w1);have T3:=I (fun(w1:World)=>Gz rE rA (by decide) w1);have T4:=I (fun(w1:World)=>Hu w1);have T5:=I (fun(w1:World)=>Gy w1);have U1:=I (fun(w1:World)=>Gz rE rE (by decide) w1);have U2:=I (fun(w1:World)=>Gz rA rE (by decide) w1);have U3:=I (fun(w1:World)=>Gz rE rB (by decide) w1);go_enter Tryz.func16,Tryz.ntmps16
 go_upto_region 2 with(first
  |(go_at_call 39;refine Calls.mono (C1.o _) ?_;rintro e w1 ⟨r,rfl,hr1,hr2,hb⟩;clear C1;have HR:=I hr2;have HB:=I hb;clear hr2 hb)
  |fail)
 obtain⟨W2,eW2⟩:∃z,z=w1.alloc (.cells #[.slice none 0 0] 115):=⟨_,rfl⟩;have hb:Below w1.heap.size w1 W2:=eW2▸(Below.refl _ _).alloc (Nat.le_refl _) _;have hw1:=HB.o.size;have HS:=I (show Sc true W2 w.heap.size r (.slice none 0 0) [] w1.heap.size (.slice none 0 0) 0 (fun _=>False) from⟨HR.o.below hb,Lv (eW2▸Blk.new w1 _ _) hw1,rfl,(fun j e he=>by simp at he),(fun k hk x=>by
  rcases hk with hk | hk
  ·have:=HR.o.own_lt x;omega
  ·simp [Value.ownBlock] at hk),fun k hk=>hk.elim⟩)
 replace HB:=I (HB.o.trans (hb.mono hw1));rw[←eW2];clear eW2 hb hw1 HR hr1;obtain⟨q,eq⟩:∃z,z=w1.heap.size:=⟨_,rfl⟩;rw[←eq] at HS⊢;clear eq
 go_upto_region 7 with(first
  |(go_at_call 28;refine Calls.mono (T1.o _) ?_;rintro e xT1 ⟨rfl,hb⟩;clear T1;replace HS:=I (HS.o.below hb);replace HB:=HB.t hb;clear hb)
  |(go_at_call 28;refine Calls.mono (T2.o _) ?_;rintro e xT2 ⟨rfl,hb⟩;clear T2;replace HS:=I (HS.o.below hb);replace HB:=HB.t hb;clear hb)
  |(go_at_call 28;refine Calls.mono (T3.o _) ?_;rintro e xT3 ⟨rfl,hb⟩;clear T3;replace HS:=I (HS.o.below hb);replace HB:=HB.t hb;clear hb)
  |(go_at_call 27;refine Calls.mono (T4.o _) ?_;rintro e xT4 ⟨rfl,hb⟩;clear T4;replace HS:=I (HS.o.below hb);replace HB:=HB.t hb;clear hb)
  |(go_at_call 34;refine Calls.mono (T5.o _) ?_;rintro e xT5 ⟨rfl,hb⟩;clear T5;replace HS:=I (HS.o.below hb);replace HB:=HB.t hb;clear hb)
  |fail)
 obtain⟨Wx,eWx⟩:∃z,z=xT5.alloc (.cells #[.string ⟨(kr rA rA).1.toArray⟩,.string ⟨(kr rA rA).2.toArray⟩,.string ⟨(kr rA rE).1.toArray⟩,.string ⟨(kr rA rE).2.toArray⟩,.string ⟨(kr rE rA).1.toArray⟩,.string ⟨(kr rE rA).2.toArray⟩,.string ⟨(pAnn).1.toArray⟩,.string ⟨(pAnn).2.toArray⟩,.string ⟨(Cx).1.toArray⟩,.string ⟨(Cx).2.toArray⟩] 27):=⟨_,rfl⟩;have hb:Below xT5.heap.size xT5 Wx:=eWx▸(Below.refl _ _).alloc (Nat.le_refl _) _;replace HS:=I (HS.o.below hb);replace HB:=HB.t hb;rw[←eWx];clear eWx hb
 go_upto_region 9 with(first
  |(go_at_call 28;refine Calls.mono (U1.o _) ?_;rintro e xU1 ⟨rfl,hb⟩;clear U1;replace HS:=I (HS.o.below hb);replace HB:=HB.t hb;clear hb)
  |(go_at_call 28;refine Calls.mono (U2.o _) ?_;rintro e xU2 ⟨rfl,hb⟩;clear U2;replace HS:=I (HS.o.below hb);replace HB:=HB.t hb;clear hb)
  |(go_at_call 28;refine Calls.mono (U3.o _) ?_;rintro e xU3 ⟨rfl,hb⟩;clear U3;replace HS:=I (HS.o.below hb);replace HB:=HB.t hb;clear hb)
  |fail)
 obtain⟨W3,eW3⟩:∃z,z=xU3.alloc (.cells #[.string ⟨(kr rE rE).1.toArray⟩,.string ⟨(kr rE rE).2.toArray⟩,.string ⟨(kr rA rE).1.toArray⟩,.string ⟨(kr rA rE).2.toArray⟩,.string ⟨(kr rE rB).1.toArray⟩,.string ⟨(kr rE rB).2.toArray⟩,.string ⟨#[69,68,85]⟩,.string ⟨#[119,101,98]⟩] 27):=⟨_,rfl⟩;have hb:Below xU3.heap.size xU3 W3:=eW3▸(Below.refl _ _).alloc (Nat.le_refl _) _;have HL:=I (show Blk W3 xU3.heap.size 27 #[.string ⟨(kr rE rE).1.toArray⟩,.string ⟨(kr rE rE).2.toArray⟩,.string ⟨(kr rA rE).1.toArray⟩,.string ⟨(kr rA rE).2.toArray⟩,.string ⟨(kr rE rB).1.toArray⟩,.string ⟨(kr rE rB).2.toArray⟩,.string ⟨#[69,68,85]⟩,.string ⟨#[119,101,98]⟩] from eW3▸Blk.new xU3 _ _);have HLB:=I HB.o.size;obtain⟨LB,eLB⟩:∃z,z=xU3.heap.size:=⟨_,rfl⟩;have HS2:=I (((HS.o.below hb).more (G2:=fun k=>k=LB) (fun k hk=>.inr ⟨by rw[hk,eLB];exact HL.o.lt,fun x=>by have:=HS.o.c.own_lt x;omega,fun x=>by have:=HS.o.d.own_lt x;omega⟩)));replace HB:=HB.t hb;rw[←eW3];rw[←eLB] at HL HLB⊢;clear eW3 hb eLB HS;have HBL:=I (show Below w.heap.size w W3 from HB.o);have HCE:=I (show ∀(j:Nat) (i:It) (w1:World),(itX true)[j]? = some i→Blk w1 LB 27 #[.string ⟨(kr rE rE).1.toArray⟩,.string ⟨(kr rE rE).2.toArray⟩,.string ⟨(kr rA rE).1.toArray⟩,.string ⟨(kr rA rE).2.toArray⟩,.string ⟨(kr rE rB).1.toArray⟩,.string ⟨(kr rE rB).2.toArray⟩,.string ⟨#[69,68,85]⟩,.string ⟨#[119,101,98]⟩]→w1.cell? ⟨LB,j*2,none⟩=some (.string ⟨i.p.1.toArray⟩)∧w1.cell? ⟨LB,j*2+1,none⟩=some (.string ⟨i.p.2.toArray⟩) by
  intro j i w1 hi h1
  match j,hi with
  |0,hi=>injection hi with hi;subst hi;exact⟨h1.cell 0,h1.cell 1⟩
  |1,hi=>injection hi with hi;subst hi;exact⟨h1.cell 2,h1.cell 3⟩
  |2,hi=>injection hi with hi;subst hi;exact⟨h1.cell 4,h1.cell 5⟩
  |3,hi=>injection hi with hi;subst hi;exact⟨h1.cell 6,h1.cell 7⟩
  |j+4,hi=>simp [itX,itE] at hi)
 obtain⟨cL,ecL⟩:∃z:Array Value,z=#[.string ⟨(kr rE rE).1.toArray⟩,.string ⟨(kr rE rE).2.toArray⟩,.string ⟨(kr rA rE).1.toArray⟩,.string ⟨(kr rA rE).2.toArray⟩,.string ⟨(kr rE rB).1.toArray⟩,.string ⟨(kr rE rB).2.toArray⟩,.string ⟨#[69,68,85]⟩,.string ⟨#[119,101,98]⟩]:=⟨_,rfl⟩;rw[←ecL] at HL;simp only[←ecL] at HCE;clear ecL
 go_wp2
 go_loopw [7] (fun iv wr=>∃(j:Nat) (v dv:Value) (es:List Ent),j≤4∧iv = .int .i64 (j:Int)∧Sc true wr w.heap.size r v es q dv j (fun k=>k=LB)∧Blk wr LB 27 cL∧Below w.heap.size w wr) (fun iv _=>4 - (intOf iv).toNat)
 case atStart=>exact⟨0,_,_,_,Nat.zero_le _,rfl,HS2.o,HL.o,HB.o⟩
 case round=>
  obtain⟨j,v,dv,es,hj,rfl,hs,hl,hb⟩:=hrel;have HS:=I hs;replace HL:=I hl;replace HB:=I hb;clear hs hl hb HS2 HBL
  by_cases hlt:j<4
  ·have e1:(j:Int)<4:=by omega
   have e2:(0:Int)≤(j:Int):=by omega
   obtain⟨i,hi⟩:∃i,(itX true)[j]? = some i:=⟨_,List.getElem?_eq_getElem (show j<itE.length from hlt)⟩;have e3:=Ob (show j<5 by omega);have hkey:=Sr _ hi;have CK:=I (fun w1=>MQ (UInt8.ofNat (10+j)) w1);have TG:=I (fun(w1:World)=>Gz rA rE (by decide) w1);obtain⟨cK,ecK⟩:∃z,z=AP (kq (UInt8.ofNat (10+j))):=⟨_,rfl⟩;rw[←ecK] at CK;have HKS:=I (show cK.size=32 by rw[ecK];exact Ce _);have HKO:=I (show cK.all (·.oneCell')=true by rw[ecK,←Jz];exact Ea (Bf _));have HKI:=I (show(Tryz.prog.info? 47).map (·.size)=some cK.size by rw[ecK];exact EH _);have HEJ:=I ecK;obtain⟨nK,enK⟩:∃z,z=((UInt8.ofNat (10+j)).toNat:Int):=⟨_,rfl⟩;rw[←enK] at CK e3;clear ecK enK
   go_upto_region 13 with(first
    |(go_at_call 18;refine Calls.mono (CK.o _) ?_;rintro e wk ⟨rfl,hb⟩;clear CK;replace HS:=I (HS.o.below hb);replace HL:=I (HL.o.below hb);replace HB:=HB.t hb;clear hb)
    |(refine Wh.BY (by rfl) 47 (.tmp 8) (.tmp 41) (by rfl) 47 rfl cK (by rfl) (by rfl) (by rw[HKS.o];rfl) HKI.o HKO.o ?_;rintro V hV hb;have HK:=I hV;have HPK:=I (show LB<wk.heap.size from HL.o.lt);have HG:=I (show ∀k,(k=LB∨k=wk.heap.size)→k=LB∨(k<V.heap.size∧¬RO r v es k∧¬DO q dv k) from(fun k hk=>hk.elim .inl (fun e=>.inr ⟨by rw[e];exact hV.lt,fun x=>by have:=HS.o.c.own_lt x;omega,fun x=>by have:=HS.o.d.own_lt x;omega⟩)));replace HS:=I (HS.o.below hb);replace HL:=I (HL.o.below hb);replace HB:=HB.t hb;clear hb hV)
    |fail)
   obtain⟨PK,ePK⟩:∃z,z=wk.heap.size:=⟨_,rfl⟩;rw[←ePK] at HK HPK HG⊢;clear ePK;replace HS:=I (HS.o.more HG.o);clear HG;have hdr:Below V.heap.size V V.drew:=below_drewN (Below.refl _ _) 1;replace HS:=I (HS.o.below hdr);replace HL:=I (HL.o.below hdr);replace HK:=I (HK.o.below hdr);replace HB:=HB.t hdr;clear hdr
   by_cases hne:i.p=kr rA rE
   ·have q1:=Rg.Co hne
    have HEK:=I (hkey.1 hne);clear hkey hne HEJ;obtain⟨c9,ec9⟩:∃z,z=AP i.k:=⟨_,rfl⟩;have C9:=I (show ∀w1:World,Calls Tryz.prog 18 #[.int .u8 99] w1 fun e w'=>e = .returned (.agg c9)∧Below w1.heap.size w1 w' by intro w1;rw[ec9,HEK.o];exact MQ 99 w1);have H9S:=I (show cK.size=c9.size by rw[HKS.o,ec9];exact(Ce _).symm);have H9O:=I (show c9.all (·.oneCell')=true by rw[ec9,HEK.o,←Jz];exact Ea (Bf _));have H9I:=I (show(Tryz.prog.info? 47).map (·.size)=some c9.size by rw[ec9];exact EH _);clear HEK;have HEK:=I ec9;clear ec9
    go_region_held3 (fun w'=>w'.cell? ⟨LB,j*2,none⟩=some (.string ⟨i.p.1.toArray⟩)∧w'.cell? ⟨LB,j*2+1,none⟩=some (.string ⟨i.p.2.toArray⟩)) (exact HCE.o j i _ hi HL.o) ((go_at_call 28;refine Calls.mono (TG.o _) ?_;rintro e wg ⟨rfl,hb⟩;clear TG;replace HS:=I (HS.o.below hb);replace HL:=I (HL.o.below hb);replace HK:=I (HK.o.below hb);replace HB:=HB.t hb;clear hb))
    clear q1
    go_upto_region 15 with(first
     |(go_at_call 18;refine Calls.mono (C9.o _) ?_;rintro e w9 ⟨rfl,hb⟩;clear C9;replace HS:=I (HS.o.below hb);replace HL:=I (HL.o.below hb);replace HK:=I (HK.o.below hb);replace HB:=HB.t hb;clear hb)
     |(refine Wh.CU (by rfl) 47 (.tmp 8) (.tmp 48) (by rfl) PK 47 _ HK.o c9 (by rfl) (by rfl) H9S.o H9I.o H9O.o ?_;rintro V9 hV hg;replace HS:=I (HS.o.put (.inr rfl) hg);replace HL:=I (HL.o.grown hg (fun e=>by injection e with e;have:=HPK.o;omega));replace HB:=I (HB.o.grown hg HB.o.size (fun k hk=>by injection hk with hk;have:=HPK.o;have:=HLB.o;omega));replace HK:=I hV;clear hV hg)
     |fail)
    clear HKS HKO HKI H9S;obtain⟨cK,ecK⟩:∃z,z=c9:=⟨_,rfl⟩;rw[←ecK] at HK HEK H9O H9I;have HKO:=H9O;have HKI:=H9I;clear H9O H9I;clear ecK;have hdr:Below V9.heap.size V9 V9.drew:=below_drewN (Below.refl _ _) 1;replace HS:=I (HS.o.below hdr);replace HL:=I (HL.o.below hdr);replace HK:=I (HK.o.below hdr);replace HB:=HB.t hdr;clear hdr;have HSS:=I (show(V9.drew.cell? ⟨LB,j*2,none⟩=some (.string ⟨i.p.1.toArray⟩)∧V9.drew.cell? ⟨LB,j*2+1,none⟩=some (.string ⟨i.p.2.toArray⟩)∧Blk V9.drew PK 47 cK) from⟨(HCE.o j i _ hi HL.o).1,(HCE.o j i _ hi HL.o).2,HK.o⟩);refine Reg.AR (fun w'=>w'.cell? ⟨LB,j*2,none⟩=some (.string ⟨i.p.1.toArray⟩)∧w'.cell? ⟨LB,j*2+1,none⟩=some (.string ⟨i.p.2.toArray⟩)∧Blk w' PK 47 cK) 12 rfl (by kernel_rfl) HSS.o ?_;refine Reg.tk 0 (v:=?vxa1) rfl HSS.o (fun w' hS=>?hxa1) ?rxa1
    case hxa1=>go_simp<;>rfl
    simp only[Act.put,U,Aa,Ab];refine Reg.tk 1 (v:=?vxa2) rfl HSS.o (fun w' hS=>?hxa2) ?rxa2
    case hxa2=>go_simp<;>rfl
    simp only[Act.put,U,Aa,Ab];refine Reg.tk 2 (v:=?vxa3) rfl HSS.o (fun w' hS=>?hxa3) ?rxa3
    case hxa3=>go_simp<;>rfl
    simp only[Act.put,U,Aa,Ab];refine Reg.tk 3 (v:=?vxa4) rfl HSS.o (fun w' hS=>?hxa4) ?rxa4
    case hxa4=>go_simp<;>rfl
    simp only[Act.put,U,Aa,Ab];refine Reg.tk 4 (v:=?vxa5) rfl HSS.o (fun w' hS=>?hxa5) ?rxa5
    case hxa5=>have k0:=hS.1;have k1:=hS.2.1;go_simp<;>rfl
    simp only[Act.put,U,Aa,Ab];refine Reg.tk 5 (v:=.agg cK) rfl HSS.o (fun w' hS=>?hxa6) ?rxa6
    case hxa6=>exact Wh.AS (.tmp 8) rfl rfl hS.2.2 Tryz.underlying47 rfl HKI.o
    simp only[Act.put,U,Aa,Ab];refine Reg.Ad [6] (by kernel_rfl) (by simp) ?_;intro j0 hj0;obtain rfl:j0=6:=by simpa using hj0
    clear hj0
    right
    refine⟨_,_,_,_,_,_,44,#[.pointer (some ⟨r,0,none⟩),prV i.p,.agg cK],rfl,by rfl,by go_simp,?_⟩;refine Calls.mono (Kp HS.o HB.o.size hi HEK.o) ?_;rintro e wc ⟨⟨nn,rfl⟩,v2,es2,c1,c2,c3,c4,c5,c6,c7,hb⟩;replace HL:=I (Bs HL.o (c7 LB (.inl rfl)));replace HK:=I (Bs HK.o (c7 PK (.inr rfl)));replace HB:=I (HB.o.trans hb);have HC1:=I c1;have HC2:=I c2;have HC3:=I c3;have HC4:=I c4;have HC5:=I c5;have HC6:=I c6;clear c1 c2 c3 c4 c5 c6 c7 hb HS;replace HSS:=I (show(wc.cell? ⟨LB,j*2,none⟩=some (.string ⟨i.p.1.toArray⟩)∧wc.cell? ⟨LB,j*2+1,none⟩=some (.string ⟨i.p.2.toArray⟩)∧Blk wc PK 47 cK) from⟨(HCE.o j i _ hi HL.o).1,(HCE.o j i _ hi HL.o).2,HK.o⟩);refine⟨_,rfl,HSS.o,?_⟩;simp only[Act.put,U,Aa,Ab];refine Reg.tk 7 (v:=?vxa7) rfl HSS.o (fun w' hS=>?hxa7) ?rxa7
    case hxa7=>go_simp<;>rfl
    simp only[Act.put,U,Aa,Ab];refine Reg.tk 8 (v:=?vxa8) rfl HSS.o (fun w' hS=>?hxa8) ?rxa8
    case hxa8=>go_simp<;>rfl
    simp only[Act.put,U,Aa,Ab];refine Reg.tk 9 (v:=?vxa9) rfl HSS.o (fun w' hS=>?hxa9) ?rxa9
    case hxa9=>go_simp<;>rfl
    simp only[Act.put,U,Aa,Ab];refine Reg.tk 10 (v:=?vxa10) rfl HSS.o (fun w' hS=>?hxa10) ?rxa10
    case hxa10=>go_simp<;>rfl
    simp only[Act.put,U,Aa,Ab];refine Reg.tk 11 (v:=?vxa11) rfl HSS.o (fun w' hS=>?hxa11) ?rxa11
    case hxa11=>go_simp<;>rfl
    simp only[Act.put,U,Aa,Ab];refine wpAnyH_done (by kernel_rfl) ?_ _;clear HSS
    go_upto_region 16 with fail
    have hdr:Below wc.heap.size wc wc.drew:=below_drewN (Below.refl _ _) 1;have HC6b:=I (fun k hk=>(⟨Nat.lt_of_lt_of_le (HC6.o k hk).1 hdr.size,(HC6.o k hk).2⟩:k<wc.drew.heap.size∧_));replace HC1:=I (HC1.o.below hdr);replace HC2:=I (HC2.o.below hdr);replace HL:=I (HL.o.below hdr);replace HK:=I (HK.o.below hdr);replace HB:=HB.t hdr;clear hdr HC6;have HSS:=I (show(wc.drew.cell? ⟨LB,j*2,none⟩=some (.string ⟨i.p.1.toArray⟩)∧wc.drew.cell? ⟨LB,j*2+1,none⟩=some (.string ⟨i.p.2.toArray⟩)∧Blk wc.drew PK 47 cK) from⟨(HCE.o j i _ hi HL.o).1,(HCE.o j i _ hi HL.o).2,HK.o⟩);refine Reg.AR (fun w'=>w'.cell? ⟨LB,j*2,none⟩=some (.string ⟨i.p.1.toArray⟩)∧w'.cell? ⟨LB,j*2+1,none⟩=some (.string ⟨i.p.2.toArray⟩)∧Blk w' PK 47 cK) 7 rfl (by kernel_rfl) HSS.o ?_;refine Reg.tk 0 (v:=?vxb1) rfl HSS.o (fun w' hS=>?hxb1) ?rxb1
    case hxb1=>go_simp<;>rfl
    simp only[Act.put,U,Aa,Ab];refine Reg.tk 1 (v:=?vxb2) rfl HSS.o (fun w' hS=>?hxb2) ?rxb2
    case hxb2=>go_simp<;>rfl
    simp only[Act.put,U,Aa,Ab];refine Reg.tk 2 (v:=?vxb3) rfl HSS.o (fun w' hS=>?hxb3) ?rxb3
    case hxb3=>go_simp<;>rfl
    simp only[Act.put,U,Aa,Ab];refine Reg.tk 3 (v:=?vxb4) rfl HSS.o (fun w' hS=>?hxb4) ?rxb4
    case hxb4=>go_simp<;>rfl
    simp only[Act.put,U,Aa,Ab];refine Reg.tk 4 (v:=?vxb5) rfl HSS.o (fun w' hS=>?hxb5) ?rxb5
    case hxb5=>have k0:=hS.1;have k1:=hS.2.1;go_simp<;>rfl
    simp only[Act.put,U,Aa,Ab];refine Reg.tk 5 (v:=.agg cK) rfl HSS.o (fun w' hS=>?hxb6) ?rxb6
    case hxb6=>exact Wh.AS (.tmp 8) rfl rfl hS.2.2 Tryz.underlying47 rfl HKI.o
    simp only[Act.put,U,Aa,Ab];refine Reg.Ad [6] (by kernel_rfl) (by simp) ?_;intro j0 hj0;obtain rfl:j0=6:=by simpa using hj0
    clear hj0
    right
    refine⟨_,_,_,_,_,_,45,#[.pointer (some ⟨q,0,none⟩),prV i.p,.agg cK],rfl,by rfl,by go_simp,?_⟩;refine Calls.mono (NT HC1.o HC2.o HC3.o HC4.o HC5.o HC6b.o HB.o.size hi HEK.o) ?_;rintro e wd ⟨⟨nd,rfl⟩,dv2,hs2,c7,hb⟩;replace HL:=I (Bs HL.o (c7 LB (.inl rfl)));replace HK:=I (Bs HK.o (c7 PK (.inr rfl)));replace HB:=I (HB.o.trans hb);have HS:=I hs2;clear c7 hb hs2 HC1 HC2 HC3 HC4 HC5 HC6b;replace HSS:=I (show(wd.cell? ⟨LB,j*2,none⟩=some (.string ⟨i.p.1.toArray⟩)∧wd.cell? ⟨LB,j*2+1,none⟩=some (.string ⟨i.p.2.toArray⟩)∧Blk wd PK 47 cK) from⟨(HCE.o j i _ hi HL.o).1,(HCE.o j i _ hi HL.o).2,HK.o⟩);refine⟨_,rfl,HSS.o,?_⟩;simp only[Act.put,U,Aa,Ab];refine wpAnyH_done (by kernel_rfl) ?_ _;clear HSS HCE
    go_wp2<;>skip
    go_roundw
    case rel=>exact⟨j+1,_,_,_,by omega,by go_num,HS.o.more (fun k hk=>.inl (.inl hk)),HL.o,HB.o⟩
    case measure=>simp [intOf];omega
   ·have q1:=Rg.DG hne
    have HEK:=I (show cK=AP i.k by rw[hkey.2 hne];exact HEJ.o);clear hkey hne HEJ
    go_region_held3 (fun w'=>w'.cell? ⟨LB,j*2,none⟩=some (.string ⟨i.p.1.toArray⟩)∧w'.cell? ⟨LB,j*2+1,none⟩=some (.string ⟨i.p.2.toArray⟩)) (exact HCE.o j i _ hi HL.o) ((go_at_call 28;refine Calls.mono (TG.o _) ?_;rintro e wg ⟨rfl,hb⟩;clear TG;replace HS:=I (HS.o.below hb);replace HL:=I (HL.o.below hb);replace HK:=I (HK.o.below hb);replace HB:=HB.t hb;clear hb))
    clear q1
    go_upto_region 15 with fail
    have hdr:Below wg.heap.size wg wg.drew:=below_drewN (Below.refl _ _) 1;replace HS:=I (HS.o.below hdr);replace HL:=I (HL.o.below hdr);replace HK:=I (HK.o.below hdr);replace HB:=HB.t hdr;clear hdr;have HSS:=I (show(wg.drew.cell? ⟨LB,j*2,none⟩=some (.string ⟨i.p.1.toArray⟩)∧wg.drew.cell? ⟨LB,j*2+1,none⟩=some (.string ⟨i.p.2.toArray⟩)∧Blk wg.drew PK 47 cK) from⟨(HCE.o j i _ hi HL.o).1,(HCE.o j i _ hi HL.o).2,HK.o⟩);refine Reg.AR (fun w'=>w'.cell? ⟨LB,j*2,none⟩=some (.string ⟨i.p.1.toArray⟩)∧w'.cell? ⟨LB,j*2+1,none⟩=some (.string ⟨i.p.2.toArray⟩)∧Blk w' PK 47 cK) 12 rfl (by kernel_rfl) HSS.o ?_;refine Reg.tk 0 (v:=?vya1) rfl HSS.o (fun w' hS=>?hya1) ?rya1
    case hya1=>go_simp<;>rfl
    simp only[Act.put,U,Aa,Ab];refine Reg.tk 1 (v:=?vya2) rfl HSS.o (fun w' hS=>?hya2) ?rya2
    case hya2=>go_simp<;>rfl
    simp only[Act.put,U,Aa,Ab];refine Reg.tk 2 (v:=?vya3) rfl HSS.o (fun w' hS=>?hya3) ?rya3
    case hya3=>go_simp<;>rfl
    simp only[Act.put,U,Aa,Ab];refine Reg.tk 3 (v:=?vya4) rfl HSS.o (fun w' hS=>?hya4) ?rya4
    case hya4=>go_simp<;>rfl
    simp only[Act.put,U,Aa,Ab];refine Reg.tk 4 (v:=?vya5) rfl HSS.o (fun w' hS=>?hya5) ?rya5
    case hya5=>have k0:=hS.1;have k1:=hS.2.1;go_simp<;>rfl
    simp only[Act.put,U,Aa,Ab];refine Reg.tk 5 (v:=.agg cK) rfl HSS.o (fun w' hS=>?hya6) ?rya6
    case hya6=>exact Wh.AS (.tmp 8) rfl rfl hS.2.2 Tryz.underlying47 rfl HKI.o
    simp only[Act.put,U,Aa,Ab];refine Reg.Ad [6] (by kernel_rfl) (by simp) ?_;intro j0 hj0;obtain rfl:j0=6:=by simpa using hj0
    clear hj0
    right
    refine⟨_,_,_,_,_,_,44,#[.pointer (some ⟨r,0,none⟩),prV i.p,.agg cK],rfl,by rfl,by go_simp,?_⟩;refine Calls.mono (Kp HS.o HB.o.size hi HEK.o) ?_;rintro e wc ⟨⟨nn,rfl⟩,v2,es2,c1,c2,c3,c4,c5,c6,c7,hb⟩;replace HL:=I (Bs HL.o (c7 LB (.inl rfl)));replace HK:=I (Bs HK.o (c7 PK (.inr rfl)));replace HB:=I (HB.o.trans hb);have HC1:=I c1;have HC2:=I c2;have HC3:=I c3;have HC4:=I c4;have HC5:=I c5;have HC6:=I c6;clear c1 c2 c3 c4 c5 c6 c7 hb HS;replace HSS:=I (show(wc.cell? ⟨LB,j*2,none⟩=some (.string ⟨i.p.1.toArray⟩)∧wc.cell? ⟨LB,j*2+1,none⟩=some (.string ⟨i.p.2.toArray⟩)∧Blk wc PK 47 cK) from⟨(HCE.o j i _ hi HL.o).1,(HCE.o j i _ hi HL.o).2,HK.o⟩);refine⟨_,rfl,HSS.o,?_⟩;simp only[Act.put,U,Aa,Ab];refine Reg.tk 7 (v:=?vya7) rfl HSS.o (fun w' hS=>?hya7) ?rya7
    case hya7=>go_simp<;>rfl
    simp only[Act.put,U,Aa,Ab];refine Reg.tk 8 (v:=?vya8) rfl HSS.o (fun w' hS=>?hya8) ?rya8
    case hya8=>go_simp<;>rfl
    simp only[Act.put,U,Aa,Ab];refine Reg.tk 9 (v:=?vya9) rfl HSS.o (fun w' hS=>?hya9) ?rya9
    case hya9=>go_simp<;>rfl
    simp only[Act.put,U,Aa,Ab];refine Reg.tk 10 (v:=?vya10) rfl HSS.o (fun w' hS=>?hya10) ?rya10
    case hya10=>go_simp<;>rfl
    simp only[Act.put,U,Aa,Ab];refine Reg.tk 11 (v:=?vya11) rfl HSS.o (fun w' hS=>?hya11) ?rya11
    case hya11=>go_simp<;>rfl
    simp only[Act.put,U,Aa,Ab];refine wpAnyH_done (by kernel_rfl) ?_ _;clear HSS
    go_upto_region 16 with fail
    have hdr:Below wc.heap.size wc wc.drew:=below_drewN (Below.refl _ _) 1;have HC6b:=I (fun k hk=>(⟨Nat.lt_of_lt_of_le (HC6.o k hk).1 hdr.size,(HC6.o k hk).2⟩:k<wc.drew.heap.size∧_));replace HC1:=I (HC1.o.below hdr);replace HC2:=I (HC2.o.below hdr);replace HL:=I (HL.o.below hdr);replace HK:=I (HK.o.below hdr);replace HB:=HB.t hdr;clear hdr HC6;have HSS:=I (show(wc.drew.cell? ⟨LB,j*2,none⟩=some (.string ⟨i.p.1.toArray⟩)∧wc.drew.cell? ⟨LB,j*2+1,none⟩=some (.string ⟨i.p.2.toArray⟩)∧Blk wc.drew PK 47 cK) from⟨(HCE.o j i _ hi HL.o).1,(HCE.o j i _ hi HL.o).2,HK.o⟩);refine Reg.AR (fun w'=>w'.cell? ⟨LB,j*2,none⟩=some (.string ⟨i.p.1.toArray⟩)∧w'.cell? ⟨LB,j*2+1,none⟩=some (.string ⟨i.p.2.toArray⟩)∧Blk w' PK 47 cK) 7 rfl (by kernel_rfl) HSS.o ?_;refine Reg.tk 0 (v:=?vyb1) rfl HSS.o (fun w' hS=>?hyb1) ?ryb1
    case hyb1=>go_simp<;>rfl
    simp only[Act.put,U,Aa,Ab];refine Reg.tk 1 (v:=?vyb2) rfl HSS.o (fun w' hS=>?hyb2) ?ryb2
    case hyb2=>go_simp<;>rfl
    simp only[Act.put,U,Aa,Ab];refine Reg.tk 2 (v:=?vyb3) rfl HSS.o (fun w' hS=>?hyb3) ?ryb3
    case hyb3=>go_simp<;>rfl
    simp only[Act.put,U,Aa,Ab];refine Reg.tk 3 (v:=?vyb4) rfl HSS.o (fun w' hS=>?hyb4) ?ryb4
    case hyb4=>go_simp<;>rfl
    simp only[Act.put,U,Aa,Ab];refine Reg.tk 4 (v:=?vyb5) rfl HSS.o (fun w' hS=>?hyb5) ?ryb5
    case hyb5=>have k0:=hS.1;have k1:=hS.2.1;go_simp<;>rfl
    simp only[Act.put,U,Aa,Ab];refine Reg.tk 5 (v:=.agg cK) rfl HSS.o (fun w' hS=>?hyb6) ?ryb6
    case hyb6=>exact Wh.AS (.tmp 8) rfl rfl hS.2.2 Tryz.underlying47 rfl HKI.o
    simp only[Act.put,U,Aa,Ab];refine Reg.Ad [6] (by kernel_rfl) (by simp) ?_;intro j0 hj0;obtain rfl:j0=6:=by simpa using hj0
    clear hj0
    right
    refine⟨_,_,_,_,_,_,45,#[.pointer (some ⟨q,0,none⟩),prV i.p,.agg cK],rfl,by rfl,by go_simp,?_⟩;refine Calls.mono (NT HC1.o HC2.o HC3.o HC4.o HC5.o HC6b.o HB.o.size hi HEK.o) ?_;rintro e wd ⟨⟨nd,rfl⟩,dv2,hs2,c7,hb⟩;replace HL:=I (Bs HL.o (c7 LB (.inl rfl)));replace HK:=I (Bs HK.o (c7 PK (.inr rfl)));replace HB:=I (HB.o.trans hb);have HS:=I hs2;clear c7 hb hs2 HC1 HC2 HC3 HC4 HC5 HC6b;replace HSS:=I (show(wd.cell? ⟨LB,j*2,none⟩=some (.string ⟨i.p.1.toArray⟩)∧wd.cell? ⟨LB,j*2+1,none⟩=some (.string ⟨i.p.2.toArray⟩)∧Blk wd PK 47 cK) from⟨(HCE.o j i _ hi HL.o).1,(HCE.o j i _ hi HL.o).2,HK.o⟩);refine⟨_,rfl,HSS.o,?_⟩;simp only[Act.put,U,Aa,Ab];refine wpAnyH_done (by kernel_rfl) ?_ _;clear HSS HCE
    go_wp2<;>skip
    go_roundw
    case rel=>exact⟨j+1,_,_,_,by omega,by go_num,HS.o.more (fun k hk=>.inl (.inl hk)),HL.o,HB.o⟩
    case measure=>simp [intOf];omega
  ·have hje:j=4:=by omega
   subst hje;clear hlt hj HCE HL HLB;have TR:=I (fun(w1:World)=>Oc w1);have TR2:=I (fun(w1:World)=>Oc w1);have N1:=I (fun(w1:World) (v1 v2:Value) (K:Nat→Prop) (hK:∀b,K b→b<w1.heap.size) (ht:TpK K w1 v1 v2 (.slice none 0 0) tT) (hr:Ring w1 w.heap.size r v es) (hB:w.heap.size≤w1.heap.size)=>Yc (R:=rE) TU rfl Yu TT (by decide) (ht.r.slv hK) (ht.k.slp hK) (by decide) hr hB);have N2:=I (fun(w1:World) (v1 v2:Value) (lo:Nat) (ht:TpK (fun b=>lo≤b∧b<w1.heap.size) w1 v1 v2 (.slice none 0 0) tT) (hlo:w.heap.size≤lo) (hr:DRing w1 w.heap.size q dv ((itX true).take 4)) (hB:w.heap.size≤w1.heap.size)=>Ve (R:=rE) TU TT (by decide) ht hlo (Nat.le_refl _) hr hB);obtain⟨W0,eW0⟩:∃z,z=wr:=⟨_,rfl⟩
   go_upto_region 21 with(first
    |(go_at_call 38;refine Calls.mono (TR.o _) ?_;rintro e t1 ⟨a1,a2,rfl,ht,hb⟩;have HT1:=I ht;have HB1:=I hb;clear ht hb TR)
    |(go_at_call 37;refine Calls.mono (N1.o _ _ _ _ (fun b x=>x.2) HT1.o (HS.o.c.below HB1.o) (Nat.le_trans HB.o.size HB1.o.size)) ?_;rintro e t2 ⟨k,lo,hi,u1,u2,rfl,hk1,hk2,hkd,hb⟩;have HKD:=I hkd;have HB2:=I hb;have HK1:=I hk1;have HK2:=I hk2;clear N1 HT1 hkd hb hk1 hk2)
    |(go_at_call 38;refine Calls.mono (TR2.o _) ?_;rintro e t3 ⟨a3,a4,rfl,ht,hb⟩;have HT3:=I ht;have HB3:=I hb;clear ht hb TR2)
    |(go_at_call 46;refine Calls.mono (N2.o _ _ _ _ HT3.o (Nat.le_trans HB.o.size (Nat.le_trans HB1.o.size HB2.o.size)) (HS.o.d.below (HB1.o.trans ((HB2.o.trans (HB3.o.mono HB2.o.size)).mono HB1.o.size))) (Nat.le_trans HB.o.size (Nat.le_trans HB1.o.size (Nat.le_trans HB2.o.size HB3.o.size)))) ?_;rintro e t4 ⟨x,rfl,hx,hdk,hb⟩;have HX:=I hx;have HDK:=I hdk;have HB4:=I hb;clear N2 HT3 hx hdk hb)
    |fail)
   go_wp2
   go_ret;have hb4:=HB.o.trans ((HB1.o.trans ((HB2.o.trans ((HB3.o.trans (HB4.o.mono HB3.o.size)).mono HB2.o.size)).mono HB1.o.size)).mono HB.o.size);exact⟨_,⟨k,r,lo,hi,rE,tT,v,u1,u2,.slice none 0 0⟩,es,⟨x,q,t2.heap.size,t3.heap.size,rE,tT,dv,a3,a4,.slice none 0 0⟩,rfl,Va (a:=true) (Nat.le_refl _) HS.o HB1.o HK1.o HK2.o HKD.o HB2.o HB3.o HX.o rfl HDK.o HB4.o hb4 rfl rfl rfl rfl⟩
theorem Gk (a:Bool) (w:World):Calls Tryz.prog 16 #[.bool a] w fun e w'=>∃g p es d,e = .returned (.pointer (some ⟨g,0,none⟩))∧Scn a w w' g p es d:=by
 cases a with
 |false=>exact WW w
 |true=>exact WX w
end Kd
end
end Go.Proofs.YtfcjeebnkigeaaaGreat
