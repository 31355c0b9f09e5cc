import Derived.Deep.LoopGhost
import Derived.StillTailTactics
import Derived.BigQuiet
import Derived.Deep.QuietTactic
import Derived.Deep.RegionHeld3
import Derived.DeepKeys
import Derived.Laws.StructEq
import Derived.Laws.OwnMore
import Derived.SizedLaws
import Derived.Test.YtfcjeebnkigeaaaGreatRows
import Derived.Lib.SmallJoins
import Derived.Deep.Strs
import Derived.ChangeSame
import Derived.Test.YtfcjeebnkigeaaaGreatZKdcNonces1
import Derived.Test.YtfcjeebnkigeaaaGreatZKdcNonces2
import Derived.Test.YtfcjeebnkigeaaaGreatZKdcNonces3
import Derived.Test.YtfcjeebnkigeaaaGreatZKdcNonces4
import Derived.Test.YtfcjeebnkigeaaaGreatZKdcNonces5
import Derived.Test.YtfcjeebnkigeaaaGreatZKdcNonces6
import Derived.Test.YtfcjeebnkigeaaaGreatZKdcNonces7
import Derived.Test.YtfcjeebnkigeaaaGreatZKdcNonces8
import Derived.Test.YtfcjeebnkigeaaaGreatZKdcNonces9
import Derived.Test.YtfcjeebnkigeaaaGreatZKdcNonces10
import Derived.Test.YtfcjeebnkigeaaaGreatZKdcNonces11
import Derived.Test.YtfcjeebnkigeaaaGreatZKdcNonces12
import Derived.Test.YtfcjeebnkigeaaaGreatZKdcNonces13
import Derived.Test.YtfcjeebnkigeaaaGreatZKdcNonces14
import Derived.Test.YtfcjeebnkigeaaaGreatZKdcNonces15
import Derived.Test.YtfcjeebnkigeaaaGreatZKdcNonces16
import Derived.Test.YtfcjeebnkigeaaaGreatZKdcNonces17
import Derived.Test.YtfcjeebnkigeaaaGreatZKdcNonces18
import Derived.Test.YtfcjeebnkigeaaaGreatZKdcNonces19
import Derived.Test.YtfcjeebnkigeaaaGreatZKdcNonces20
section
set_option linter.unusedVariables false
set_option linter.unusedSimpArgs false
namespace Go.Proofs.YtfcjeebnkigeaaaGreat.Kd
open Go.RowKit Go.Proofs.YtfcjeebnkigeaaaGreat.Mem Go.Proofs.YtfcjeebnkigeaaaGreat.Se
open Go.Proofs.YtfcjeebnkigeaaaGreat.Rg (It Ent Ring RO DRing DO Ap its ring_new)
theorem dring_nil {w:World} {B q:Nat} (hq:Blk w q 115 #[.slice none 0 0]) (hB:B≤q):DRing w B q (.slice none 0 0) []:=
 ⟨hq,World.ownsRow_nil w B _ 35,hB,by simp [Value.ownBlock]⟩
theorem blk_same {w w':World} {g:Nat} {t:TypeId} {cs:Array Value} (h:Blk w g t cs) (e:w'.heap[g]? = w.heap[g]?):Blk w' g t cs:=e.trans h
set_option maxRecDepth 100000 in
set_option maxHeartbeats 6400000 in
theorem begin_f (w:World):Calls Tryz.prog 16 #[.bool false] w fun e w'=>∃g p es d,e = .returned (.pointer (some ⟨g,0,none⟩))∧Scn false w w' g p es d:=by
 have C1:=Lib.hid (fun(w1:World)=>ring_new w1.heap.size w1 (Nat.le_refl _))
 have T1:=Lib.hid (fun(w1:World)=>l_tgt rA rA (by decide) w1)
 have T2:=Lib.hid (fun(w1:World)=>l_tgt rA rE (by decide) w1)
 have T3:=Lib.hid (fun(w1:World)=>l_tgt rE rA (by decide) w1)
 have T4:=Lib.hid (fun(w1:World)=>l_client w1)
 have T5:=Lib.hid (fun(w1:World)=>l_service w1)
 go_enter Tryz.func16,Tryz.ntmps16
 go_upto_region 2 with(first
  |(go_at_call 39;refine Calls.mono (C1.out _) ?_;rintro e w1 ⟨r,rfl,hr1,hr2,hb⟩;clear C1;have HR:=Lib.hid hr2;have HB:=Lib.hid hb;clear hr2 hb)
  |fail)
 obtain⟨W2,eW2⟩:∃z,z=w1.alloc (.cells #[.slice none 0 0] 115):=⟨_,rfl⟩
 have hb:Below w1.heap.size w1 W2:=eW2▸(Below.refl _ _).alloc (Nat.le_refl _) _
 have hw1:=HB.out.size
 have HS:=Lib.hid (show Sc false W2 w.heap.size r (.slice none 0 0) [] w1.heap.size (.slice none 0 0) 0 (fun _=>False) from⟨HR.out.below hb,dring_nil (eW2▸Blk.new w1 _ _) hw1,rfl,(fun j e he=>by simp at he),(fun k hk x=>by
  rcases hk with hk | hk
  ·have:=HR.out.own_lt x;omega
  ·simp [Value.ownBlock] at hk),fun k hk=>hk.elim⟩)
 replace HB:=Lib.hid (HB.out.trans (hb.mono hw1))
 rw[←eW2]
 clear eW2 hb hw1 HR hr1
 obtain⟨q,eq⟩:∃z,z=w1.heap.size:=⟨_,rfl⟩
 rw[←eq] at HS⊢
 clear eq
 go_upto_region 9 with(first
  |(go_at_call 28;refine Calls.mono (T1.out _) ?_;rintro e xT1 ⟨rfl,hb⟩;clear T1;replace HS:=Lib.hid (HS.out.below hb);replace HB:=Lib.hid (HB.out.trans (hb.mono HB.out.size));clear hb)
  |(go_at_call 28;refine Calls.mono (T2.out _) ?_;rintro e xT2 ⟨rfl,hb⟩;clear T2;replace HS:=Lib.hid (HS.out.below hb);replace HB:=Lib.hid (HB.out.trans (hb.mono HB.out.size));clear hb)
  |(go_at_call 28;refine Calls.mono (T3.out _) ?_;rintro e xT3 ⟨rfl,hb⟩;clear T3;replace HS:=Lib.hid (HS.out.below hb);replace HB:=Lib.hid (HB.out.trans (hb.mono HB.out.size));clear hb)
  |(go_at_call 27;refine Calls.mono (T4.out _) ?_;rintro e xT4 ⟨rfl,hb⟩;clear T4;replace HS:=Lib.hid (HS.out.below hb);replace HB:=Lib.hid (HB.out.trans (hb.mono HB.out.size));clear hb)
  |(go_at_call 34;refine Calls.mono (T5.out _) ?_;rintro e xT5 ⟨rfl,hb⟩;clear T5;replace HS:=Lib.hid (HS.out.below hb);replace HB:=Lib.hid (HB.out.trans (hb.mono HB.out.size));clear hb)
  |fail)
 obtain⟨W3,eW3⟩:∃z,z=xT5.alloc (.cells #[.string ⟨(kr rA rA).1.toArray⟩,.string ⟨(kr rA rA).2.toArray⟩,.string ⟨(kr rA rE).1.toArray⟩,.string ⟨(kr rA rE).2.toArray⟩,.string ⟨(kr rE rA).1.toArray⟩,.string ⟨(kr rE rA).2.toArray⟩,.string ⟨(pAnn).1.toArray⟩,.string ⟨(pAnn).2.toArray⟩,.string ⟨(pMail).1.toArray⟩,.string ⟨(pMail).2.toArray⟩] 27):=⟨_,rfl⟩
 have hb:Below xT5.heap.size xT5 W3:=eW3▸(Below.refl _ _).alloc (Nat.le_refl _) _
 have HL:=Lib.hid (show Blk W3 xT5.heap.size 27 #[.string ⟨(kr rA rA).1.toArray⟩,.string ⟨(kr rA rA).2.toArray⟩,.string ⟨(kr rA rE).1.toArray⟩,.string ⟨(kr rA rE).2.toArray⟩,.string ⟨(kr rE rA).1.toArray⟩,.string ⟨(kr rE rA).2.toArray⟩,.string ⟨(pAnn).1.toArray⟩,.string ⟨(pAnn).2.toArray⟩,.string ⟨(pMail).1.toArray⟩,.string ⟨(pMail).2.toArray⟩] from eW3▸Blk.new xT5 _ _)
 have HLB:=Lib.hid HB.out.size
 obtain⟨LB,eLB⟩:∃z,z=xT5.heap.size:=⟨_,rfl⟩
 have HS2:=Lib.hid (((HS.out.below hb).more (G2:=fun k=>k=LB) (fun k hk=>.inr ⟨by rw[hk,eLB];exact HL.out.lt,fun x=>by have:=HS.out.c.own_lt x;omega,fun x=>by have:=HS.out.d.own_lt x;omega⟩)))
 replace HB:=Lib.hid (HB.out.trans (hb.mono HB.out.size))
 rw[←eW3]
 rw[←eLB] at HL HLB⊢
 clear eW3 hb eLB HS
 have HBL:=Lib.hid (show Below w.heap.size w W3 from HB.out)
 have HCE:=Lib.hid (show ∀(j:Nat) (i:It) (w1:World),(itX false)[j]? = some i→Blk w1 LB 27 #[.string ⟨(kr rA rA).1.toArray⟩,.string ⟨(kr rA rA).2.toArray⟩,.string ⟨(kr rA rE).1.toArray⟩,.string ⟨(kr rA rE).2.toArray⟩,.string ⟨(kr rE rA).1.toArray⟩,.string ⟨(kr rE rA).2.toArray⟩,.string ⟨(pAnn).1.toArray⟩,.string ⟨(pAnn).2.toArray⟩,.string ⟨(pMail).1.toArray⟩,.string ⟨(pMail).2.toArray⟩]→w1.cell? ⟨LB,j*2,none⟩=some (.string ⟨i.p.1.toArray⟩)∧w1.cell? ⟨LB,j*2+1,none⟩=some (.string ⟨i.p.2.toArray⟩) by
  intro j i w1 hi h1
  match j,hi with
  |0,hi=>injection hi with hi;subst hi;exact⟨h1.cell 0,h1.cell 1⟩
  |1,hi=>injection hi with hi;subst hi;exact⟨h1.cell 2,h1.cell 3⟩
  |2,hi=>injection hi with hi;subst hi;exact⟨h1.cell 4,h1.cell 5⟩
  |3,hi=>injection hi with hi;subst hi;exact⟨h1.cell 6,h1.cell 7⟩
  |4,hi=>injection hi with hi;subst hi;exact⟨h1.cell 8,h1.cell 9⟩
  |j+5,hi=>simp [itX,itA] at hi)
 obtain⟨cL,ecL⟩:∃z:Array Value,z=#[.string ⟨(kr rA rA).1.toArray⟩,.string ⟨(kr rA rA).2.toArray⟩,.string ⟨(kr rA rE).1.toArray⟩,.string ⟨(kr rA rE).2.toArray⟩,.string ⟨(kr rE rA).1.toArray⟩,.string ⟨(kr rE rA).2.toArray⟩,.string ⟨(pAnn).1.toArray⟩,.string ⟨(pAnn).2.toArray⟩,.string ⟨(pMail).1.toArray⟩,.string ⟨(pMail).2.toArray⟩]:=⟨_,rfl⟩
 rw[←ecL] at HL
 simp only[←ecL] at HCE
 clear ecL
 go_wp2
 go_loopw [7] (fun iv wr=>∃(j:Nat) (v dv:Value) (es:List Ent),j≤5∧iv = .int .i64 (j:Int)∧Sc false wr w.heap.size r v es q dv j (fun k=>k=LB)∧Blk wr LB 27 cL∧Below w.heap.size w wr) (fun iv _=>5 - (intOf iv).toNat)
 case atStart=>exact⟨0,_,_,_,Nat.zero_le _,rfl,HS2.out,HL.out,HB.out⟩
 case round=>
  obtain⟨j,v,dv,es,hj,rfl,hs,hl,hb⟩:=hrel
  have HS:=Lib.hid hs
  replace HL:=Lib.hid hl;replace HB:=Lib.hid hb
  clear hs hl hb HS2 HBL
  by_cases hlt:j<5
  ·have e1:(j:Int)<5:=by omega
   have e2:(0:Int)≤(j:Int):=by omega
   obtain⟨i,hi⟩:∃i,(itX false)[j]? = some i:=⟨_,List.getElem?_eq_getElem (show j<itA.length from hlt)⟩
   have e3:=scn_wrap (show j<5 by omega)
   have hkey:=scn_key _ hi
   have CK:=Lib.hid (fun w1=>l_key (UInt8.ofNat (10+j)) w1)
   have TG:=Lib.hid (fun(w1:World)=>l_tgt rA rE (by decide) w1)
   obtain⟨cK,ecK⟩:∃z,z=key32 (kq (UInt8.ofNat (10+j))):=⟨_,rfl⟩
   rw[←ecK] at CK
   have HKS:=Lib.hid (show cK.size=32 by rw[ecK];exact key32_size _)
   have HKO:=Lib.hid (show cK.all (·.oneCell')=true by rw[ecK,←bvs_kb];exact one_list (bvs_one _))
   have HKI:=Lib.hid (show(Tryz.prog.info? 47).map (·.size)=some cK.size by rw[ecK];exact info32 _)
   have HEJ:=Lib.hid ecK
   obtain⟨nK,enK⟩:∃z,z=((UInt8.ofNat (10+j)).toNat:Int):=⟨_,rfl⟩
   rw[←enK] at CK e3
   clear ecK enK
   go_upto_region 13 with(first
    |(go_at_call 18;refine Calls.mono (CK.out _) ?_;rintro e wk ⟨rfl,hb⟩;clear CK;replace HS:=Lib.hid (HS.out.below hb);replace HL:=Lib.hid (HL.out.below hb);replace HB:=Lib.hid (HB.out.trans (hb.mono HB.out.size));clear hb)
    |(refine Wh.store_new (by rfl) 47 (.tmp 8) (.tmp 41) (by rfl) 47 rfl cK (by rfl) (by rfl) (by rw[HKS.out];rfl) HKI.out HKO.out ?_;rintro V hV hb;have HK:=Lib.hid hV;have HPK:=Lib.hid (show LB<wk.heap.size from HL.out.lt);have HG:=Lib.hid (show ∀k,(k=LB∨k=wk.heap.size)→k=LB∨(k<V.heap.size∧¬RO r v es k∧¬DO q dv k) from(fun k hk=>hk.elim .inl (fun e=>.inr ⟨by rw[e];exact hV.lt,fun x=>by have:=HS.out.c.own_lt x;omega,fun x=>by have:=HS.out.d.own_lt x;omega⟩)));replace HS:=Lib.hid (HS.out.below hb);replace HL:=Lib.hid (HL.out.below hb);replace HB:=Lib.hid (HB.out.trans (hb.mono HB.out.size));clear hb hV)
    |fail)
   obtain⟨PK,ePK⟩:∃z,z=wk.heap.size:=⟨_,rfl⟩
   rw[←ePK] at HK HPK HG⊢
   clear ePK
   replace HS:=Lib.hid (HS.out.more HG.out)
   clear HG
   have hdr:Below V.heap.size V V.drew:=below_drewN (Below.refl _ _) 1
   replace HS:=Lib.hid (HS.out.below hdr);replace HL:=Lib.hid (HL.out.below hdr);replace HK:=Lib.hid (HK.out.below hdr);replace HB:=Lib.hid (HB.out.trans (hdr.mono HB.out.size))
   clear hdr
   by_cases hne:i.p=kr rA rE
   ·have q1:=Rg.eql_pr_yes hne
    have HEK:=Lib.hid (hkey.1 hne)
    clear hkey hne HEJ
    obtain⟨c9,ec9⟩:∃z,z=key32 i.k:=⟨_,rfl⟩
    have C9:=Lib.hid (show ∀w1:World,Calls Tryz.prog 18 #[.int .u8 99] w1 fun e w'=>e = .returned (.agg c9)∧Below w1.heap.size w1 w' by intro w1;rw[ec9,HEK.out];exact l_key 99 w1)
    have H9S:=Lib.hid (show cK.size=c9.size by rw[HKS.out,ec9];exact(key32_size _).symm)
    have H9O:=Lib.hid (show c9.all (·.oneCell')=true by rw[ec9,HEK.out,←bvs_kb];exact one_list (bvs_one _))
    have H9I:=Lib.hid (show(Tryz.prog.info? 47).map (·.size)=some c9.size by rw[ec9];exact info32 _)
    clear HEK
    have HEK:=Lib.hid ec9
    clear ec9
    go_region_held3 (fun w'=>w'.cell? ⟨LB,j*2,none⟩=some (.string ⟨i.p.1.toArray⟩)∧w'.cell? ⟨LB,j*2+1,none⟩=some (.string ⟨i.p.2.toArray⟩)) (exact HCE.out j i _ hi HL.out) ((go_at_call 28;refine Calls.mono (TG.out _) ?_;rintro e wg ⟨rfl,hb⟩;clear TG;replace HS:=Lib.hid (HS.out.below hb);replace HL:=Lib.hid (HL.out.below hb);replace HK:=Lib.hid (HK.out.below hb);replace HB:=Lib.hid (HB.out.trans (hb.mono HB.out.size));clear hb))
    clear q1
    go_upto_region 15 with(first
     |(go_at_call 18;refine Calls.mono (C9.out _) ?_;rintro e w9 ⟨rfl,hb⟩;clear C9;replace HS:=Lib.hid (HS.out.below hb);replace HL:=Lib.hid (HL.out.below hb);replace HK:=Lib.hid (HK.out.below hb);replace HB:=Lib.hid (HB.out.trans (hb.mono HB.out.size));clear hb)
     |(refine Wh.store_over (by rfl) 47 (.tmp 8) (.tmp 48) (by rfl) PK 47 _ HK.out c9 (by rfl) (by rfl) H9S.out H9I.out H9O.out ?_;rintro V9 hV hg;replace HS:=Lib.hid (HS.out.put (.inr rfl) hg);replace HL:=Lib.hid (HL.out.grown hg (fun e=>by injection e with e;have:=HPK.out;omega));replace HB:=Lib.hid (HB.out.grown hg HB.out.size (fun k hk=>by injection hk with hk;have:=HPK.out;have:=HLB.out;omega));replace HK:=Lib.hid hV;clear hV hg)
     |fail)
    clear HKS HKO HKI H9S
    obtain⟨cK,ecK⟩:∃z,z=c9:=⟨_,rfl⟩
    rw[←ecK] at HK HEK H9O H9I
    have HKO:=H9O
    have HKI:=H9I
    clear H9O H9I
    clear ecK
    have hdr:Below V9.heap.size V9 V9.drew:=below_drewN (Below.refl _ _) 1
    replace HS:=Lib.hid (HS.out.below hdr);replace HL:=Lib.hid (HL.out.below hdr);replace HK:=Lib.hid (HK.out.below hdr);replace HB:=Lib.hid (HB.out.trans (hdr.mono HB.out.size))
    clear hdr
    have HSS:=Lib.hid (show(V9.drew.cell? ⟨LB,j*2,none⟩=some (.string ⟨i.p.1.toArray⟩)∧V9.drew.cell? ⟨LB,j*2+1,none⟩=some (.string ⟨i.p.2.toArray⟩)∧Blk V9.drew PK 47 cK) from⟨(HCE.out j i _ hi HL.out).1,(HCE.out j i _ hi HL.out).2,HK.out⟩)
    refine Reg.any_begin (fun w'=>w'.cell? ⟨LB,j*2,none⟩=some (.string ⟨i.p.1.toArray⟩)∧w'.cell? ⟨LB,j*2+1,none⟩=some (.string ⟨i.p.2.toArray⟩)∧Blk w' PK 47 cK) 12 rfl (by kernel_rfl) HSS.out ?_
    refine Reg.tk 0 (v:=?vxa1) rfl HSS.out (fun w' hS=>?hxa1) ?rxa1
    case hxa1=>go_simp<;>rfl
    simp only[Act.put,Reg.s0,Reg.s1,Reg.s2]
    refine Reg.tk 1 (v:=?vxa2) rfl HSS.out (fun w' hS=>?hxa2) ?rxa2
    case hxa2=>go_simp<;>rfl
    simp only[Act.put,Reg.s0,Reg.s1,Reg.s2]
    refine Reg.tk 2 (v:=?vxa3) rfl HSS.out (fun w' hS=>?hxa3) ?rxa3
    case hxa3=>go_simp<;>rfl
    simp only[Act.put,Reg.s0,Reg.s1,Reg.s2]
    refine Reg.tk 3 (v:=?vxa4) rfl HSS.out (fun w' hS=>?hxa4) ?rxa4
    case hxa4=>go_simp<;>rfl
    simp only[Act.put,Reg.s0,Reg.s1,Reg.s2]
    refine Reg.tk 4 (v:=?vxa5) rfl HSS.out (fun w' hS=>?hxa5) ?rxa5
    case hxa5=>have k0:=hS.1;have k1:=hS.2.1;go_simp<;>rfl
    simp only[Act.put,Reg.s0,Reg.s1,Reg.s2]
    refine Reg.tk 5 (v:=.agg cK) rfl HSS.out (fun w' hS=>?hxa6) ?rxa6
    case hxa6=>exact Wh.exec_load (.tmp 8) rfl rfl hS.2.2 Tryz.underlying47 rfl HKI.out
    simp only[Act.put,Reg.s0,Reg.s1,Reg.s2]
    refine Reg.both_all [6] (by kernel_rfl) (by simp) ?_
    intro j0 hj0
    obtain rfl:j0=6:=by simpa using hj0
    clear hj0
    right
    refine⟨_,_,_,_,_,_,44,#[.pointer (some ⟨r,0,none⟩),prV i.p,.agg cK],rfl,by rfl,by go_simp,?_⟩
    refine Calls.mono (sc_code HS.out HB.out.size hi HEK.out) ?_
    rintro e wc ⟨⟨nn,rfl⟩,v2,es2,c1,c2,c3,c4,c5,c6,c7,hb⟩
    replace HL:=Lib.hid (blk_same HL.out (c7 LB (.inl rfl)));replace HK:=Lib.hid (blk_same HK.out (c7 PK (.inr rfl)))
    replace HB:=Lib.hid (HB.out.trans hb)
    have HC1:=Lib.hid c1;have HC2:=Lib.hid c2;have HC3:=Lib.hid c3;have HC4:=Lib.hid c4;have HC5:=Lib.hid c5;have HC6:=Lib.hid c6
    clear c1 c2 c3 c4 c5 c6 c7 hb HS
    replace HSS:=Lib.hid (show(wc.cell? ⟨LB,j*2,none⟩=some (.string ⟨i.p.1.toArray⟩)∧wc.cell? ⟨LB,j*2+1,none⟩=some (.string ⟨i.p.2.toArray⟩)∧Blk wc PK 47 cK) from⟨(HCE.out j i _ hi HL.out).1,(HCE.out j i _ hi HL.out).2,HK.out⟩)
    refine⟨_,rfl,HSS.out,?_⟩
    simp only[Act.put,Reg.s0,Reg.s1,Reg.s2]
    refine Reg.tk 7 (v:=?vxa7) rfl HSS.out (fun w' hS=>?hxa7) ?rxa7
    case hxa7=>go_simp<;>rfl
    simp only[Act.put,Reg.s0,Reg.s1,Reg.s2]
    refine Reg.tk 8 (v:=?vxa8) rfl HSS.out (fun w' hS=>?hxa8) ?rxa8
    case hxa8=>go_simp<;>rfl
    simp only[Act.put,Reg.s0,Reg.s1,Reg.s2]
    refine Reg.tk 9 (v:=?vxa9) rfl HSS.out (fun w' hS=>?hxa9) ?rxa9
    case hxa9=>go_simp<;>rfl
    simp only[Act.put,Reg.s0,Reg.s1,Reg.s2]
    refine Reg.tk 10 (v:=?vxa10) rfl HSS.out (fun w' hS=>?hxa10) ?rxa10
    case hxa10=>go_simp<;>rfl
    simp only[Act.put,Reg.s0,Reg.s1,Reg.s2]
    refine Reg.tk 11 (v:=?vxa11) rfl HSS.out (fun w' hS=>?hxa11) ?rxa11
    case hxa11=>go_simp<;>rfl
    simp only[Act.put,Reg.s0,Reg.s1,Reg.s2]
    refine wpAnyH_done (by kernel_rfl) ?_ _
    clear HSS
    go_upto_region 16 with fail
    have hdr:Below wc.heap.size wc wc.drew:=below_drewN (Below.refl _ _) 1
    have HC6b:=Lib.hid (fun k hk=>(⟨Nat.lt_of_lt_of_le (HC6.out k hk).1 hdr.size,(HC6.out k hk).2⟩:k<wc.drew.heap.size∧_))
    replace HC1:=Lib.hid (HC1.out.below hdr);replace HC2:=Lib.hid (HC2.out.below hdr);replace HL:=Lib.hid (HL.out.below hdr);replace HK:=Lib.hid (HK.out.below hdr);replace HB:=Lib.hid (HB.out.trans (hdr.mono HB.out.size))
    clear hdr HC6
    have HSS:=Lib.hid (show(wc.drew.cell? ⟨LB,j*2,none⟩=some (.string ⟨i.p.1.toArray⟩)∧wc.drew.cell? ⟨LB,j*2+1,none⟩=some (.string ⟨i.p.2.toArray⟩)∧Blk wc.drew PK 47 cK) from⟨(HCE.out j i _ hi HL.out).1,(HCE.out j i _ hi HL.out).2,HK.out⟩)
    refine Reg.any_begin (fun w'=>w'.cell? ⟨LB,j*2,none⟩=some (.string ⟨i.p.1.toArray⟩)∧w'.cell? ⟨LB,j*2+1,none⟩=some (.string ⟨i.p.2.toArray⟩)∧Blk w' PK 47 cK) 7 rfl (by kernel_rfl) HSS.out ?_
    refine Reg.tk 0 (v:=?vxb1) rfl HSS.out (fun w' hS=>?hxb1) ?rxb1
    case hxb1=>go_simp<;>rfl
    simp only[Act.put,Reg.s0,Reg.s1,Reg.s2]
    refine Reg.tk 1 (v:=?vxb2) rfl HSS.out (fun w' hS=>?hxb2) ?rxb2
    case hxb2=>go_simp<;>rfl
    simp only[Act.put,Reg.s0,Reg.s1,Reg.s2]
    refine Reg.tk 2 (v:=?vxb3) rfl HSS.out (fun w' hS=>?hxb3) ?rxb3
    case hxb3=>go_simp<;>rfl
    simp only[Act.put,Reg.s0,Reg.s1,Reg.s2]
    refine Reg.tk 3 (v:=?vxb4) rfl HSS.out (fun w' hS=>?hxb4) ?rxb4
    case hxb4=>go_simp<;>rfl
    simp only[Act.put,Reg.s0,Reg.s1,Reg.s2]
    refine Reg.tk 4 (v:=?vxb5) rfl HSS.out (fun w' hS=>?hxb5) ?rxb5
    case hxb5=>have k0:=hS.1;have k1:=hS.2.1;go_simp<;>rfl
    simp only[Act.put,Reg.s0,Reg.s1,Reg.s2]
    refine Reg.tk 5 (v:=.agg cK) rfl HSS.out (fun w' hS=>?hxb6) ?rxb6
    case hxb6=>exact Wh.exec_load (.tmp 8) rfl rfl hS.2.2 Tryz.underlying47 rfl HKI.out
    simp only[Act.put,Reg.s0,Reg.s1,Reg.s2]
    refine Reg.both_all [6] (by kernel_rfl) (by simp) ?_
    intro j0 hj0
    obtain rfl:j0=6:=by simpa using hj0
    clear hj0
    right
    refine⟨_,_,_,_,_,_,45,#[.pointer (some ⟨q,0,none⟩),prV i.p,.agg cK],rfl,by rfl,by go_simp,?_⟩
    refine Calls.mono (sc_doc HC1.out HC2.out HC3.out HC4.out HC5.out HC6b.out HB.out.size hi HEK.out) ?_
    rintro e wd ⟨⟨nd,rfl⟩,dv2,hs2,c7,hb⟩
    replace HL:=Lib.hid (blk_same HL.out (c7 LB (.inl rfl)));replace HK:=Lib.hid (blk_same HK.out (c7 PK (.inr rfl)))
    replace HB:=Lib.hid (HB.out.trans hb)
    have HS:=Lib.hid hs2
    clear c7 hb hs2 HC1 HC2 HC3 HC4 HC5 HC6b
    replace HSS:=Lib.hid (show(wd.cell? ⟨LB,j*2,none⟩=some (.string ⟨i.p.1.toArray⟩)∧wd.cell? ⟨LB,j*2+1,none⟩=some (.string ⟨i.p.2.toArray⟩)∧Blk wd PK 47 cK) from⟨(HCE.out j i _ hi HL.out).1,(HCE.out j i _ hi HL.out).2,HK.out⟩)
    refine⟨_,rfl,HSS.out,?_⟩
    simp only[Act.put,Reg.s0,Reg.s1,Reg.s2]
    refine wpAnyH_done (by kernel_rfl) ?_ _
    clear HSS HCE
    go_wp2<;>skip
    go_roundw
    case rel=>exact⟨j+1,_,_,_,by omega,by go_num,HS.out.more (fun k hk=>.inl (.inl hk)),HL.out,HB.out⟩
    case measure=>simp [intOf];omega
   ·have q1:=Rg.eql_pr_no hne
    have HEK:=Lib.hid (show cK=key32 i.k by rw[hkey.2 hne];exact HEJ.out)
    clear hkey hne HEJ
    go_region_held3 (fun w'=>w'.cell? ⟨LB,j*2,none⟩=some (.string ⟨i.p.1.toArray⟩)∧w'.cell? ⟨LB,j*2+1,none⟩=some (.string ⟨i.p.2.toArray⟩)) (exact HCE.out j i _ hi HL.out) ((go_at_call 28;refine Calls.mono (TG.out _) ?_;rintro e wg ⟨rfl,hb⟩;clear TG;replace HS:=Lib.hid (HS.out.below hb);replace HL:=Lib.hid (HL.out.below hb);replace HK:=Lib.hid (HK.out.below hb);replace HB:=Lib.hid (HB.out.trans (hb.mono HB.out.size));clear hb))
    clear q1
    go_upto_region 15 with fail
    have hdr:Below wg.heap.size wg wg.drew:=below_drewN (Below.refl _ _) 1
    replace HS:=Lib.hid (HS.out.below hdr);replace HL:=Lib.hid (HL.out.below hdr);replace HK:=Lib.hid (HK.out.below hdr);replace HB:=Lib.hid (HB.out.trans (hdr.mono HB.out.size))
    clear hdr
    have HSS:=Lib.hid (show(wg.drew.cell? ⟨LB,j*2,none⟩=some (.string ⟨i.p.1.toArray⟩)∧wg.drew.cell? ⟨LB,j*2+1,none⟩=some (.string ⟨i.p.2.toArray⟩)∧Blk wg.drew PK 47 cK) from⟨(HCE.out j i _ hi HL.out).1,(HCE.out j i _ hi HL.out).2,HK.out⟩)
    refine Reg.any_begin (fun w'=>w'.cell? ⟨LB,j*2,none⟩=some (.string ⟨i.p.1.toArray⟩)∧w'.cell? ⟨LB,j*2+1,none⟩=some (.string ⟨i.p.2.toArray⟩)∧Blk w' PK 47 cK) 12 rfl (by kernel_rfl) HSS.out ?_
    refine Reg.tk 0 (v:=?vya1) rfl HSS.out (fun w' hS=>?hya1) ?rya1
    case hya1=>go_simp<;>rfl
    simp only[Act.put,Reg.s0,Reg.s1,Reg.s2]
    refine Reg.tk 1 (v:=?vya2) rfl HSS.out (fun w' hS=>?hya2) ?rya2
    case hya2=>go_simp<;>rfl
    simp only[Act.put,Reg.s0,Reg.s1,Reg.s2]
    refine Reg.tk 2 (v:=?vya3) rfl HSS.out (fun w' hS=>?hya3) ?rya3
    case hya3=>go_simp<;>rfl
    simp only[Act.put,Reg.s0,Reg.s1,Reg.s2]
    refine Reg.tk 3 (v:=?vya4) rfl HSS.out (fun w' hS=>?hya4) ?rya4
    case hya4=>go_simp<;>rfl
    simp only[Act.put,Reg.s0,Reg.s1,Reg.s2]
    refine Reg.tk 4 (v:=?vya5) rfl HSS.out (fun w' hS=>?hya5) ?rya5
    case hya5=>have k0:=hS.1;have k1:=hS.2.1;go_simp<;>rfl
    simp only[Act.put,Reg.s0,Reg.s1,Reg.s2]
    refine Reg.tk 5 (v:=.agg cK) rfl HSS.out (fun w' hS=>?hya6) ?rya6
    case hya6=>exact Wh.exec_load (.tmp 8) rfl rfl hS.2.2 Tryz.underlying47 rfl HKI.out
    simp only[Act.put,Reg.s0,Reg.s1,Reg.s2]
    refine Reg.both_all [6] (by kernel_rfl) (by simp) ?_
    intro j0 hj0
    obtain rfl:j0=6:=by simpa using hj0
    clear hj0
    right
    refine⟨_,_,_,_,_,_,44,#[.pointer (some ⟨r,0,none⟩),prV i.p,.agg cK],rfl,by rfl,by go_simp,?_⟩
    refine Calls.mono (sc_code HS.out HB.out.size hi HEK.out) ?_
    rintro e wc ⟨⟨nn,rfl⟩,v2,es2,c1,c2,c3,c4,c5,c6,c7,hb⟩
    replace HL:=Lib.hid (blk_same HL.out (c7 LB (.inl rfl)));replace HK:=Lib.hid (blk_same HK.out (c7 PK (.inr rfl)))
    replace HB:=Lib.hid (HB.out.trans hb)
    have HC1:=Lib.hid c1;have HC2:=Lib.hid c2;have HC3:=Lib.hid c3;have HC4:=Lib.hid c4;have HC5:=Lib.hid c5;have HC6:=Lib.hid c6
    clear c1 c2 c3 c4 c5 c6 c7 hb HS
    replace HSS:=Lib.hid (show(wc.cell? ⟨LB,j*2,none⟩=some (.string ⟨i.p.1.toArray⟩)∧wc.cell? ⟨LB,j*2+1,none⟩=some (.string ⟨i.p.2.toArray⟩)∧Blk wc PK 47 cK) from⟨(HCE.out j i _ hi HL.out).1,(HCE.out j i _ hi HL.out).2,HK.out⟩)
    refine⟨_,rfl,HSS.out,?_⟩
    simp only[Act.put,Reg.s0,Reg.s1,Reg.s2]
    refine Reg.tk 7 (v:=?vya7) rfl HSS.out (fun w' hS=>?hya7) ?rya7
    case hya7=>go_simp<;>rfl
    simp only[Act.put,Reg.s0,Reg.s1,Reg.s2]
    refine Reg.tk 8 (v:=?vya8) rfl HSS.out (fun w' hS=>?hya8) ?rya8
    case hya8=>go_simp<;>rfl
    simp only[Act.put,Reg.s0,Reg.s1,Reg.s2]
    refine Reg.tk 9 (v:=?vya9) rfl HSS.out (fun w' hS=>?hya9) ?rya9
    case hya9=>go_simp<;>rfl
    simp only[Act.put,Reg.s0,Reg.s1,Reg.s2]
    refine Reg.tk 10 (v:=?vya10) rfl HSS.out (fun w' hS=>?hya10) ?rya10
    case hya10=>go_simp<;>rfl
    simp only[Act.put,Reg.s0,Reg.s1,Reg.s2]
    refine Reg.tk 11 (v:=?vya11) rfl HSS.out (fun w' hS=>?hya11) ?rya11
    case hya11=>go_simp<;>rfl
    simp only[Act.put,Reg.s0,Reg.s1,Reg.s2]
    refine wpAnyH_done (by kernel_rfl) ?_ _
    clear HSS
    go_upto_region 16 with fail
    have hdr:Below wc.heap.size wc wc.drew:=below_drewN (Below.refl _ _) 1
    have HC6b:=Lib.hid (fun k hk=>(⟨Nat.lt_of_lt_of_le (HC6.out k hk).1 hdr.size,(HC6.out k hk).2⟩:k<wc.drew.heap.size∧_))
    replace HC1:=Lib.hid (HC1.out.below hdr);replace HC2:=Lib.hid (HC2.out.below hdr);replace HL:=Lib.hid (HL.out.below hdr);replace HK:=Lib.hid (HK.out.below hdr);replace HB:=Lib.hid (HB.out.trans (hdr.mono HB.out.size))
    clear hdr HC6
    have HSS:=Lib.hid (show(wc.drew.cell? ⟨LB,j*2,none⟩=some (.string ⟨i.p.1.toArray⟩)∧wc.drew.cell? ⟨LB,j*2+1,none⟩=some (.string ⟨i.p.2.toArray⟩)∧Blk wc.drew PK 47 cK) from⟨(HCE.out j i _ hi HL.out).1,(HCE.out j i _ hi HL.out).2,HK.out⟩)
    refine Reg.any_begin (fun w'=>w'.cell? ⟨LB,j*2,none⟩=some (.string ⟨i.p.1.toArray⟩)∧w'.cell? ⟨LB,j*2+1,none⟩=some (.string ⟨i.p.2.toArray⟩)∧Blk w' PK 47 cK) 7 rfl (by kernel_rfl) HSS.out ?_
    refine Reg.tk 0 (v:=?vyb1) rfl HSS.out (fun w' hS=>?hyb1) ?ryb1
    case hyb1=>go_simp<;>rfl
    simp only[Act.put,Reg.s0,Reg.s1,Reg.s2]
    refine Reg.tk 1 (v:=?vyb2) rfl HSS.out (fun w' hS=>?hyb2) ?ryb2
    case hyb2=>go_simp<;>rfl
    simp only[Act.put,Reg.s0,Reg.s1,Reg.s2]
    refine Reg.tk 2 (v:=?vyb3) rfl HSS.out (fun w' hS=>?hyb3) ?ryb3
    case hyb3=>go_simp<;>rfl
    simp only[Act.put,Reg.s0,Reg.s1,Reg.s2]
    refine Reg.tk 3 (v:=?vyb4) rfl HSS.out (fun w' hS=>?hyb4) ?ryb4
    case hyb4=>go_simp<;>rfl
    simp only[Act.put,Reg.s0,Reg.s1,Reg.s2]
    refine Reg.tk 4 (v:=?vyb5) rfl HSS.out (fun w' hS=>?hyb5) ?ryb5
    case hyb5=>have k0:=hS.1;have k1:=hS.2.1;go_simp<;>rfl
    simp only[Act.put,Reg.s0,Reg.s1,Reg.s2]
    refine Reg.tk 5 (v:=.agg cK) rfl HSS.out (fun w' hS=>?hyb6) ?ryb6
    case hyb6=>exact Wh.exec_load (.tmp 8) rfl rfl hS.2.2 Tryz.underlying47 rfl HKI.out
    simp only[Act.put,Reg.s0,Reg.s1,Reg.s2]
    refine Reg.both_all [6] (by kernel_rfl) (by simp) ?_
    intro j0 hj0
    obtain rfl:j0=6:=by simpa using hj0
    clear hj0
    right
    refine⟨_,_,_,_,_,_,45,#[.pointer (some ⟨q,0,none⟩),prV i.p,.agg cK],rfl,by rfl,by go_simp,?_⟩
    refine Calls.mono (sc_doc HC1.out HC2.out HC3.out HC4.out HC5.out HC6b.out HB.out.size hi HEK.out) ?_
    rintro e wd ⟨⟨nd,rfl⟩,dv2,hs2,c7,hb⟩
    replace HL:=Lib.hid (blk_same HL.out (c7 LB (.inl rfl)));replace HK:=Lib.hid (blk_same HK.out (c7 PK (.inr rfl)))
    replace HB:=Lib.hid (HB.out.trans hb)
    have HS:=Lib.hid hs2
    clear c7 hb hs2 HC1 HC2 HC3 HC4 HC5 HC6b
    replace HSS:=Lib.hid (show(wd.cell? ⟨LB,j*2,none⟩=some (.string ⟨i.p.1.toArray⟩)∧wd.cell? ⟨LB,j*2+1,none⟩=some (.string ⟨i.p.2.toArray⟩)∧Blk wd PK 47 cK) from⟨(HCE.out j i _ hi HL.out).1,(HCE.out j i _ hi HL.out).2,HK.out⟩)
    refine⟨_,rfl,HSS.out,?_⟩
    simp only[Act.put,Reg.s0,Reg.s1,Reg.s2]
    refine wpAnyH_done (by kernel_rfl) ?_ _
    clear HSS HCE
    go_wp2<;>skip
    go_roundw
    case rel=>exact⟨j+1,_,_,_,by omega,by go_num,HS.out.more (fun k hk=>.inl (.inl hk)),HL.out,HB.out⟩
    case measure=>simp [intOf];omega
  ·have hje:j=5:=by omega
   subst hje
   clear hlt hj HCE HL HLB
   have TR:=Lib.hid (fun(w1:World)=>l_tree w1)
   have TR2:=Lib.hid (fun(w1:World)=>l_tree w1)
   have N1:=Lib.hid (fun(w1:World) (v1 v2:Value) (K:Nat→Prop) (hK:∀b,K b→b<w1.heap.size) (ht:TpK K w1 v1 v2 (.slice none 0 0) tT) (hr:Ring w1 w.heap.size r v es) (hB:w.heap.size≤w1.heap.size)=>new_a (R:=rA) tT_sm rfl tT_kt tT_is (by decide) (ht.r.slv hK) (ht.k.slp hK) (by decide) hr hB)
   have N2:=Lib.hid (fun(w1:World) (v1 v2:Value) (lo:Nat) (ht:TpK (fun b=>lo≤b∧b<w1.heap.size) w1 v1 v2 (.slice none 0 0) tT) (hlo:w.heap.size≤lo) (hr:DRing w1 w.heap.size q dv ((itX false).take 5)) (hB:w.heap.size≤w1.heap.size)=>dnew_a (R:=rA) tT_sm tT_is (by decide) ht hlo (Nat.le_refl _) hr hB)
   obtain⟨W0,eW0⟩:∃z,z=wr:=⟨_,rfl⟩
   go_upto_region 21 with(first
    |(go_at_call 38;refine Calls.mono (TR.out _) ?_;rintro e t1 ⟨a1,a2,rfl,ht,hb⟩;have HT1:=Lib.hid ht;have HB1:=Lib.hid hb;clear ht hb TR)
    |(go_at_call 37;refine Calls.mono (N1.out _ _ _ _ (fun b x=>x.2) HT1.out (HS.out.c.below HB1.out) (Nat.le_trans HB.out.size HB1.out.size)) ?_;rintro e t2 ⟨k,lo,hi,u1,u2,rfl,hk1,hk2,hkd,hb⟩;have HKD:=Lib.hid hkd;have HB2:=Lib.hid hb;have HK1:=Lib.hid hk1;have HK2:=Lib.hid hk2;clear N1 HT1 hkd hb hk1 hk2)
    |(go_at_call 38;refine Calls.mono (TR2.out _) ?_;rintro e t3 ⟨a3,a4,rfl,ht,hb⟩;have HT3:=Lib.hid ht;have HB3:=Lib.hid hb;clear ht hb TR2)
    |(go_at_call 46;refine Calls.mono (N2.out _ _ _ _ HT3.out (Nat.le_trans HB.out.size (Nat.le_trans HB1.out.size HB2.out.size)) (HS.out.d.below (HB1.out.trans ((HB2.out.trans (HB3.out.mono HB2.out.size)).mono HB1.out.size))) (Nat.le_trans HB.out.size (Nat.le_trans HB1.out.size (Nat.le_trans HB2.out.size HB3.out.size)))) ?_;rintro e t4 ⟨x,rfl,hx,hdk,hb⟩;have HX:=Lib.hid hx;have HDK:=Lib.hid hdk;have HB4:=Lib.hid hb;clear N2 HT3 hx hdk hb)
    |fail)
   go_wp2
   go_ret
   have hb4:=HB.out.trans ((HB1.out.trans ((HB2.out.trans ((HB3.out.trans (HB4.out.mono HB3.out.size)).mono HB2.out.size)).mono HB1.out.size)).mono HB.out.size)
   exact⟨_,⟨k,r,lo,hi,rA,tT,v,u1,u2,.slice none 0 0⟩,es,⟨x,q,t2.heap.size,t3.heap.size,rA,tT,dv,a3,a4,.slice none 0 0⟩,rfl,scn_mk (a:=false) (Nat.le_refl _) HS.out HB1.out HK1.out HK2.out HKD.out HB2.out HB3.out HX.out rfl HDK.out HB4.out hb4 rfl rfl rfl rfl⟩
set_option maxRecDepth 100000 in
set_option maxHeartbeats 6400000 in
theorem begin_t (w:World):Calls Tryz.prog 16 #[.bool true] w fun e w'=>∃g p es d,e = .returned (.pointer (some ⟨g,0,none⟩))∧Scn true w w' g p es d:=by
 have C1:=Lib.hid (fun(w1:World)=>ring_new w1.heap.size w1 (Nat.le_refl _))
 have T1:=Lib.hid (fun(w1:World)=>l_tgt rA rA (by decide) w1)
 have T2:=Lib.hid (fun(w1:World)=>l_tgt rA rE (by decide) w1)
 have T3:=Lib.hid (fun(w1:World)=>l_tgt rE rA (by decide) w1)
 have T4:=Lib.hid (fun(w1:World)=>l_client w1)
 have T5:=Lib.hid (fun(w1:World)=>l_service w1)
 have U1:=Lib.hid (fun(w1:World)=>l_tgt rE rE (by decide) w1)
 have U2:=Lib.hid (fun(w1:World)=>l_tgt rA rE (by decide) w1)
 have U3:=Lib.hid (fun(w1:World)=>l_tgt rE rB (by decide) w1)
 go_enter Tryz.func16,Tryz.ntmps16
 go_upto_region 2 with(first
  |(go_at_call 39;refine Calls.mono (C1.out _) ?_;rintro e w1 ⟨r,rfl,hr1,hr2,hb⟩;clear C1;have HR:=Lib.hid hr2;have HB:=Lib.hid hb;clear hr2 hb)
  |fail)
 obtain⟨W2,eW2⟩:∃z,z=w1.alloc (.cells #[.slice none 0 0] 115):=⟨_,rfl⟩
 have hb:Below w1.heap.size w1 W2:=eW2▸(Below.refl _ _).alloc (Nat.le_refl _) _
 have hw1:=HB.out.size
 have HS:=Lib.hid (show Sc true W2 w.heap.size r (.slice none 0 0) [] w1.heap.size (.slice none 0 0) 0 (fun _=>False) from⟨HR.out.below hb,dring_nil (eW2▸Blk.new w1 _ _) hw1,rfl,(fun j e he=>by simp at he),(fun k hk x=>by
  rcases hk with hk | hk
  ·have:=HR.out.own_lt x;omega
  ·simp [Value.ownBlock] at hk),fun k hk=>hk.elim⟩)
 replace HB:=Lib.hid (HB.out.trans (hb.mono hw1))
 rw[←eW2]
 clear eW2 hb hw1 HR hr1
 obtain⟨q,eq⟩:∃z,z=w1.heap.size:=⟨_,rfl⟩
 rw[←eq] at HS⊢
 clear eq
 go_upto_region 7 with(first
  |(go_at_call 28;refine Calls.mono (T1.out _) ?_;rintro e xT1 ⟨rfl,hb⟩;clear T1;replace HS:=Lib.hid (HS.out.below hb);replace HB:=Lib.hid (HB.out.trans (hb.mono HB.out.size));clear hb)
  |(go_at_call 28;refine Calls.mono (T2.out _) ?_;rintro e xT2 ⟨rfl,hb⟩;clear T2;replace HS:=Lib.hid (HS.out.below hb);replace HB:=Lib.hid (HB.out.trans (hb.mono HB.out.size));clear hb)
  |(go_at_call 28;refine Calls.mono (T3.out _) ?_;rintro e xT3 ⟨rfl,hb⟩;clear T3;replace HS:=Lib.hid (HS.out.below hb);replace HB:=Lib.hid (HB.out.trans (hb.mono HB.out.size));clear hb)
  |(go_at_call 27;refine Calls.mono (T4.out _) ?_;rintro e xT4 ⟨rfl,hb⟩;clear T4;replace HS:=Lib.hid (HS.out.below hb);replace HB:=Lib.hid (HB.out.trans (hb.mono HB.out.size));clear hb)
  |(go_at_call 34;refine Calls.mono (T5.out _) ?_;rintro e xT5 ⟨rfl,hb⟩;clear T5;replace HS:=Lib.hid (HS.out.below hb);replace HB:=Lib.hid (HB.out.trans (hb.mono HB.out.size));clear hb)
  |fail)
 obtain⟨Wx,eWx⟩:∃z,z=xT5.alloc (.cells #[.string ⟨(kr rA rA).1.toArray⟩,.string ⟨(kr rA rA).2.toArray⟩,.string ⟨(kr rA rE).1.toArray⟩,.string ⟨(kr rA rE).2.toArray⟩,.string ⟨(kr rE rA).1.toArray⟩,.string ⟨(kr rE rA).2.toArray⟩,.string ⟨(pAnn).1.toArray⟩,.string ⟨(pAnn).2.toArray⟩,.string ⟨(pMail).1.toArray⟩,.string ⟨(pMail).2.toArray⟩] 27):=⟨_,rfl⟩
 have hb:Below xT5.heap.size xT5 Wx:=eWx▸(Below.refl _ _).alloc (Nat.le_refl _) _
 replace HS:=Lib.hid (HS.out.below hb);replace HB:=Lib.hid (HB.out.trans (hb.mono HB.out.size))
 rw[←eWx]
 clear eWx hb
 go_upto_region 9 with(first
  |(go_at_call 28;refine Calls.mono (U1.out _) ?_;rintro e xU1 ⟨rfl,hb⟩;clear U1;replace HS:=Lib.hid (HS.out.below hb);replace HB:=Lib.hid (HB.out.trans (hb.mono HB.out.size));clear hb)
  |(go_at_call 28;refine Calls.mono (U2.out _) ?_;rintro e xU2 ⟨rfl,hb⟩;clear U2;replace HS:=Lib.hid (HS.out.below hb);replace HB:=Lib.hid (HB.out.trans (hb.mono HB.out.size));clear hb)
  |(go_at_call 28;refine Calls.mono (U3.out _) ?_;rintro e xU3 ⟨rfl,hb⟩;clear U3;replace HS:=Lib.hid (HS.out.below hb);replace HB:=Lib.hid (HB.out.trans (hb.mono HB.out.size));clear hb)
  |fail)
 obtain⟨W3,eW3⟩:∃z,z=xU3.alloc (.cells #[.string ⟨(kr rE rE).1.toArray⟩,.string ⟨(kr rE rE).2.toArray⟩,.string ⟨(kr rA rE).1.toArray⟩,.string ⟨(kr rA rE).2.toArray⟩,.string ⟨(kr rE rB).1.toArray⟩,.string ⟨(kr rE rB).2.toArray⟩,.string ⟨#[69,68,85]⟩,.string ⟨#[119,101,98]⟩] 27):=⟨_,rfl⟩
 have hb:Below xU3.heap.size xU3 W3:=eW3▸(Below.refl _ _).alloc (Nat.le_refl _) _
 have HL:=Lib.hid (show Blk W3 xU3.heap.size 27 #[.string ⟨(kr rE rE).1.toArray⟩,.string ⟨(kr rE rE).2.toArray⟩,.string ⟨(kr rA rE).1.toArray⟩,.string ⟨(kr rA rE).2.toArray⟩,.string ⟨(kr rE rB).1.toArray⟩,.string ⟨(kr rE rB).2.toArray⟩,.string ⟨#[69,68,85]⟩,.string ⟨#[119,101,98]⟩] from eW3▸Blk.new xU3 _ _)
 have HLB:=Lib.hid HB.out.size
 obtain⟨LB,eLB⟩:∃z,z=xU3.heap.size:=⟨_,rfl⟩
 have HS2:=Lib.hid (((HS.out.below hb).more (G2:=fun k=>k=LB) (fun k hk=>.inr ⟨by rw[hk,eLB];exact HL.out.lt,fun x=>by have:=HS.out.c.own_lt x;omega,fun x=>by have:=HS.out.d.own_lt x;omega⟩)))
 replace HB:=Lib.hid (HB.out.trans (hb.mono HB.out.size))
 rw[←eW3]
 rw[←eLB] at HL HLB⊢
 clear eW3 hb eLB HS
 have HBL:=Lib.hid (show Below w.heap.size w W3 from HB.out)
 have HCE:=Lib.hid (show ∀(j:Nat) (i:It) (w1:World),(itX true)[j]? = some i→Blk w1 LB 27 #[.string ⟨(kr rE rE).1.toArray⟩,.string ⟨(kr rE rE).2.toArray⟩,.string ⟨(kr rA rE).1.toArray⟩,.string ⟨(kr rA rE).2.toArray⟩,.string ⟨(kr rE rB).1.toArray⟩,.string ⟨(kr rE rB).2.toArray⟩,.string ⟨#[69,68,85]⟩,.string ⟨#[119,101,98]⟩]→w1.cell? ⟨LB,j*2,none⟩=some (.string ⟨i.p.1.toArray⟩)∧w1.cell? ⟨LB,j*2+1,none⟩=some (.string ⟨i.p.2.toArray⟩) by
  intro j i w1 hi h1
  match j,hi with
  |0,hi=>injection hi with hi;subst hi;exact⟨h1.cell 0,h1.cell 1⟩
  |1,hi=>injection hi with hi;subst hi;exact⟨h1.cell 2,h1.cell 3⟩
  |2,hi=>injection hi with hi;subst hi;exact⟨h1.cell 4,h1.cell 5⟩
  |3,hi=>injection hi with hi;subst hi;exact⟨h1.cell 6,h1.cell 7⟩
  |j+4,hi=>simp [itX,itE] at hi)
 obtain⟨cL,ecL⟩:∃z:Array Value,z=#[.string ⟨(kr rE rE).1.toArray⟩,.string ⟨(kr rE rE).2.toArray⟩,.string ⟨(kr rA rE).1.toArray⟩,.string ⟨(kr rA rE).2.toArray⟩,.string ⟨(kr rE rB).1.toArray⟩,.string ⟨(kr rE rB).2.toArray⟩,.string ⟨#[69,68,85]⟩,.string ⟨#[119,101,98]⟩]:=⟨_,rfl⟩
 rw[←ecL] at HL
 simp only[←ecL] at HCE
 clear ecL
 go_wp2
 go_loopw [7] (fun iv wr=>∃(j:Nat) (v dv:Value) (es:List Ent),j≤4∧iv = .int .i64 (j:Int)∧Sc true wr w.heap.size r v es q dv j (fun k=>k=LB)∧Blk wr LB 27 cL∧Below w.heap.size w wr) (fun iv _=>4 - (intOf iv).toNat)
 case atStart=>exact⟨0,_,_,_,Nat.zero_le _,rfl,HS2.out,HL.out,HB.out⟩
 case round=>
  obtain⟨j,v,dv,es,hj,rfl,hs,hl,hb⟩:=hrel
  have HS:=Lib.hid hs
  replace HL:=Lib.hid hl;replace HB:=Lib.hid hb
  clear hs hl hb HS2 HBL
  by_cases hlt:j<4
  ·have e1:(j:Int)<4:=by omega
   have e2:(0:Int)≤(j:Int):=by omega
   obtain⟨i,hi⟩:∃i,(itX true)[j]? = some i:=⟨_,List.getElem?_eq_getElem (show j<itE.length from hlt)⟩
   have e3:=scn_wrap (show j<5 by omega)
   have hkey:=scn_key _ hi
   have CK:=Lib.hid (fun w1=>l_key (UInt8.ofNat (10+j)) w1)
   have TG:=Lib.hid (fun(w1:World)=>l_tgt rA rE (by decide) w1)
   obtain⟨cK,ecK⟩:∃z,z=key32 (kq (UInt8.ofNat (10+j))):=⟨_,rfl⟩
   rw[←ecK] at CK
   have HKS:=Lib.hid (show cK.size=32 by rw[ecK];exact key32_size _)
   have HKO:=Lib.hid (show cK.all (·.oneCell')=true by rw[ecK,←bvs_kb];exact one_list (bvs_one _))
   have HKI:=Lib.hid (show(Tryz.prog.info? 47).map (·.size)=some cK.size by rw[ecK];exact info32 _)
   have HEJ:=Lib.hid ecK
   obtain⟨nK,enK⟩:∃z,z=((UInt8.ofNat (10+j)).toNat:Int):=⟨_,rfl⟩
   rw[←enK] at CK e3
   clear ecK enK
   go_upto_region 13 with(first
    |(go_at_call 18;refine Calls.mono (CK.out _) ?_;rintro e wk ⟨rfl,hb⟩;clear CK;replace HS:=Lib.hid (HS.out.below hb);replace HL:=Lib.hid (HL.out.below hb);replace HB:=Lib.hid (HB.out.trans (hb.mono HB.out.size));clear hb)
    |(refine Wh.store_new (by rfl) 47 (.tmp 8) (.tmp 41) (by rfl) 47 rfl cK (by rfl) (by rfl) (by rw[HKS.out];rfl) HKI.out HKO.out ?_;rintro V hV hb;have HK:=Lib.hid hV;have HPK:=Lib.hid (show LB<wk.heap.size from HL.out.lt);have HG:=Lib.hid (show ∀k,(k=LB∨k=wk.heap.size)→k=LB∨(k<V.heap.size∧¬RO r v es k∧¬DO q dv k) from(fun k hk=>hk.elim .inl (fun e=>.inr ⟨by rw[e];exact hV.lt,fun x=>by have:=HS.out.c.own_lt x;omega,fun x=>by have:=HS.out.d.own_lt x;omega⟩)));replace HS:=Lib.hid (HS.out.below hb);replace HL:=Lib.hid (HL.out.below hb);replace HB:=Lib.hid (HB.out.trans (hb.mono HB.out.size));clear hb hV)
    |fail)
   obtain⟨PK,ePK⟩:∃z,z=wk.heap.size:=⟨_,rfl⟩
   rw[←ePK] at HK HPK HG⊢
   clear ePK
   replace HS:=Lib.hid (HS.out.more HG.out)
   clear HG
   have hdr:Below V.heap.size V V.drew:=below_drewN (Below.refl _ _) 1
   replace HS:=Lib.hid (HS.out.below hdr);replace HL:=Lib.hid (HL.out.below hdr);replace HK:=Lib.hid (HK.out.below hdr);replace HB:=Lib.hid (HB.out.trans (hdr.mono HB.out.size))
   clear hdr
   by_cases hne:i.p=kr rA rE
   ·have q1:=Rg.eql_pr_yes hne
    have HEK:=Lib.hid (hkey.1 hne)
    clear hkey hne HEJ
    obtain⟨c9,ec9⟩:∃z,z=key32 i.k:=⟨_,rfl⟩
    have C9:=Lib.hid (show ∀w1:World,Calls Tryz.prog 18 #[.int .u8 99] w1 fun e w'=>e = .returned (.agg c9)∧Below w1.heap.size w1 w' by intro w1;rw[ec9,HEK.out];exact l_key 99 w1)
    have H9S:=Lib.hid (show cK.size=c9.size by rw[HKS.out,ec9];exact(key32_size _).symm)
    have H9O:=Lib.hid (show c9.all (·.oneCell')=true by rw[ec9,HEK.out,←bvs_kb];exact one_list (bvs_one _))
    have H9I:=Lib.hid (show(Tryz.prog.info? 47).map (·.size)=some c9.size by rw[ec9];exact info32 _)
    clear HEK
    have HEK:=Lib.hid ec9
    clear ec9
    go_region_held3 (fun w'=>w'.cell? ⟨LB,j*2,none⟩=some (.string ⟨i.p.1.toArray⟩)∧w'.cell? ⟨LB,j*2+1,none⟩=some (.string ⟨i.p.2.toArray⟩)) (exact HCE.out j i _ hi HL.out) ((go_at_call 28;refine Calls.mono (TG.out _) ?_;rintro e wg ⟨rfl,hb⟩;clear TG;replace HS:=Lib.hid (HS.out.below hb);replace HL:=Lib.hid (HL.out.below hb);replace HK:=Lib.hid (HK.out.below hb);replace HB:=Lib.hid (HB.out.trans (hb.mono HB.out.size));clear hb))
    clear q1
    go_upto_region 15 with(first
     |(go_at_call 18;refine Calls.mono (C9.out _) ?_;rintro e w9 ⟨rfl,hb⟩;clear C9;replace HS:=Lib.hid (HS.out.below hb);replace HL:=Lib.hid (HL.out.below hb);replace HK:=Lib.hid (HK.out.below hb);replace HB:=Lib.hid (HB.out.trans (hb.mono HB.out.size));clear hb)
     |(refine Wh.store_over (by rfl) 47 (.tmp 8) (.tmp 48) (by rfl) PK 47 _ HK.out c9 (by rfl) (by rfl) H9S.out H9I.out H9O.out ?_;rintro V9 hV hg;replace HS:=Lib.hid (HS.out.put (.inr rfl) hg);replace HL:=Lib.hid (HL.out.grown hg (fun e=>by injection e with e;have:=HPK.out;omega));replace HB:=Lib.hid (HB.out.grown hg HB.out.size (fun k hk=>by injection hk with hk;have:=HPK.out;have:=HLB.out;omega));replace HK:=Lib.hid hV;clear hV hg)
     |fail)
    clear HKS HKO HKI H9S
    obtain⟨cK,ecK⟩:∃z,z=c9:=⟨_,rfl⟩
    rw[←ecK] at HK HEK H9O H9I
    have HKO:=H9O
    have HKI:=H9I
    clear H9O H9I
    clear ecK
    have hdr:Below V9.heap.size V9 V9.drew:=below_drewN (Below.refl _ _) 1
    replace HS:=Lib.hid (HS.out.below hdr);replace HL:=Lib.hid (HL.out.below hdr);replace HK:=Lib.hid (HK.out.below hdr);replace HB:=Lib.hid (HB.out.trans (hdr.mono HB.out.size))
    clear hdr
    have HSS:=Lib.hid (show(V9.drew.cell? ⟨LB,j*2,none⟩=some (.string ⟨i.p.1.toArray⟩)∧V9.drew.cell? ⟨LB,j*2+1,none⟩=some (.string ⟨i.p.2.toArray⟩)∧Blk V9.drew PK 47 cK) from⟨(HCE.out j i _ hi HL.out).1,(HCE.out j i _ hi HL.out).2,HK.out⟩)
    refine Reg.any_begin (fun w'=>w'.cell? ⟨LB,j*2,none⟩=some (.string ⟨i.p.1.toArray⟩)∧w'.cell? ⟨LB,j*2+1,none⟩=some (.string ⟨i.p.2.toArray⟩)∧Blk w' PK 47 cK) 12 rfl (by kernel_rfl) HSS.out ?_
    refine Reg.tk 0 (v:=?vxa1) rfl HSS.out (fun w' hS=>?hxa1) ?rxa1
    case hxa1=>go_simp<;>rfl
    simp only[Act.put,Reg.s0,Reg.s1,Reg.s2]
    refine Reg.tk 1 (v:=?vxa2) rfl HSS.out (fun w' hS=>?hxa2) ?rxa2
    case hxa2=>go_simp<;>rfl
    simp only[Act.put,Reg.s0,Reg.s1,Reg.s2]
    refine Reg.tk 2 (v:=?vxa3) rfl HSS.out (fun w' hS=>?hxa3) ?rxa3
    case hxa3=>go_simp<;>rfl
    simp only[Act.put,Reg.s0,Reg.s1,Reg.s2]
    refine Reg.tk 3 (v:=?vxa4) rfl HSS.out (fun w' hS=>?hxa4) ?rxa4
    case hxa4=>go_simp<;>rfl
    simp only[Act.put,Reg.s0,Reg.s1,Reg.s2]
    refine Reg.tk 4 (v:=?vxa5) rfl HSS.out (fun w' hS=>?hxa5) ?rxa5
    case hxa5=>have k0:=hS.1;have k1:=hS.2.1;go_simp<;>rfl
    simp only[Act.put,Reg.s0,Reg.s1,Reg.s2]
    refine Reg.tk 5 (v:=.agg cK) rfl HSS.out (fun w' hS=>?hxa6) ?rxa6
    case hxa6=>exact Wh.exec_load (.tmp 8) rfl rfl hS.2.2 Tryz.underlying47 rfl HKI.out
    simp only[Act.put,Reg.s0,Reg.s1,Reg.s2]
    refine Reg.both_all [6] (by kernel_rfl) (by simp) ?_
    intro j0 hj0
    obtain rfl:j0=6:=by simpa using hj0
    clear hj0
    right
    refine⟨_,_,_,_,_,_,44,#[.pointer (some ⟨r,0,none⟩),prV i.p,.agg cK],rfl,by rfl,by go_simp,?_⟩
    refine Calls.mono (sc_code HS.out HB.out.size hi HEK.out) ?_
    rintro e wc ⟨⟨nn,rfl⟩,v2,es2,c1,c2,c3,c4,c5,c6,c7,hb⟩
    replace HL:=Lib.hid (blk_same HL.out (c7 LB (.inl rfl)));replace HK:=Lib.hid (blk_same HK.out (c7 PK (.inr rfl)))
    replace HB:=Lib.hid (HB.out.trans hb)
    have HC1:=Lib.hid c1;have HC2:=Lib.hid c2;have HC3:=Lib.hid c3;have HC4:=Lib.hid c4;have HC5:=Lib.hid c5;have HC6:=Lib.hid c6
    clear c1 c2 c3 c4 c5 c6 c7 hb HS
    replace HSS:=Lib.hid (show(wc.cell? ⟨LB,j*2,none⟩=some (.string ⟨i.p.1.toArray⟩)∧wc.cell? ⟨LB,j*2+1,none⟩=some (.string ⟨i.p.2.toArray⟩)∧Blk wc PK 47 cK) from⟨(HCE.out j i _ hi HL.out).1,(HCE.out j i _ hi HL.out).2,HK.out⟩)
    refine⟨_,rfl,HSS.out,?_⟩
    simp only[Act.put,Reg.s0,Reg.s1,Reg.s2]
    refine Reg.tk 7 (v:=?vxa7) rfl HSS.out (fun w' hS=>?hxa7) ?rxa7
    case hxa7=>go_simp<;>rfl
    simp only[Act.put,Reg.s0,Reg.s1,Reg.s2]
    refine Reg.tk 8 (v:=?vxa8) rfl HSS.out (fun w' hS=>?hxa8) ?rxa8
    case hxa8=>go_simp<;>rfl
    simp only[Act.put,Reg.s0,Reg.s1,Reg.s2]
    refine Reg.tk 9 (v:=?vxa9) rfl HSS.out (fun w' hS=>?hxa9) ?rxa9
    case hxa9=>go_simp<;>rfl
    simp only[Act.put,Reg.s0,Reg.s1,Reg.s2]
    refine Reg.tk 10 (v:=?vxa10) rfl HSS.out (fun w' hS=>?hxa10) ?rxa10
    case hxa10=>go_simp<;>rfl
    simp only[Act.put,Reg.s0,Reg.s1,Reg.s2]
    refine Reg.tk 11 (v:=?vxa11) rfl HSS.out (fun w' hS=>?hxa11) ?rxa11
    case hxa11=>go_simp<;>rfl
    simp only[Act.put,Reg.s0,Reg.s1,Reg.s2]
    refine wpAnyH_done (by kernel_rfl) ?_ _
    clear HSS
    go_upto_region 16 with fail
    have hdr:Below wc.heap.size wc wc.drew:=below_drewN (Below.refl _ _) 1
    have HC6b:=Lib.hid (fun k hk=>(⟨Nat.lt_of_lt_of_le (HC6.out k hk).1 hdr.size,(HC6.out k hk).2⟩:k<wc.drew.heap.size∧_))
    replace HC1:=Lib.hid (HC1.out.below hdr);replace HC2:=Lib.hid (HC2.out.below hdr);replace HL:=Lib.hid (HL.out.below hdr);replace HK:=Lib.hid (HK.out.below hdr);replace HB:=Lib.hid (HB.out.trans (hdr.mono HB.out.size))
    clear hdr HC6
    have HSS:=Lib.hid (show(wc.drew.cell? ⟨LB,j*2,none⟩=some (.string ⟨i.p.1.toArray⟩)∧wc.drew.cell? ⟨LB,j*2+1,none⟩=some (.string ⟨i.p.2.toArray⟩)∧Blk wc.drew PK 47 cK) from⟨(HCE.out j i _ hi HL.out).1,(HCE.out j i _ hi HL.out).2,HK.out⟩)
    refine Reg.any_begin (fun w'=>w'.cell? ⟨LB,j*2,none⟩=some (.string ⟨i.p.1.toArray⟩)∧w'.cell? ⟨LB,j*2+1,none⟩=some (.string ⟨i.p.2.toArray⟩)∧Blk w' PK 47 cK) 7 rfl (by kernel_rfl) HSS.out ?_
    refine Reg.tk 0 (v:=?vxb1) rfl HSS.out (fun w' hS=>?hxb1) ?rxb1
    case hxb1=>go_simp<;>rfl
    simp only[Act.put,Reg.s0,Reg.s1,Reg.s2]
    refine Reg.tk 1 (v:=?vxb2) rfl HSS.out (fun w' hS=>?hxb2) ?rxb2
    case hxb2=>go_simp<;>rfl
    simp only[Act.put,Reg.s0,Reg.s1,Reg.s2]
    refine Reg.tk 2 (v:=?vxb3) rfl HSS.out (fun w' hS=>?hxb3) ?rxb3
    case hxb3=>go_simp<;>rfl
    simp only[Act.put,Reg.s0,Reg.s1,Reg.s2]
    refine Reg.tk 3 (v:=?vxb4) rfl HSS.out (fun w' hS=>?hxb4) ?rxb4
    case hxb4=>go_simp<;>rfl
    simp only[Act.put,Reg.s0,Reg.s1,Reg.s2]
    refine Reg.tk 4 (v:=?vxb5) rfl HSS.out (fun w' hS=>?hxb5) ?rxb5
    case hxb5=>have k0:=hS.1;have k1:=hS.2.1;go_simp<;>rfl
    simp only[Act.put,Reg.s0,Reg.s1,Reg.s2]
    refine Reg.tk 5 (v:=.agg cK) rfl HSS.out (fun w' hS=>?hxb6) ?rxb6
    case hxb6=>exact Wh.exec_load (.tmp 8) rfl rfl hS.2.2 Tryz.underlying47 rfl HKI.out
    simp only[Act.put,Reg.s0,Reg.s1,Reg.s2]
    refine Reg.both_all [6] (by kernel_rfl) (by simp) ?_
    intro j0 hj0
    obtain rfl:j0=6:=by simpa using hj0
    clear hj0
    right
    refine⟨_,_,_,_,_,_,45,#[.pointer (some ⟨q,0,none⟩),prV i.p,.agg cK],rfl,by rfl,by go_simp,?_⟩
    refine Calls.mono (sc_doc HC1.out HC2.out HC3.out HC4.out HC5.out HC6b.out HB.out.size hi HEK.out) ?_
    rintro e wd ⟨⟨nd,rfl⟩,dv2,hs2,c7,hb⟩
    replace HL:=Lib.hid (blk_same HL.out (c7 LB (.inl rfl)));replace HK:=Lib.hid (blk_same HK.out (c7 PK (.inr rfl)))
    replace HB:=Lib.hid (HB.out.trans hb)
    have HS:=Lib.hid hs2
    clear c7 hb hs2 HC1 HC2 HC3 HC4 HC5 HC6b
    replace HSS:=Lib.hid (show(wd.cell? ⟨LB,j*2,none⟩=some (.string ⟨i.p.1.toArray⟩)∧wd.cell? ⟨LB,j*2+1,none⟩=some (.string ⟨i.p.2.toArray⟩)∧Blk wd PK 47 cK) from⟨(HCE.out j i _ hi HL.out).1,(HCE.out j i _ hi HL.out).2,HK.out⟩)
    refine⟨_,rfl,HSS.out,?_⟩
    simp only[Act.put,Reg.s0,Reg.s1,Reg.s2]
    refine wpAnyH_done (by kernel_rfl) ?_ _
    clear HSS HCE
    go_wp2<;>skip
    go_roundw
    case rel=>exact⟨j+1,_,_,_,by omega,by go_num,HS.out.more (fun k hk=>.inl (.inl hk)),HL.out,HB.out⟩
    case measure=>simp [intOf];omega
   ·have q1:=Rg.eql_pr_no hne
    have HEK:=Lib.hid (show cK=key32 i.k by rw[hkey.2 hne];exact HEJ.out)
    clear hkey hne HEJ
    go_region_held3 (fun w'=>w'.cell? ⟨LB,j*2,none⟩=some (.string ⟨i.p.1.toArray⟩)∧w'.cell? ⟨LB,j*2+1,none⟩=some (.string ⟨i.p.2.toArray⟩)) (exact HCE.out j i _ hi HL.out) ((go_at_call 28;refine Calls.mono (TG.out _) ?_;rintro e wg ⟨rfl,hb⟩;clear TG;replace HS:=Lib.hid (HS.out.below hb);replace HL:=Lib.hid (HL.out.below hb);replace HK:=Lib.hid (HK.out.below hb);replace HB:=Lib.hid (HB.out.trans (hb.mono HB.out.size));clear hb))
    clear q1
    go_upto_region 15 with fail
    have hdr:Below wg.heap.size wg wg.drew:=below_drewN (Below.refl _ _) 1
    replace HS:=Lib.hid (HS.out.below hdr);replace HL:=Lib.hid (HL.out.below hdr);replace HK:=Lib.hid (HK.out.below hdr);replace HB:=Lib.hid (HB.out.trans (hdr.mono HB.out.size))
    clear hdr
    have HSS:=Lib.hid (show(wg.drew.cell? ⟨LB,j*2,none⟩=some (.string ⟨i.p.1.toArray⟩)∧wg.drew.cell? ⟨LB,j*2+1,none⟩=some (.string ⟨i.p.2.toArray⟩)∧Blk wg.drew PK 47 cK) from⟨(HCE.out j i _ hi HL.out).1,(HCE.out j i _ hi HL.out).2,HK.out⟩)
    refine Reg.any_begin (fun w'=>w'.cell? ⟨LB,j*2,none⟩=some (.string ⟨i.p.1.toArray⟩)∧w'.cell? ⟨LB,j*2+1,none⟩=some (.string ⟨i.p.2.toArray⟩)∧Blk w' PK 47 cK) 12 rfl (by kernel_rfl) HSS.out ?_
    refine Reg.tk 0 (v:=?vya1) rfl HSS.out (fun w' hS=>?hya1) ?rya1
    case hya1=>go_simp<;>rfl
    simp only[Act.put,Reg.s0,Reg.s1,Reg.s2]
    refine Reg.tk 1 (v:=?vya2) rfl HSS.out (fun w' hS=>?hya2) ?rya2
    case hya2=>go_simp<;>rfl
    simp only[Act.put,Reg.s0,Reg.s1,Reg.s2]
    refine Reg.tk 2 (v:=?vya3) rfl HSS.out (fun w' hS=>?hya3) ?rya3
    case hya3=>go_simp<;>rfl
    simp only[Act.put,Reg.s0,Reg.s1,Reg.s2]
    refine Reg.tk 3 (v:=?vya4) rfl HSS.out (fun w' hS=>?hya4) ?rya4
    case hya4=>go_simp<;>rfl
    simp only[Act.put,Reg.s0,Reg.s1,Reg.s2]
    refine Reg.tk 4 (v:=?vya5) rfl HSS.out (fun w' hS=>?hya5) ?rya5
    case hya5=>have k0:=hS.1;have k1:=hS.2.1;go_simp<;>rfl
    simp only[Act.put,Reg.s0,Reg.s1,Reg.s2]
    refine Reg.tk 5 (v:=.agg cK) rfl HSS.out (fun w' hS=>?hya6) ?rya6
    case hya6=>exact Wh.exec_load (.tmp 8) rfl rfl hS.2.2 Tryz.underlying47 rfl HKI.out
    simp only[Act.put,Reg.s0,Reg.s1,Reg.s2]
    refine Reg.both_all [6] (by kernel_rfl) (by simp) ?_
    intro j0 hj0
    obtain rfl:j0=6:=by simpa using hj0
    clear hj0
    right
    refine⟨_,_,_,_,_,_,44,#[.pointer (some ⟨r,0,none⟩),prV i.p,.agg cK],rfl,by rfl,by go_simp,?_⟩
    refine Calls.mono (sc_code HS.out HB.out.size hi HEK.out) ?_
    rintro e wc ⟨⟨nn,rfl⟩,v2,es2,c1,c2,c3,c4,c5,c6,c7,hb⟩
    replace HL:=Lib.hid (blk_same HL.out (c7 LB (.inl rfl)));replace HK:=Lib.hid (blk_same HK.out (c7 PK (.inr rfl)))
    replace HB:=Lib.hid (HB.out.trans hb)
    have HC1:=Lib.hid c1;have HC2:=Lib.hid c2;have HC3:=Lib.hid c3;have HC4:=Lib.hid c4;have HC5:=Lib.hid c5;have HC6:=Lib.hid c6
    clear c1 c2 c3 c4 c5 c6 c7 hb HS
    replace HSS:=Lib.hid (show(wc.cell? ⟨LB,j*2,none⟩=some (.string ⟨i.p.1.toArray⟩)∧wc.cell? ⟨LB,j*2+1,none⟩=some (.string ⟨i.p.2.toArray⟩)∧Blk wc PK 47 cK) from⟨(HCE.out j i _ hi HL.out).1,(HCE.out j i _ hi HL.out).2,HK.out⟩)
    refine⟨_,rfl,HSS.out,?_⟩
    simp only[Act.put,Reg.s0,Reg.s1,Reg.s2]
    refine Reg.tk 7 (v:=?vya7) rfl HSS.out (fun w' hS=>?hya7) ?rya7
    case hya7=>go_simp<;>rfl
    simp only[Act.put,Reg.s0,Reg.s1,Reg.s2]
    refine Reg.tk 8 (v:=?vya8) rfl HSS.out (fun w' hS=>?hya8) ?rya8
    case hya8=>go_simp<;>rfl
    simp only[Act.put,Reg.s0,Reg.s1,Reg.s2]
    refine Reg.tk 9 (v:=?vya9) rfl HSS.out (fun w' hS=>?hya9) ?rya9
    case hya9=>go_simp<;>rfl
    simp only[Act.put,Reg.s0,Reg.s1,Reg.s2]
    refine Reg.tk 10 (v:=?vya10) rfl HSS.out (fun w' hS=>?hya10) ?rya10
    case hya10=>go_simp<;>rfl
    simp only[Act.put,Reg.s0,Reg.s1,Reg.s2]
    refine Reg.tk 11 (v:=?vya11) rfl HSS.out (fun w' hS=>?hya11) ?rya11
    case hya11=>go_simp<;>rfl
    simp only[Act.put,Reg.s0,Reg.s1,Reg.s2]
    refine wpAnyH_done (by kernel_rfl) ?_ _
    clear HSS
    go_upto_region 16 with fail
    have hdr:Below wc.heap.size wc wc.drew:=below_drewN (Below.refl _ _) 1
    have HC6b:=Lib.hid (fun k hk=>(⟨Nat.lt_of_lt_of_le (HC6.out k hk).1 hdr.size,(HC6.out k hk).2⟩:k<wc.drew.heap.size∧_))
    replace HC1:=Lib.hid (HC1.out.below hdr);replace HC2:=Lib.hid (HC2.out.below hdr);replace HL:=Lib.hid (HL.out.below hdr);replace HK:=Lib.hid (HK.out.below hdr);replace HB:=Lib.hid (HB.out.trans (hdr.mono HB.out.size))
    clear hdr HC6
    have HSS:=Lib.hid (show(wc.drew.cell? ⟨LB,j*2,none⟩=some (.string ⟨i.p.1.toArray⟩)∧wc.drew.cell? ⟨LB,j*2+1,none⟩=some (.string ⟨i.p.2.toArray⟩)∧Blk wc.drew PK 47 cK) from⟨(HCE.out j i _ hi HL.out).1,(HCE.out j i _ hi HL.out).2,HK.out⟩)
    refine Reg.any_begin (fun w'=>w'.cell? ⟨LB,j*2,none⟩=some (.string ⟨i.p.1.toArray⟩)∧w'.cell? ⟨LB,j*2+1,none⟩=some (.string ⟨i.p.2.toArray⟩)∧Blk w' PK 47 cK) 7 rfl (by kernel_rfl) HSS.out ?_
    refine Reg.tk 0 (v:=?vyb1) rfl HSS.out (fun w' hS=>?hyb1) ?ryb1
    case hyb1=>go_simp<;>rfl
    simp only[Act.put,Reg.s0,Reg.s1,Reg.s2]
    refine Reg.tk 1 (v:=?vyb2) rfl HSS.out (fun w' hS=>?hyb2) ?ryb2
    case hyb2=>go_simp<;>rfl
    simp only[Act.put,Reg.s0,Reg.s1,Reg.s2]
    refine Reg.tk 2 (v:=?vyb3) rfl HSS.out (fun w' hS=>?hyb3) ?ryb3
    case hyb3=>go_simp<;>rfl
    simp only[Act.put,Reg.s0,Reg.s1,Reg.s2]
    refine Reg.tk 3 (v:=?vyb4) rfl HSS.out (fun w' hS=>?hyb4) ?ryb4
    case hyb4=>go_simp<;>rfl
    simp only[Act.put,Reg.s0,Reg.s1,Reg.s2]
    refine Reg.tk 4 (v:=?vyb5) rfl HSS.out (fun w' hS=>?hyb5) ?ryb5
    case hyb5=>have k0:=hS.1;have k1:=hS.2.1;go_simp<;>rfl
    simp only[Act.put,Reg.s0,Reg.s1,Reg.s2]
    refine Reg.tk 5 (v:=.agg cK) rfl HSS.out (fun w' hS=>?hyb6) ?ryb6
    case hyb6=>exact Wh.exec_load (.tmp 8) rfl rfl hS.2.2 Tryz.underlying47 rfl HKI.out
    simp only[Act.put,Reg.s0,Reg.s1,Reg.s2]
    refine Reg.both_all [6] (by kernel_rfl) (by simp) ?_
    intro j0 hj0
    obtain rfl:j0=6:=by simpa using hj0
    clear hj0
    right
    refine⟨_,_,_,_,_,_,45,#[.pointer (some ⟨q,0,none⟩),prV i.p,.agg cK],rfl,by rfl,by go_simp,?_⟩
    refine Calls.mono (sc_doc HC1.out HC2.out HC3.out HC4.out HC5.out HC6b.out HB.out.size hi HEK.out) ?_
    rintro e wd ⟨⟨nd,rfl⟩,dv2,hs2,c7,hb⟩
    replace HL:=Lib.hid (blk_same HL.out (c7 LB (.inl rfl)));replace HK:=Lib.hid (blk_same HK.out (c7 PK (.inr rfl)))
    replace HB:=Lib.hid (HB.out.trans hb)
    have HS:=Lib.hid hs2
    clear c7 hb hs2 HC1 HC2 HC3 HC4 HC5 HC6b
    replace HSS:=Lib.hid (show(wd.cell? ⟨LB,j*2,none⟩=some (.string ⟨i.p.1.toArray⟩)∧wd.cell? ⟨LB,j*2+1,none⟩=some (.string ⟨i.p.2.toArray⟩)∧Blk wd PK 47 cK) from⟨(HCE.out j i _ hi HL.out).1,(HCE.out j i _ hi HL.out).2,HK.out⟩)
    refine⟨_,rfl,HSS.out,?_⟩
    simp only[Act.put,Reg.s0,Reg.s1,Reg.s2]
    refine wpAnyH_done (by kernel_rfl) ?_ _
    clear HSS HCE
    go_wp2<;>skip
    go_roundw
    case rel=>exact⟨j+1,_,_,_,by omega,by go_num,HS.out.more (fun k hk=>.inl (.inl hk)),HL.out,HB.out⟩
    case measure=>simp [intOf];omega
  ·have hje:j=4:=by omega
   subst hje
   clear hlt hj HCE HL HLB
   have TR:=Lib.hid (fun(w1:World)=>l_tree w1)
   have TR2:=Lib.hid (fun(w1:World)=>l_tree w1)
   have N1:=Lib.hid (fun(w1:World) (v1 v2:Value) (K:Nat→Prop) (hK:∀b,K b→b<w1.heap.size) (ht:TpK K w1 v1 v2 (.slice none 0 0) tT) (hr:Ring w1 w.heap.size r v es) (hB:w.heap.size≤w1.heap.size)=>new_a (R:=rE) tT_sm rfl tT_kt tT_is (by decide) (ht.r.slv hK) (ht.k.slp hK) (by decide) hr hB)
   have N2:=Lib.hid (fun(w1:World) (v1 v2:Value) (lo:Nat) (ht:TpK (fun b=>lo≤b∧b<w1.heap.size) w1 v1 v2 (.slice none 0 0) tT) (hlo:w.heap.size≤lo) (hr:DRing w1 w.heap.size q dv ((itX true).take 4)) (hB:w.heap.size≤w1.heap.size)=>dnew_a (R:=rE) tT_sm tT_is (by decide) ht hlo (Nat.le_refl _) hr hB)
   obtain⟨W0,eW0⟩:∃z,z=wr:=⟨_,rfl⟩
   go_upto_region 21 with(first
    |(go_at_call 38;refine Calls.mono (TR.out _) ?_;rintro e t1 ⟨a1,a2,rfl,ht,hb⟩;have HT1:=Lib.hid ht;have HB1:=Lib.hid hb;clear ht hb TR)
    |(go_at_call 37;refine Calls.mono (N1.out _ _ _ _ (fun b x=>x.2) HT1.out (HS.out.c.below HB1.out) (Nat.le_trans HB.out.size HB1.out.size)) ?_;rintro e t2 ⟨k,lo,hi,u1,u2,rfl,hk1,hk2,hkd,hb⟩;have HKD:=Lib.hid hkd;have HB2:=Lib.hid hb;have HK1:=Lib.hid hk1;have HK2:=Lib.hid hk2;clear N1 HT1 hkd hb hk1 hk2)
    |(go_at_call 38;refine Calls.mono (TR2.out _) ?_;rintro e t3 ⟨a3,a4,rfl,ht,hb⟩;have HT3:=Lib.hid ht;have HB3:=Lib.hid hb;clear ht hb TR2)
    |(go_at_call 46;refine Calls.mono (N2.out _ _ _ _ HT3.out (Nat.le_trans HB.out.size (Nat.le_trans HB1.out.size HB2.out.size)) (HS.out.d.below (HB1.out.trans ((HB2.out.trans (HB3.out.mono HB2.out.size)).mono HB1.out.size))) (Nat.le_trans HB.out.size (Nat.le_trans HB1.out.size (Nat.le_trans HB2.out.size HB3.out.size)))) ?_;rintro e t4 ⟨x,rfl,hx,hdk,hb⟩;have HX:=Lib.hid hx;have HDK:=Lib.hid hdk;have HB4:=Lib.hid hb;clear N2 HT3 hx hdk hb)
    |fail)
   go_wp2
   go_ret
   have hb4:=HB.out.trans ((HB1.out.trans ((HB2.out.trans ((HB3.out.trans (HB4.out.mono HB3.out.size)).mono HB2.out.size)).mono HB1.out.size)).mono HB.out.size)
   exact⟨_,⟨k,r,lo,hi,rE,tT,v,u1,u2,.slice none 0 0⟩,es,⟨x,q,t2.heap.size,t3.heap.size,rE,tT,dv,a3,a4,.slice none 0 0⟩,rfl,scn_mk (a:=true) (Nat.le_refl _) HS.out HB1.out HK1.out HK2.out HKD.out HB2.out HB3.out HX.out rfl HDK.out HB4.out hb4 rfl rfl rfl rfl⟩
theorem begin_any (a:Bool) (w:World):Calls Tryz.prog 16 #[.bool a] w fun e w'=>∃g p es d,e = .returned (.pointer (some ⟨g,0,none⟩))∧Scn a w w' g p es d:=by
 cases a with
 |false=>exact begin_f w
 |true=>exact begin_t w
end Go.Proofs.YtfcjeebnkigeaaaGreat.Kd
end
