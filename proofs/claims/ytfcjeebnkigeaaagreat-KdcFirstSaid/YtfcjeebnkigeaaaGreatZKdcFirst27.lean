import Derived.Test.YtfcjeebnkigeaaaGreatZKdcFirst20
set_option maxHeartbeats 25600000
set_option maxRecDepth 100000
set_option linter.unusedVariables false
set_option linter.unusedSimpArgs false
namespace Go.Proofs.YtfcjeebnkigeaaaGreat
section
namespace Mc
open Go.RowKit Af DerP DerR Ms
theorem BA {w w':World} {B g:Nat} {c:Option L} (h:RC w B g c) (hb:Below w.heap.size w w') (hB:B≤w.heap.size):RC w' B g c:=
 h.keep (row:=none) (Bk hb none) (by simp) hB (by simp)
def GX (x:L) (i:Nat):L:=x.take i++List.replicate (32 - i) 0
theorem SE {x:L} (hx:x.length=32) {i:Nat} (hi:i≤32):(GX x i).length=32:=by
 simp only[GX,List.length_append,List.length_take,List.length_replicate];omega
theorem Py (x:L):GX x 0=key0:=rfl
theorem SF {x:L} (hx:x.length=32):GX x 32=x:=by
 rw[GX,List.take_of_length_le (by omega)];simp
theorem SG {x:L} (hx:x.length=32) {i:Nat} (hi:i<32):(bvs (GX x i)).toArray.setIfInBounds i (bv (x[i]'(by omega)))=(bvs (GX x (i+1))).toArray:=by
 apply Array.toList_inj.1;simp only[Array.toList_setIfInBounds];have e1:GX x i=x.take i++(0 :: List.replicate (32 - (i+1)) 0):=by
  rw[GX,←List.replicate_succ];congr 2;omega
 have e2:GX x (i+1)=x.take i++(x[i]'(by omega) :: List.replicate (32 - (i+1)) 0):=by
  rw[GX,List.take_succ_eq_append_getElem (by omega),List.append_assoc];rfl
 rw[e1,e2];simp only[bvs,List.map_append,List.map_cons];rw[List.set_append_right _ _ (by simp;omega)];simp only[List.length_map,List.length_take,Nat.min_eq_left (show i≤x.length by omega),Nat.sub_self,List.set_cons_zero]
theorem IZ:Tryz.prog.built 47 []=some (bvs key0).toArray:=by kernel_rfl
theorem Fe {P:Program} {ops:Array Oper} {rest:List Oper} {o:Oper} {a:Act} {w:World} {Q:Exit→Act→World→Prop} (hg:o.guard=none) (v:Value) (ob:Obj) (hrun:(execOp a.eval o).run P w = .ok (.value v) (w.alloc ob))
  (h:wpList P ops Q rest (a.put o.dst v) (w.alloc ob)):wpList P ops Q (o :: rest) a w:=wpList_plain hg fun _ hK=>by
 unfold Oper.wp;rw[hrun];exact hK _ _ h
theorem Oe (B g:Nat) (c:Option L) (w:World) (h:RC w B g c) (hB:B≤w.heap.size) (hBg:B≤g) (hu:(c.getD []).length≤100000):Calls Tryz.prog 76 #[.pointer (some ⟨g,0,none⟩)] w fun e w'=>e = .returned (.agg (bvs (keP c).1).toArray)∧RC w' B g (keP c).2∧w.grownBy w' (some g):=by
 obtain⟨zz,ezz⟩:∃z:Array Value,z=#[.int .u8 0,.int .u8 0,.int .u8 0,.int .u8 0,.int .u8 0,.int .u8 0,.int .u8 0,.int .u8 0,.int .u8 0,.int .u8 0,.int .u8 0,.int .u8 0,.int .u8 0,.int .u8 0,.int .u8 0,.int .u8 0,.int .u8 0,.int .u8 0,.int .u8 0,.int .u8 0,.int .u8 0,.int .u8 0,.int .u8 0,.int .u8 0,.int .u8 0,.int .u8 0,.int .u8 0,.int .u8 0,.int .u8 0,.int .u8 0,.int .u8 0,.int .u8 0]:=⟨_,rfl⟩;have ez0:zz=(bvs key0).toArray:=by rw[ezz];rfl
 have HBT:=I (show Tryz.prog.built 47 []=some zz by rw[ez0];exact IZ);have hzs:zz.size=32:=by rw[ez0];simp [Aj,key0]
 have HZS:=I hzs;have HZO:=I (show zz.all (·.oneCell')=true by rw[ez0];exact bvs_one' _);have HZI:=I (show(Tryz.prog.info? 47).map (·.size)=some zz.size by rw[hzs];exact Cr);have EZ:=I ez0;obtain⟨W,eW⟩:∃W,W=w.alloc (.cells zz 47):=⟨_,rfl⟩;have HWS:=I (show W.heap.size=w.heap.size+1 by rw[eW];simp);have HR:=I (show Blk W w.heap.size 47 zz by rw[eW];exact Blk.new _ _ _);have HC:=I (show RC W B g c by rw[eW];exact Hs h hB _);have HG:=I (show w.grownBy W (some g) by rw[eW];exact FF (World.grownBy.refl _ _) _);have HLT:=I (Ls h);have HB:=I hB;have HBG:=I hBg;have T1:=I (fun w1 (h:RC w1 B g c) (h1:B≤w1.heap.size)=>(show Calls Tryz.prog 84 #[.pointer (some ⟨g,0,none⟩)] w1 fun e w'=>(∃A' cap',e = .returned (.slice A' (ocC c).length cap')∧(ocC c).length≤cap'∧Rd w' B A' (bvs (ocC c)))∧RC w' B g (AZ 4 c)∧w1.grownBy w' (some g) from ML B g c w1 h h1 hBg hu));have E1:=I (show keP c=if (ocC c).length=32 then (ocC c,AZ 4 c) else (key0,none) from rfl);rw[E1.o];obtain⟨x,ex⟩:∃x,x=ocC c:=⟨_,rfl⟩;obtain⟨r,er⟩:∃r,r=AZ 4 c:=⟨_,rfl⟩;rw[←ex,←er] at T1⊢;clear ez0 hzs h hB hBg hu E1 ex er
 by_cases hx:x.length=32
 ·rw[if_pos hx]
  have t1:((x.length:Int) != 32)=false:=by simp;omega
  have HX:=I hx;clear hx;go_enter Tryz.func76,Tryz.ntmps76
  go_upto_region 1 with fail
  rw[←ezz,←eW];clear ezz eW
  go_upto_region 2 with(go_at_call 84;refine Calls.mono (T1.o _ HC.o (by have:=HWS.o;have:=HB.o;omega)) ?_;rintro e w1 ⟨⟨A,cp,rfl,hcp,hrd⟩,hd,hg⟩;clear T1;replace HC:=I hd;replace HR:=I (HR.o.grown hg (by intro e;injection e with e;have:=HLT.o;omega));replace HG:=I (NY HG.o hg);have HRD:=I hrd;have HW1:=I (show w.heap.size+1≤w1.heap.size by have:=hg.size;have:=HWS.o;omega);clear hd hg hcp hrd)
  refine wp_region_lit ?_;refine Az (by rfl) 47 #[] (by rfl) zz (by simp;exact HBT.o) ?_;refine Fe (by rfl) (.pointer (some ⟨w1.heap.size,0,none⟩)) (.cells #[.int .u8 0,.int .u8 0,.int .u8 0,.int .u8 0,.int .u8 0,.int .u8 0,.int .u8 0,.int .u8 0,.int .u8 0,.int .u8 0,.int .u8 0,.int .u8 0,.int .u8 0,.int .u8 0,.int .u8 0,.int .u8 0,.int .u8 0,.int .u8 0,.int .u8 0,.int .u8 0,.int .u8 0,.int .u8 0,.int .u8 0,.int .u8 0,.int .u8 0,.int .u8 0,.int .u8 0,.int .u8 0,.int .u8 0,.int .u8 0,.int .u8 0,.int .u8 0] 47) (by go_simp) ?_;refine wpList_store_mid (by rfl) 47 (.tmp 4) (.tmp 8) (by rfl) w1.heap.size 0 zz (by rfl) (by rfl) (Ao (Blk.new w1 47 #[.int .u8 0,.int .u8 0,.int .u8 0,.int .u8 0,.int .u8 0,.int .u8 0,.int .u8 0,.int .u8 0,.int .u8 0,.int .u8 0,.int .u8 0,.int .u8 0,.int .u8 0,.int .u8 0,.int .u8 0,.int .u8 0,.int .u8 0,.int .u8 0,.int .u8 0,.int .u8 0,.int .u8 0,.int .u8 0,.int .u8 0,.int .u8 0,.int .u8 0,.int .u8 0,.int .u8 0,.int .u8 0,.int .u8 0,.int .u8 0,.int .u8 0,.int .u8 0]) _ (by have:=HZS.o;simp;omega)) HZI.o HZO.o ?_;have hV:=By w1 47 #[.int .u8 0,.int .u8 0,.int .u8 0,.int .u8 0,.int .u8 0,.int .u8 0,.int .u8 0,.int .u8 0,.int .u8 0,.int .u8 0,.int .u8 0,.int .u8 0,.int .u8 0,.int .u8 0,.int .u8 0,.int .u8 0,.int .u8 0,.int .u8 0,.int .u8 0,.int .u8 0,.int .u8 0,.int .u8 0,.int .u8 0,.int .u8 0,.int .u8 0,.int .u8 0,.int .u8 0,.int .u8 0,.int .u8 0,.int .u8 0,.int .u8 0,.int .u8 0] zz (by have:=HZS.o;simp;omega);generalize ((w1.alloc (.cells #[.int .u8 0,.int .u8 0,.int .u8 0,.int .u8 0,.int .u8 0,.int .u8 0,.int .u8 0,.int .u8 0,.int .u8 0,.int .u8 0,.int .u8 0,.int .u8 0,.int .u8 0,.int .u8 0,.int .u8 0,.int .u8 0,.int .u8 0,.int .u8 0,.int .u8 0,.int .u8 0,.int .u8 0,.int .u8 0,.int .u8 0,.int .u8 0,.int .u8 0,.int .u8 0,.int .u8 0,.int .u8 0,.int .u8 0,.int .u8 0,.int .u8 0,.int .u8 0] 47)).setCells w1.heap.size 0 zz.toList)=V at hV⊢;have HK:=I (show Blk V w1.heap.size 47 (bvs key0).toArray from EZ.o▸hV.1);replace HR:=I (HR.o.below hV.2);replace HC:=I (BA HC.o hV.2 (by have:=HW1.o;have:=HB.o;omega));replace HG:=I (Hv HG.o hV.2);have HRV:=I (HRD.o.below (hV.2.mono (by have:=HW1.o;have:=HB.o;omega)));have HVS:=I (show w1.heap.size<V.heap.size from hV.1.lt);clear hV HRD
  go_wp2
  obtain⟨bb,oo,rfl,hbb,hcl⟩:∃bb oo,A=some ⟨bb,oo,none⟩∧bb<B∧∀i u,(bvs x)[i]? = some u→V.cell? ⟨bb,oo+i,none⟩=some u:=by
   rcases HRV.o with h | ⟨bb,oo,h1,h2,h3⟩
   ·have:(bvs x).length=32:=by rw[Aj];exact HX.o
    rw[h] at this;simp at this
   ·exact⟨bb,oo,h1,h2,h3⟩
  have HBB:=I hbb;have HCL:=I hcl;clear hbb hcl HRV
  go_loopw [5] (fun i wr=>∃k:Nat,k≤32∧i = .int .i64 (k:Int)∧Blk wr w1.heap.size 47 (bvs (GX x k)).toArray∧V.grownBy wr (some w1.heap.size)) (fun i _=>32 - (intOf i).toNat)
  case atStart=>exact⟨0,by omega,rfl,by rw[Py];exact HK.o,World.grownBy.refl _ _⟩
  case round=>
   obtain⟨k,hk,rfl,hBK,hgv⟩:=hrel;have HBK:=I hBK;have HGV:=I hgv;clear hBK hgv
   by_cases hlt:k<32
   ·have hxl:k<x.length:=by have:=HX.o;omega
    have e1:(k:Int)<32:=by omega
    have e2:decide ((k:Int)<32)=true:=decide_eq_true e1;have e3:(k:Int)<(x.length:Int):=by omega
    have k1:wr.cell? ⟨bb,oo+k,none⟩=some (bv x[k]):=(World.cell?_of_block (a:=⟨bb,oo+k,none⟩) (HGV.o.block bb (by have:=HBB.o;have:=HB.o;have:=HW1.o;have:=HVS.o;omega) (fun e=>by injection e with e;have:=HBB.o;have:=HB.o;have:=HW1.o;omega))).trans (HCL.o k _ (Dw hxl));obtain⟨u,hu⟩:∃u,(bvs (GX x k)).toArray[k]? = some u:=⟨_,Array.getElem?_eq_getElem (by rw[List.size_toArray,Aj,SE HX.o (by omega)];exact hlt)⟩;have k2:wr.cell? ⟨w1.heap.size,k,none⟩=some u:=(HBK.o.cell k).trans hu;have f2:wr.frozen? ⟨w1.heap.size,k,none⟩=false:=HBK.o.frozen k;have hs:=HBK.o.set k (bv x[k]);rw[SG HX.o hlt] at hs;have HS:=I hs;have HP:=I (HGV.o.trans (Ay (World.grownBy.refl wr (some w1.heap.size)) (p:=⟨w1.heap.size,k,none⟩) (.inl rfl) (bv x[k])));clear hs hu;simp only[bv] at k1 HS HP
    go_wp2
    exact⟨⟨k+1,by omega,rfl,HS.o,HP.o⟩,by simp [intOf];omega⟩
   ·obtain rfl:k=32:=by omega
    have e2:decide (((32:Nat):Int)<32)=false:=rfl;have hb2:=HBK.o;rw[SF HX.o] at hb2;have hks:(bvs x).toArray.size=32:=by simp [Aj];exact HX.o
    have HO2:=I (bvs_one' x);obtain⟨ks,eks⟩:∃ks,ks=(bvs x).toArray:=⟨_,rfl⟩;rw[←eks] at hb2 hks HO2;have HK2:=I hb2;have HZ2:=I (show(Tryz.prog.info? 47).map (·.size)=some ks.size by rw[hks];exact Cr);have HS2:=I hks;have EK:=I eks;replace HR:=I (HR.o.grown HGV.o (by intro e;injection e with e;have:=HW1.o;omega));replace HC:=I (BP HC.o HGV.o (by have:=HLT.o;have:=HW1.o;omega) (by have:=HB.o;have:=HW1.o;have:=HVS.o;omega) (by have:=HB.o;have:=HW1.o;omega));replace HG:=I (Sf HG.o HGV.o (by have:=HW1.o;omega));have HWR:=I (show w1.heap.size<wr.heap.size from Nat.lt_of_lt_of_le HVS.o HGV.o.size);clear hb2 hks eks HBK HGV HK HCL HBB hlt hk
    go_wp2_with (first
     |(refine Ae (by rfl) 47 (.tmp 4) (by rfl) w1.heap.size 0 (by rfl) ks _ (Ag HK2.o) Tryz.underlying47 (by rfl) HZ2.o ?_)
     |(refine wpList_store_mid (by rfl) 47 (.tmp 2) (.tmp 26) (by rfl) w.heap.size 0 ks (by rfl) (by rfl) (Ao HR.o _ (by have:=HZS.o;have:=HS2.o;omega)) HZ2.o HO2.o ?_)
     |fail)
    have hE:=AK (ds:=ks) HR.o (by have:=HZS.o;have:=HS2.o;omega);have hp:=AV wr w.heap.size ks.toList;have hq:=Ak (P:=Tryz.prog) hE Tryz.underlying47 rfl HZ2.o;refine bodyPost_ret (v:=.agg ks) ?_ ?_ ?_
    ·exact An 2 47 ⟨w.heap.size,0,none⟩ Tryz.results76 rfl hq
    ·rfl
    exact⟨by rw[EK.o],BP HC.o hp (by have:=HLT.o;omega) (by have:=HB.o;have:=HW1.o;have:=HWR.o;omega) HB.o,Sf HG.o hp (Nat.le_refl _)⟩
 ·rw[if_neg hx]
  have t1:((x.length:Int) != 32)=true:=by simp;omega
  clear hx;go_enter Tryz.func76,Tryz.ntmps76
  go_upto_region 1 with fail
  rw[←ezz,←eW];clear ezz eW
  go_upto_region 2 with(go_at_call 84;refine Calls.mono (T1.o _ HC.o (by have:=HWS.o;have:=HB.o;omega)) ?_;rintro e w1 ⟨⟨A,cp,rfl,hcp,hrd⟩,hd,hg⟩;clear T1;replace HC:=I hd;replace HR:=I (HR.o.grown hg (by intro e;injection e with e;have:=HLT.o;omega));replace HG:=I (NY HG.o hg);have HRD:=I hrd;have HW1:=I (show w.heap.size+1≤w1.heap.size by have:=hg.size;have:=HWS.o;omega);clear hd hg hcp hrd)
  refine wp_region_lit ?_;refine Az (by rfl) 47 #[] (by rfl) zz (by simp;exact HBT.o) ?_;refine Fe (by rfl) (.pointer (some ⟨w1.heap.size,0,none⟩)) (.cells #[.int .u8 0,.int .u8 0,.int .u8 0,.int .u8 0,.int .u8 0,.int .u8 0,.int .u8 0,.int .u8 0,.int .u8 0,.int .u8 0,.int .u8 0,.int .u8 0,.int .u8 0,.int .u8 0,.int .u8 0,.int .u8 0,.int .u8 0,.int .u8 0,.int .u8 0,.int .u8 0,.int .u8 0,.int .u8 0,.int .u8 0,.int .u8 0,.int .u8 0,.int .u8 0,.int .u8 0,.int .u8 0,.int .u8 0,.int .u8 0,.int .u8 0,.int .u8 0] 47) (by go_simp) ?_;refine wpList_store_mid (by rfl) 47 (.tmp 4) (.tmp 8) (by rfl) w1.heap.size 0 zz (by rfl) (by rfl) (Ao (Blk.new w1 47 #[.int .u8 0,.int .u8 0,.int .u8 0,.int .u8 0,.int .u8 0,.int .u8 0,.int .u8 0,.int .u8 0,.int .u8 0,.int .u8 0,.int .u8 0,.int .u8 0,.int .u8 0,.int .u8 0,.int .u8 0,.int .u8 0,.int .u8 0,.int .u8 0,.int .u8 0,.int .u8 0,.int .u8 0,.int .u8 0,.int .u8 0,.int .u8 0,.int .u8 0,.int .u8 0,.int .u8 0,.int .u8 0,.int .u8 0,.int .u8 0,.int .u8 0,.int .u8 0]) _ (by have:=HZS.o;simp;omega)) HZI.o HZO.o ?_;have hV:=By w1 47 #[.int .u8 0,.int .u8 0,.int .u8 0,.int .u8 0,.int .u8 0,.int .u8 0,.int .u8 0,.int .u8 0,.int .u8 0,.int .u8 0,.int .u8 0,.int .u8 0,.int .u8 0,.int .u8 0,.int .u8 0,.int .u8 0,.int .u8 0,.int .u8 0,.int .u8 0,.int .u8 0,.int .u8 0,.int .u8 0,.int .u8 0,.int .u8 0,.int .u8 0,.int .u8 0,.int .u8 0,.int .u8 0,.int .u8 0,.int .u8 0,.int .u8 0,.int .u8 0] zz (by have:=HZS.o;simp;omega);generalize ((w1.alloc (.cells #[.int .u8 0,.int .u8 0,.int .u8 0,.int .u8 0,.int .u8 0,.int .u8 0,.int .u8 0,.int .u8 0,.int .u8 0,.int .u8 0,.int .u8 0,.int .u8 0,.int .u8 0,.int .u8 0,.int .u8 0,.int .u8 0,.int .u8 0,.int .u8 0,.int .u8 0,.int .u8 0,.int .u8 0,.int .u8 0,.int .u8 0,.int .u8 0,.int .u8 0,.int .u8 0,.int .u8 0,.int .u8 0,.int .u8 0,.int .u8 0,.int .u8 0,.int .u8 0] 47)).setCells w1.heap.size 0 zz.toList)=V at hV⊢;have HK:=I (show Blk V w1.heap.size 47 (bvs key0).toArray from EZ.o▸hV.1);replace HR:=I (HR.o.below hV.2);replace HC:=I (BA HC.o hV.2 (by have:=HW1.o;have:=HB.o;omega));replace HG:=I (Hv HG.o hV.2);have HRV:=I (HRD.o.below (hV.2.mono (by have:=HW1.o;have:=HB.o;omega)));have HVS:=I (show w1.heap.size<V.heap.size from hV.1.lt);clear hV HRD;have hcc:=Cy HC.o;have k1:=hcc.1;have f1:=hcc.2;clear hcc HRV;obtain⟨bo,ebo⟩:∃bo,bo=(!r.isSome):=⟨_,rfl⟩;rw[←ebo] at k1;clear ebo
  go_upto_region 5 with fail
  have HE:=I (Sg HC.o);have hp1:=Ay (World.grownBy.refl V (some g)) (p:=⟨g,1,none⟩) (.inl rfl) (.bool true);obtain⟨V2,eV2⟩:∃V2,V2=V.setCell ⟨g,1,none⟩ (.bool true):=⟨_,rfl⟩;rw[←eV2] at HE hp1⊢;replace HR:=I (HR.o.grown hp1 (by intro e;injection e with e;have:=HLT.o;omega));replace HK:=I (HK.o.grown hp1 (by intro e;injection e with e;have:=HLT.o;have:=HW1.o;omega));replace HG:=I (NY HG.o hp1);have HWR:=I (show w1.heap.size<V2.heap.size from Nat.lt_of_lt_of_le HVS.o hp1.size);have HKZ:=I (show Blk V2 w1.heap.size 47 zz from EZ.o▸HK.o);clear eV2 hp1 HC k1 f1 HK
  go_wp2_with (first
   |(refine Ae (by rfl) 47 (.tmp 4) (by rfl) w1.heap.size 0 (by rfl) zz _ (Ag HKZ.o) Tryz.underlying47 (by rfl) HZI.o ?_)
   |(refine wpList_store_mid (by rfl) 47 (.tmp 2) (.tmp 15) (by rfl) w.heap.size 0 zz (by rfl) (by rfl) (Ao HR.o _ (Nat.le_refl _)) HZI.o HZO.o ?_)
   |fail)
  have hE:=AK (ds:=zz) HR.o rfl;have hp:=AV V2 w.heap.size zz.toList;have hq:=Ak (P:=Tryz.prog) hE Tryz.underlying47 rfl HZI.o;refine bodyPost_ret (v:=.agg zz) ?_ ?_ ?_
  ·exact An 2 47 ⟨w.heap.size,0,none⟩ Tryz.results76 rfl hq
  ·rfl
  exact⟨by rw[EZ.o],BP HE.o hp (by have:=HLT.o;omega) (by have:=HB.o;have:=HW1.o;have:=HWR.o;omega) HB.o,Sf HG.o hp (Nat.le_refl _)⟩
end Mc
end
section
namespace Mc
open Go.RowKit Af DerP DerR Ms
section
variable {w:World} {g:Nat} {t:TypeId} {v1:Pr} {v2 x:L} {st en no y:Int} {tr:L}
theorem WY (hx:x.length=32) (hk:v2.length=32) (h:Blk w g t (ptC ⟨v1,v2,tr,st,en⟩).toArray):Blk (w.setCells g 2 (bvs x).toArray.toList) g t (ptC ⟨v1,x,tr,st,en⟩).toArray:=
 Cq (ps:=(bvs x).toArray) (pre:=prC v1) (mid:=bvs v2) (post:=[.string ⟨tr.toArray⟩,.int .i64 st,.int .i64 en]) h (by simp [ptC]) rfl (by simp [Aj,hk,hx]) (by simp [ptC])
theorem Us (hk:v2.length=32) (h:Blk w g t (ptC ⟨v1,v2,tr,st,en⟩).toArray):Blk (w.setCell ⟨g,34,none⟩ (.string ⟨x.toArray⟩)) g t (ptC ⟨v1,v2,x,st,en⟩).toArray:=
 Cq (ps:=#[.string ⟨x.toArray⟩]) (pre:=prC v1++bvs v2) (mid:=[.string ⟨tr.toArray⟩]) (post:=[.int .i64 st,.int .i64 en]) h (by simp [ptC]) (by simp [prC,Aj,hk]) rfl (by simp [ptC])
theorem Ut (hk:v2.length=32) (h:Blk w g t (ptC ⟨v1,v2,tr,st,en⟩).toArray):Blk (w.setCell ⟨g,35,none⟩ (.int .i64 y)) g t (ptC ⟨v1,v2,tr,y,en⟩).toArray:=
 Cq (ps:=#[.int .i64 y]) (pre:=prC v1++(bvs v2++[.string ⟨tr.toArray⟩])) (mid:=[.int .i64 st]) (post:=[.int .i64 en]) h (by simp [ptC]) (by simp [prC,Aj,hk]) rfl (by simp [ptC])
theorem GA (hk:v2.length=32) (h:Blk w g t (ptC ⟨v1,v2,tr,st,en⟩).toArray):Blk (w.setCell ⟨g,36,none⟩ (.int .i64 y)) g t (ptC ⟨v1,v2,tr,st,y⟩).toArray:=
 Cq (ps:=#[.int .i64 y]) (pre:=prC v1++(bvs v2++[.string ⟨tr.toArray⟩,.int .i64 st])) (mid:=[.int .i64 en]) (post:=[]) h (by simp [ptC]) (by simp [prC,Aj,hk]) rfl (by simp [ptC])
theorem Uu {p:Pr} (hk:v2.length=32) (h:Blk w g t (rpC ⟨v2,v1,st,en,no⟩).toArray):Blk ((w.setCell ⟨g,32,none⟩ (.string ⟨p.1.toArray⟩)).setCell ⟨g,33,none⟩ (.string ⟨p.2.toArray⟩)) g t (rpC ⟨v2,p,st,en,no⟩).toArray:=
 Cq (ps:=#[.string ⟨p.1.toArray⟩,.string ⟨p.2.toArray⟩]) (pre:=bvs v2) (mid:=prC v1) (post:=[.int .i64 st,.int .i64 en,.int .i64 no]) h (by simp [rpC]) (by simp [Aj,hk]) rfl (by simp [rpC,prC])
theorem Uv (hk:v2.length=32) (h:Blk w g t (rpC ⟨v2,v1,st,en,no⟩).toArray):Blk (w.setCell ⟨g,34,none⟩ (.int .i64 y)) g t (rpC ⟨v2,v1,y,en,no⟩).toArray:=
 Cq (ps:=#[.int .i64 y]) (pre:=bvs v2++prC v1) (mid:=[.int .i64 st]) (post:=[.int .i64 en,.int .i64 no]) h (by simp [rpC]) (by simp [prC,Aj,hk]) rfl (by simp [rpC])
theorem Uw (hk:v2.length=32) (h:Blk w g t (rpC ⟨v2,v1,st,en,no⟩).toArray):Blk (w.setCell ⟨g,35,none⟩ (.int .i64 y)) g t (rpC ⟨v2,v1,st,y,no⟩).toArray:=
 Cq (ps:=#[.int .i64 y]) (pre:=bvs v2++(prC v1++[.int .i64 st])) (mid:=[.int .i64 en]) (post:=[.int .i64 no]) h (by simp [rpC]) (by simp [prC,Aj,hk]) rfl (by simp [rpC])
theorem GB (hk:v2.length=32) (h:Blk w g t (rpC ⟨v2,v1,st,en,no⟩).toArray):Blk (w.setCell ⟨g,36,none⟩ (.int .i64 y)) g t (rpC ⟨v2,v1,st,en,y⟩).toArray:=
 Cq (ps:=#[.int .i64 y]) (pre:=bvs v2++(prC v1++[.int .i64 st,.int .i64 en])) (mid:=[.int .i64 no]) (post:=[]) h (by simp [rpC]) (by simp [prC,Aj,hk]) rfl (by simp [rpC])
end
theorem Gs (p:Pr):Tryz.prog.built 71 [(0,.agg #[.string ⟨p.1.toArray⟩,.string ⟨p.2.toArray⟩])]=some (ptC ⟨p,key0,[],0,0⟩).toArray:=by kernel_rfl
theorem SH:Tryz.prog.built 71 []=some (ptC pt0).toArray:=by kernel_rfl
theorem SI (k:L) (hk:k.length=32):Tryz.prog.built 75 [(0,.agg (bvs k).toArray)]=some (rpC ⟨k,pr0,0,0,0⟩).toArray:=by
 obtain⟨k0,k1,k2,k3,k4,k5,k6,k7,k8,k9,k10,k11,k12,k13,k14,k15,k16,k17,k18,k19,k20,k21,k22,k23,k24,k25,k26,k27,k28,k29,k30,k31,rfl⟩:=Un hk
 kernel_rfl
theorem SJ:Tryz.prog.built 75 []=some (rpC rp0).toArray:=by kernel_rfl
theorem Vf {c:Option L} (h:(c.getD []).length≤100000):pSm (prP c).1:=Yk h
theorem Of {c:Option L} {n:Nat} (h:(c.getD []).length≤n):((keP c).2.getD []).length≤n:=by
 unfold keP
 split
 ·exact UW 4 h
 ·simp
theorem Og {c:Option L} {n:Nat} (h:(c.getD []).length≤n):((prP c).2.getD []).length≤n:=Nat.le_trans (WE c) h
end Mc
end
section
namespace Mc
open Go.RowKit Af DerP DerR Ms
theorem Lw (b:L) (A:Option Addr) (c:Nat) (w:World) (hr:Rd w w.heap.size A (bvs b)) (hc:b.length≤c) (hl:b.length≤3000) :
  Calls Tryz.prog 30 #[.slice A b.length c] w fun e w'=>e = .returned (.tuple #[.agg (ptC (ptG b)).toArray,.int .i64 (ptI b)])∧Below w.heap.size w w':=by
 obtain⟨zz,ezz⟩:∃z:Array Value,z=#[.string ⟨#[]⟩,.string ⟨#[]⟩,.int .u8 0,.int .u8 0,.int .u8 0,.int .u8 0,.int .u8 0,.int .u8 0,.int .u8 0,.int .u8 0,.int .u8 0,.int .u8 0,.int .u8 0,.int .u8 0,.int .u8 0,.int .u8 0,.int .u8 0,.int .u8 0,.int .u8 0,.int .u8 0,.int .u8 0,.int .u8 0,.int .u8 0,.int .u8 0,.int .u8 0,.int .u8 0,.int .u8 0,.int .u8 0,.int .u8 0,.int .u8 0,.int .u8 0,.int .u8 0,.int .u8 0,.int .u8 0,.string ⟨#[]⟩,.int .i64 0,.int .i64 0]:=⟨_,rfl⟩;have ez0:(ptC pt0).toArray=zz:=by rw[ezz];rfl
 have hzs:zz.size=37:=by rw[ezz];simp
 have HZS:=I hzs;have HZO:=I (show zz.all (·.oneCell')=true by rw[←ez0];exact MM _ _ _ _ _);have HZI:=I (show(Tryz.prog.info? 71).map (·.size)=some zz.size by rw[hzs];kernel_rfl);have HZB:=I (show Tryz.prog.built 71 []=some zz by rw[←ez0];exact SH);obtain⟨W,eW⟩:∃W,W=(w.alloc (.cells zz 71)).alloc (.cells #[.slice A b.length c,.bool false] 175):=⟨_,rfl⟩;have hWs:W.heap.size=w.heap.size+1+1:=by rw[eW];simp
 have hbW:Below w.heap.size w W:=by rw[eW];exact((Below.refl _ _).alloc (Nat.le_refl _) _).alloc (by simp) _
 have hcu:=Blk.new (w.alloc (.cells zz 71)) 175 #[.slice A b.length c,.bool false];rw[show(w.alloc (.cells zz 71)).heap.size=w.heap.size+1 by simp,←eW] at hcu;have HC:=I (show RC W w.heap.size (w.heap.size+1) (some b) from⟨A,b.length,c,false,hcu,rfl,rfl,hc,hr.below hbW⟩);have HG:=I hbW;have HR:=I (show Blk W w.heap.size 71 zz by rw[eW];exact(Blk.new _ _ _).alloc _);have HWS:=I hWs;have HRD:=I (fun w1 (h:Below w.heap.size w w1)=>hr.below h);have hs0:((AF 99 (some b)).getD []).length≤100000:=UX 99 (show((some b:Option L).getD []).length≤100000 by show b.length≤100000;omega);have c1:=I (fun w1 h h1=>IX 99 w.heap.size (w.heap.size+1) (some b) w1 h h1 (by omega) (by show b.length≤100000;omega));have EP:=I (show ptP b=_ from rfl);obtain⟨s0,es0⟩:∃s,s=AF 99 (some b):=⟨_,rfl⟩;rw[←es0] at c1 hs0;have hs1:(((prP s0).2).getD []).length≤100000:=Og hs0;have T1:=I (fun g w1 h h1 h2=>Hi w.heap.size g s0 w1 h h1 h2 hs0);have hsm:=Vf hs0;obtain⟨v1,ev1⟩:∃x:Pr,x=(prP s0).1:=⟨_,rfl⟩;obtain⟨s1,es1⟩:∃s,s=(prP s0).2:=⟨_,rfl⟩;rw[←ev1,←es1] at T1;rw[←es1] at hs1;rw[←ev1] at hsm;have hs2:(((keP s1).2).getD []).length≤100000:=Of hs1;have T2:=I (fun g w1 h h1 h2=>Oe w.heap.size g s1 w1 h h1 h2 hs1);have hk:=Nr s1;obtain⟨v2,ev2⟩:∃x:L,x=(keP s1).1:=⟨_,rfl⟩;obtain⟨s2,es2⟩:∃s,s=(keP s1).2:=⟨_,rfl⟩;rw[←ev2,←es2] at T2;rw[←es2] at hs2;rw[←ev2] at hk;have hs3:((AZ 27 s2).getD []).length≤100000:=UW 27 hs2;have T3:=I (fun g w1 h h1 h2=>IW w.heap.size g s2 w1 h h1 h2 hs2);rw[show(AF 27 s2).getD []=txC s2 from rfl] at T3;have htr:=Yl hs2;obtain⟨v3,ev3⟩:∃x:L,x=txC s2:=⟨_,rfl⟩;obtain⟨s3,es3⟩:∃s,s=AZ 27 s2:=⟨_,rfl⟩;rw[←ev3,←es3] at T3;rw[←es3] at hs3;rw[←ev3] at htr;have hs4:(((intC s3).2).getD []).length≤100000:=Lt hs3;have T4:=I (fun g w1 h h1 h2=>Gx w.heap.size g s3 w1 h h1 h2 hs3);unfold Ints at T4;obtain⟨v4,ev4⟩:∃x:Int,x=((intC s3).1:Int):=⟨_,rfl⟩;obtain⟨s4,es4⟩:∃s,s=(intC s3).2:=⟨_,rfl⟩;rw[←ev4,←es4] at T4;rw[←es4] at hs4;have hs5:(((intC s4).2).getD []).length≤100000:=Lt hs4;have T5:=I (fun g w1 h h1 h2=>Gx w.heap.size g s4 w1 h h1 h2 hs4);unfold Ints at T5;obtain⟨v5,ev5⟩:∃x:Int,x=((intC s4).1:Int):=⟨_,rfl⟩;obtain⟨s5,es5⟩:∃s,s=(intC s4).2:=⟨_,rfl⟩;rw[←ev5,←es5] at T5;rw[←es5] at hs5;have FV:ptP b=(⟨v1,v2,v3,v4,v5⟩,s5):=by rw[ev1,ev2,ev3,ev4,ev5,es5,es4,es3,es2,es1,es0];rfl
 have ED:=I (show ptD b=if ptO (ptP b).1=some b then some (ptP b).1 else none from rfl);rw[FV] at ED;have OK:=I (fun p (h:ptD b=some p)=>(congrArg Prod.snd ((pt_ok h).2.symm.trans FV):some []=s5));have EN:=I (fun w1=>Lk ⟨v1,v2,v3,v4,v5⟩ w1 hk hsm (by show v3.length≤1000000000;omega));have HBT:=I (Gs v1);have HKS:=I (show(bvs v2).toArray.size=32 by simp [Aj];exact hk);have HKO:=I (bvs_one' v2);have HKI:=I (show(Tryz.prog.info? 47).map (·.size)=some (bvs v2).toArray.size by rw[HKS.o];exact Cr);have HK32:=I hk;have HCS:=I (show(ptC ⟨v1,v2,v3,v4,v5⟩).toArray.size=37 from EJ hk);have HCI:=I (show(Tryz.prog.info? 71).map (·.size)=some (ptC ⟨v1,v2,v3,v4,v5⟩).toArray.size by rw[HCS.o];kernel_rfl);have HCO:=I (show(ptC ⟨v1,v2,v3,v4,v5⟩).toArray.all (·.oneCell')=true from MM _ _ _ _ _);have HFS:=I (show(ptC ⟨v1,key0,[],0,0⟩).toArray.size=37 from EJ rfl);have HFI:=I (show(Tryz.prog.info? 71).map (·.size)=some (ptC ⟨v1,key0,[],0,0⟩).toArray.size by rw[HFS.o];kernel_rfl);have HFO:=I (show(ptC ⟨v1,key0,[],0,0⟩).toArray.all (·.oneCell')=true from MM _ _ _ _ _);obtain⟨ks,eks⟩:∃ks,ks=(bvs v2).toArray:=⟨_,rfl⟩;rw[←eks] at HKS HKO HKI T2;obtain⟨c0,ec0⟩:∃c0,c0=(ptC ⟨v1,key0,[],0,0⟩).toArray:=⟨_,rfl⟩;rw[←ec0] at HFS HFI HFO HBT;obtain⟨cs,ecs⟩:∃cs,cs=(ptC ⟨v1,v2,v3,v4,v5⟩).toArray:=⟨_,rfl⟩;rw[←ecs] at HCS HCI HCO EN;have EK:=I eks;have EC0:=I ec0;have ECS:=I ecs;have EZ0:=I ez0;clear hr hc hl hzs hWs hbW hcu hk hsm ez0 eks ec0 ecs FV EP es0 htr hs0 hs1 hs2 hs3 hs4 hs5 ev1 es1 ev2 es2 ev3 es3 ev4 es4 ev5 es5;go_enter Tryz.func30,Tryz.ntmps30
 go_upto_region 2 with fail
 rw[←ezz,←eW];clear ezz eW
 go_upto_region 8 with(first
  |(go_at_call 74;refine Calls.mono (c1.o _ HC.o HG.o.size) ?_;rintro e w2 ⟨⟨gd,rfl,hgd,hd⟩,hc2,hg2⟩;clear c1 HC;have HD:=I hd;have HGD:=I (show w.heap.size+2≤gd by have:=HWS.o;omega);replace HR:=I (HR.o.grown hg2 (by intro e;injection e with e;omega));replace HG:=I (Al HG.o hg2 HG.o.size (by omega));have HDL:=I (Ls hd);clear hgd hd hc2 hg2)
  |(go_at_call 75;(with_reducible refine Calls.mono (T1.o gd _ HD.o HG.o.size (by have:=HGD.o;omega)) ?_);rintro e x1 ⟨rfl,hd,hg3⟩;clear T1;replace HD:=I hd;replace HR:=I (HR.o.grown hg3 (by intro e;injection e with e;have:=HGD.o;omega));replace HG:=I (Al HG.o hg3 HG.o.size (by have:=HGD.o;omega));have HDL2:=I (Ls hd);clear hd hg3)
  |(refine Az (by rfl) 71 #[(0,.tmp 15)] (by rfl) c0 (by simp only[List.map_toArray,List.map_cons,List.map_nil];exact HBT.o) ?_)
  |(refine wpList_store_mid (by rfl) 71 (.tmp 6) (.tmp 16) (by rfl) x1.heap.size 0 c0 (by rfl) (by rfl) (Ao (Blk.new x1 71 #[.string ⟨#[]⟩,.string ⟨#[]⟩,.int .u8 0,.int .u8 0,.int .u8 0,.int .u8 0,.int .u8 0,.int .u8 0,.int .u8 0,.int .u8 0,.int .u8 0,.int .u8 0,.int .u8 0,.int .u8 0,.int .u8 0,.int .u8 0,.int .u8 0,.int .u8 0,.int .u8 0,.int .u8 0,.int .u8 0,.int .u8 0,.int .u8 0,.int .u8 0,.int .u8 0,.int .u8 0,.int .u8 0,.int .u8 0,.int .u8 0,.int .u8 0,.int .u8 0,.int .u8 0,.int .u8 0,.int .u8 0,.string ⟨#[]⟩,.int .i64 0,.int .i64 0]) _ (by have:=HFS.o;simp;omega)) HFI.o HFO.o ?_;have hV:=By x1 71 #[.string ⟨#[]⟩,.string ⟨#[]⟩,.int .u8 0,.int .u8 0,.int .u8 0,.int .u8 0,.int .u8 0,.int .u8 0,.int .u8 0,.int .u8 0,.int .u8 0,.int .u8 0,.int .u8 0,.int .u8 0,.int .u8 0,.int .u8 0,.int .u8 0,.int .u8 0,.int .u8 0,.int .u8 0,.int .u8 0,.int .u8 0,.int .u8 0,.int .u8 0,.int .u8 0,.int .u8 0,.int .u8 0,.int .u8 0,.int .u8 0,.int .u8 0,.int .u8 0,.int .u8 0,.int .u8 0,.int .u8 0,.string ⟨#[]⟩,.int .i64 0,.int .i64 0] c0 (by have:=HFS.o;simp;omega);generalize ((x1.alloc (.cells #[.string ⟨#[]⟩,.string ⟨#[]⟩,.int .u8 0,.int .u8 0,.int .u8 0,.int .u8 0,.int .u8 0,.int .u8 0,.int .u8 0,.int .u8 0,.int .u8 0,.int .u8 0,.int .u8 0,.int .u8 0,.int .u8 0,.int .u8 0,.int .u8 0,.int .u8 0,.int .u8 0,.int .u8 0,.int .u8 0,.int .u8 0,.int .u8 0,.int .u8 0,.int .u8 0,.int .u8 0,.int .u8 0,.int .u8 0,.int .u8 0,.int .u8 0,.int .u8 0,.int .u8 0,.int .u8 0,.int .u8 0,.string ⟨#[]⟩,.int .i64 0,.int .i64 0] 71)).setCells x1.heap.size 0 c0.toList)=V at hV⊢;have HPB:=I (show Blk V x1.heap.size 71 (ptC ⟨v1,key0,[],0,0⟩).toArray from EC0.o▸hV.1);have HPG:=I HDL2.o;replace HD:=I (BA HD.o hV.2 HG.o.size);replace HR:=I (HR.o.below hV.2);replace HG:=I (HG.o.trans (hV.2.mono HG.o.size));clear hV HDL HDL2)
  |(go_at_call 76;(with_reducible refine Calls.mono (T2.o gd _ HD.o HG.o.size (by have:=HGD.o;omega)) ?_);rintro e x2 ⟨rfl,hd,hg3⟩;clear T2;replace HD:=I hd;replace HR:=I (HR.o.grown hg3 (by intro e;injection e with e;have:=HGD.o;omega));replace HG:=I (Al HG.o hg3 HG.o.size (by have:=HGD.o;omega));replace HPB:=I (HPB.o.grown hg3 (by intro e;injection e with e;have:=HPG.o;omega));clear hd hg3)
  |(refine wpList_store_mid (by rfl) 47 (.tmp 19) (.tmp 18) (by rfl) x1.heap.size 2 ks (by rfl) (by rfl) (BX HPB.o 2 _ (by have:=HKS.o;rw[EJ rfl];omega)) HKI.o HKO.o ?_;have hp0:=Ds x2 x1.heap.size 2 ks.toList;replace HPB:=I (show Blk (x2.setCells x1.heap.size 2 ks.toList) x1.heap.size 71 _ from EK.o▸WY HK32.o rfl HPB.o);generalize x2.setCells x1.heap.size 2 ks.toList=V3 at hp0 HPB⊢;replace HD:=I (BP HD.o hp0 (by have:=HPG.o;omega) HG.o.size (by have:=HPG.o;have:=HGD.o;omega));replace HR:=I (HR.o.grown hp0 (by intro e;injection e with e;have:=HPG.o;have:=HGD.o;omega));replace HG:=I (Al HG.o hp0 HG.o.size (by have:=HPG.o;have:=HGD.o;omega));clear hp0)
  |(go_at_call 77;(with_reducible refine Calls.mono (T3.o gd _ HD.o HG.o.size (by have:=HGD.o;omega)) ?_);rintro e x3 ⟨rfl,hd,hg3⟩;clear T3;replace HD:=I hd;replace HR:=I (HR.o.grown hg3 (by intro e;injection e with e;have:=HGD.o;omega));replace HG:=I (Al HG.o hg3 HG.o.size (by have:=HGD.o;omega));replace HPB:=I (HPB.o.grown hg3 (by intro e;injection e with e;have:=HPG.o;omega));clear hd hg3;have kk:=DY HK32.o HPB.o;have k9:x3.cell? ⟨x1.heap.size,34,none⟩=some (.string ⟨([]:L).toArray⟩):=kk.2.2.1;have f0:=HPB.o.frozen 34;clear kk)
  |(go_at_call 78;have hp0:x3.grownBy (x3.setCell ⟨x1.heap.size,34,none⟩ (.string ⟨v3.toArray⟩)) (some x1.heap.size):=(Ay (World.grownBy.refl x3 (some x1.heap.size)) (p:=⟨x1.heap.size,34,none⟩) (.inl rfl) (.string ⟨v3.toArray⟩));replace HPB:=I (Us (x:=v3) HK32.o HPB.o);replace HD:=I (BP HD.o hp0 (by have:=HPG.o;omega) HG.o.size (by have:=HPG.o;have:=HGD.o;omega));replace HR:=I (HR.o.grown hp0 (by intro e;injection e with e;have:=HPG.o;have:=HGD.o;omega));replace HG:=I (Al HG.o hp0 HG.o.size (by have:=HPG.o;have:=HGD.o;omega));clear hp0;(try clear k9 f0);(try clear k8 f8);(with_reducible refine Calls.mono (T4.o gd _ HD.o HG.o.size (by have:=HGD.o;omega)) ?_);rintro e x4 ⟨rfl,hd,hg3⟩;clear T4;replace HD:=I hd;replace HR:=I (HR.o.grown hg3 (by intro e;injection e with e;have:=HGD.o;omega));replace HG:=I (Al HG.o hg3 HG.o.size (by have:=HGD.o;omega));replace HPB:=I (HPB.o.grown hg3 (by intro e;injection e with e;have:=HPG.o;omega));clear hd hg3;have kk:=DY HK32.o HPB.o;have k9:x4.cell? ⟨x1.heap.size,35,none⟩=some (.int .i64 0):=kk.2.2.2.1;have f0:=HPB.o.frozen 35;clear kk)
  |(go_at_call 78;have hp0:x4.grownBy (x4.setCell ⟨x1.heap.size,35,none⟩ (.int .i64 v4)) (some x1.heap.size):=(Ay (World.grownBy.refl x4 (some x1.heap.size)) (p:=⟨x1.heap.size,35,none⟩) (.inl rfl) (.int .i64 v4));replace HPB:=I (Ut (y:=v4) HK32.o HPB.o);replace HD:=I (BP HD.o hp0 (by have:=HPG.o;omega) HG.o.size (by have:=HPG.o;have:=HGD.o;omega));replace HR:=I (HR.o.grown hp0 (by intro e;injection e with e;have:=HPG.o;have:=HGD.o;omega));replace HG:=I (Al HG.o hp0 HG.o.size (by have:=HPG.o;have:=HGD.o;omega));clear hp0;(try clear k9 f0);(try clear k8 f8);(with_reducible refine Calls.mono (T5.o gd _ HD.o HG.o.size (by have:=HGD.o;omega)) ?_);rintro e x5 ⟨rfl,hd,hg3⟩;clear T5;replace HD:=I hd;replace HR:=I (HR.o.grown hg3 (by intro e;injection e with e;have:=HGD.o;omega));replace HG:=I (Al HG.o hg3 HG.o.size (by have:=HGD.o;omega));replace HPB:=I (HPB.o.grown hg3 (by intro e;injection e with e;have:=HPG.o;omega));clear hd hg3;have kk:=DY HK32.o HPB.o;have k9:x5.cell? ⟨x1.heap.size,36,none⟩=some (.int .i64 0):=kk.2.2.2.2;have f0:=HPB.o.frozen 36;clear kk)
  |fail)
 cases s5 with
 |none=>
  have hD:ptD b=none:=by
   cases hd:ptD b with
   |none=>rfl
   |some p=>exact absurd (OK.o p hd) (by simp)
  have GE:=I (show(ptC (ptG b)).toArray=zz by rw[ptG,hD];exact EZ0.o);have IE:=I (show ptI b=2 by rw[ptI,hD];rfl);clear ED OK hD;cases ho:ptO ⟨v1,v2,v3,v4,v5⟩ with
  |none=>
   rw[ho] at EN;clear ho
   go_wp2_with (first
    |(have hp0:x5.grownBy (x5.setCell ⟨x1.heap.size,36,none⟩ (.int .i64 v5)) (some x1.heap.size):=(Ay (World.grownBy.refl x5 (some x1.heap.size)) (p:=⟨x1.heap.size,36,none⟩) (.inl rfl) (.int .i64 v5));replace HPB:=I (GA (y:=v5) HK32.o HPB.o);replace HD:=I (BP HD.o hp0 (by have:=HPG.o;omega) HG.o.size (by have:=HPG.o;have:=HGD.o;omega));replace HR:=I (HR.o.grown hp0 (by intro e;injection e with e;have:=HPG.o;have:=HGD.o;omega));replace HG:=I (Al HG.o hp0 HG.o.size (by have:=HPG.o;have:=HGD.o;omega));clear hp0;(try clear k9 f0);(try clear k8 f8);replace HPB:=I (show Blk (x5.setCell ⟨x1.heap.size,36,none⟩ (.int .i64 v5)) x1.heap.size 71 cs from ECS.o▸HPB.o);refine Ae (by rfl) 71 (.tmp 6) (by rfl) x1.heap.size 0 (by rfl) cs _ (Ag HPB.o) Tryz.underlying71 (by rfl) HCI.o ?_;generalize x5.setCell ⟨x1.heap.size,36,none⟩ (.int .i64 v5)=V9 at HPB HD HR HG⊢;have HON:=I (show True from trivial))
    |(go_at_call 79;refine Calls.mono (EN.o _) ?_;rintro e we ⟨⟨v,i,rfl,hn,hsm⟩,hb⟩;obtain⟨rfl,rfl⟩:=hn rfl;clear EN;replace HPB:=I (HPB.o.below hb);replace HD:=I (BA HD.o hb HG.o.size);replace HR:=I (HR.o.below hb);replace HG:=HG.t hb;clear hb hn hsm;have kc:=Cy HD.o;have k7:we.cell? ⟨gd,1,none⟩=some (.bool true):=kc.1;clear kc)
    |(refine Az (by rfl) 71 #[] (by rfl) zz (by simp;exact HZB.o) ?_)
    |(refine wpList_store_mid (by rfl) 71 (.tmp 2) (.tmp 49) (by rfl) w.heap.size 0 zz (by rfl) (by rfl) (Ao HR.o _ (Nat.le_refl _)) HZI.o HZO.o ?_)
    |fail)
   have hE:=AK (ds:=zz) HR.o (by have:=HZS.o;have:=HCS.o;omega);have hp:=AV we w.heap.size zz.toList;have hq:=Ak (P:=Tryz.prog) hE Tryz.underlying71 rfl HZI.o;refine bodyPost_ret (v:=.tuple #[.agg zz,.int .i64 2]) ?_ ?_ ?_
   ·exact Ah (v:=.agg zz) 2 3 71 ⟨w.heap.size,0,none⟩ Tryz.results30 rfl hq rfl
   ·rfl
   exact⟨by rw[GE.o,IE.o],Al HG.o hp HG.o.size (Nat.le_refl _)⟩
  |some l=>
   rw[ho] at EN;clear ho
   go_wp2_with (first
    |(have hp0:x5.grownBy (x5.setCell ⟨x1.heap.size,36,none⟩ (.int .i64 v5)) (some x1.heap.size):=(Ay (World.grownBy.refl x5 (some x1.heap.size)) (p:=⟨x1.heap.size,36,none⟩) (.inl rfl) (.int .i64 v5));replace HPB:=I (GA (y:=v5) HK32.o HPB.o);replace HD:=I (BP HD.o hp0 (by have:=HPG.o;omega) HG.o.size (by have:=HPG.o;have:=HGD.o;omega));replace HR:=I (HR.o.grown hp0 (by intro e;injection e with e;have:=HPG.o;have:=HGD.o;omega));replace HG:=I (Al HG.o hp0 HG.o.size (by have:=HPG.o;have:=HGD.o;omega));clear hp0;(try clear k9 f0);(try clear k8 f8);replace HPB:=I (show Blk (x5.setCell ⟨x1.heap.size,36,none⟩ (.int .i64 v5)) x1.heap.size 71 cs from ECS.o▸HPB.o);refine Ae (by rfl) 71 (.tmp 6) (by rfl) x1.heap.size 0 (by rfl) cs _ (Ag HPB.o) Tryz.underlying71 (by rfl) HCI.o ?_;generalize x5.setCell ⟨x1.heap.size,36,none⟩ (.int .i64 v5)=V9 at HPB HD HR HG⊢;have HON:=I (show True from trivial))
    |(go_at_call 79;refine Calls.mono (EN.o _) ?_;rintro e we ⟨⟨v,i,rfl,hn,hsm⟩,hb⟩;obtain⟨rfl,gx,cx,rfl,hgx,hcx,hrx⟩:=hsm l rfl;clear EN;replace HPB:=I (HPB.o.below hb);replace HD:=I (BA HD.o hb HG.o.size);replace HR:=I (HR.o.below hb);replace HG:=HG.t hb;clear hb hn hsm;have kc:=Cy HD.o;have k7:we.cell? ⟨gd,1,none⟩=some (.bool true):=kc.1;clear kc)
    |(refine Az (by rfl) 71 #[] (by rfl) zz (by simp;exact HZB.o) ?_)
    |(refine wpList_store_mid (by rfl) 71 (.tmp 2) (.tmp 49) (by rfl) w.heap.size 0 zz (by rfl) (by rfl) (Ao HR.o _ (Nat.le_refl _)) HZI.o HZO.o ?_)
    |fail)
   have hE:=AK (ds:=zz) HR.o (by have:=HZS.o;have:=HCS.o;omega);have hp:=AV we w.heap.size zz.toList;have hq:=Ak (P:=Tryz.prog) hE Tryz.underlying71 rfl HZI.o;refine bodyPost_ret (v:=.tuple #[.agg zz,.int .i64 2]) ?_ ?_ ?_
   ·exact Ah (v:=.agg zz) 2 3 71 ⟨w.heap.size,0,none⟩ Tryz.results30 rfl hq rfl
   ·rfl
   exact⟨by rw[GE.o,IE.o],Al HG.o hp HG.o.size (Nat.le_refl _)⟩
 |some r5=>
  cases ho:ptO ⟨v1,v2,v3,v4,v5⟩ with
  |none=>
   rw[ho] at EN;have hD:ptD b=none:=by rw[ED.o,ho];rfl
   have GE:=I (show(ptC (ptG b)).toArray=zz by rw[ptG,hD];exact EZ0.o);have IE:=I (show ptI b=2 by rw[ptI,hD];rfl);clear ED OK hD ho
   go_wp2_with (first
    |(have hp0:x5.grownBy (x5.setCell ⟨x1.heap.size,36,none⟩ (.int .i64 v5)) (some x1.heap.size):=(Ay (World.grownBy.refl x5 (some x1.heap.size)) (p:=⟨x1.heap.size,36,none⟩) (.inl rfl) (.int .i64 v5));replace HPB:=I (GA (y:=v5) HK32.o HPB.o);replace HD:=I (BP HD.o hp0 (by have:=HPG.o;omega) HG.o.size (by have:=HPG.o;have:=HGD.o;omega));replace HR:=I (HR.o.grown hp0 (by intro e;injection e with e;have:=HPG.o;have:=HGD.o;omega));replace HG:=I (Al HG.o hp0 HG.o.size (by have:=HPG.o;have:=HGD.o;omega));clear hp0;(try clear k9 f0);(try clear k8 f8);replace HPB:=I (show Blk (x5.setCell ⟨x1.heap.size,36,none⟩ (.int .i64 v5)) x1.heap.size 71 cs from ECS.o▸HPB.o);refine Ae (by rfl) 71 (.tmp 6) (by rfl) x1.heap.size 0 (by rfl) cs _ (Ag HPB.o) Tryz.underlying71 (by rfl) HCI.o ?_;generalize x5.setCell ⟨x1.heap.size,36,none⟩ (.int .i64 v5)=V9 at HPB HD HR HG⊢;have HON:=I (show True from trivial))
    |(go_at_call 79;refine Calls.mono (EN.o _) ?_;rintro e we ⟨⟨v,i,rfl,hn,hsm⟩,hb⟩;obtain⟨rfl,rfl⟩:=hn rfl;clear EN;replace HPB:=I (HPB.o.below hb);replace HD:=I (BA HD.o hb HG.o.size);replace HR:=I (HR.o.below hb);replace HG:=HG.t hb;clear hb hn hsm;have kc:=Cy HD.o;have k7:we.cell? ⟨gd,1,none⟩=some (.bool false):=kc.1;clear kc)
    |(refine Az (by rfl) 71 #[] (by rfl) zz (by simp;exact HZB.o) ?_)
    |(refine wpList_store_mid (by rfl) 71 (.tmp 2) (.tmp 49) (by rfl) w.heap.size 0 zz (by rfl) (by rfl) (Ao HR.o _ (Nat.le_refl _)) HZI.o HZO.o ?_)
    |fail)
   have hE:=AK (ds:=zz) HR.o (by have:=HZS.o;have:=HCS.o;omega);have hp:=AV we w.heap.size zz.toList;have hq:=Ak (P:=Tryz.prog) hE Tryz.underlying71 rfl HZI.o;refine bodyPost_ret (v:=.tuple #[.agg zz,.int .i64 2]) ?_ ?_ ?_
   ·exact Ah (v:=.agg zz) 2 3 71 ⟨w.heap.size,0,none⟩ Tryz.results30 rfl hq rfl
   ·rfl
   exact⟨by rw[GE.o,IE.o],Al HG.o hp HG.o.size (Nat.le_refl _)⟩
  |some l=>
   rw[ho] at EN
   by_cases hlb:l=b
   ·have tb:(l==b)=true:=by simpa using hlb
    have tb2:(l != b)=false:=by simpa using hlb
    have hD:ptD b=some ⟨v1,v2,v3,v4,v5⟩:=by rw[ED.o,ho,if_pos (by rw[hlb])]
    have GE:=I (show(ptC (ptG b)).toArray=cs by rw[ptG,hD];exact ECS.o.symm);have IE:=I (show ptI b=0 by rw[ptI,hD];rfl);clear ED OK hD ho hlb
    go_wp2_with (first
     |(have hp0:x5.grownBy (x5.setCell ⟨x1.heap.size,36,none⟩ (.int .i64 v5)) (some x1.heap.size):=(Ay (World.grownBy.refl x5 (some x1.heap.size)) (p:=⟨x1.heap.size,36,none⟩) (.inl rfl) (.int .i64 v5));replace HPB:=I (GA (y:=v5) HK32.o HPB.o);replace HD:=I (BP HD.o hp0 (by have:=HPG.o;omega) HG.o.size (by have:=HPG.o;have:=HGD.o;omega));replace HR:=I (HR.o.grown hp0 (by intro e;injection e with e;have:=HPG.o;have:=HGD.o;omega));replace HG:=I (Al HG.o hp0 HG.o.size (by have:=HPG.o;have:=HGD.o;omega));clear hp0;(try clear k9 f0);(try clear k8 f8);replace HPB:=I (show Blk (x5.setCell ⟨x1.heap.size,36,none⟩ (.int .i64 v5)) x1.heap.size 71 cs from ECS.o▸HPB.o);refine Ae (by rfl) 71 (.tmp 6) (by rfl) x1.heap.size 0 (by rfl) cs _ (Ag HPB.o) Tryz.underlying71 (by rfl) HCI.o ?_;generalize x5.setCell ⟨x1.heap.size,36,none⟩ (.int .i64 v5)=V9 at HPB HD HR HG⊢;have HON:=I (show True from trivial))
     |(go_at_call 79;refine Calls.mono (EN.o _) ?_;rintro e we ⟨⟨v,i,rfl,hn,hsm⟩,hb⟩;obtain⟨rfl,gx,cx,rfl,hgx,hcx,hrx⟩:=hsm l rfl;clear EN;replace HPB:=I (HPB.o.below hb);replace HD:=I (BA HD.o hb HG.o.size);replace HR:=I (HR.o.below hb);replace HG:=HG.t hb;clear hb hn hsm;have kc:=Cy HD.o;have k7:we.cell? ⟨gd,1,none⟩=some (.bool false):=kc.1;clear kc;have hcv1:=AJ (P:=Tryz.prog) we 30 5 Tryz.underlying30 Tryz.underlying5 hrx l.length cx rfl 9 Tryz.underlying9;have hcv2:=AJ (P:=Tryz.prog) we 30 5 Tryz.underlying30 Tryz.underlying5 (HRD.o we HG.o) b.length c rfl 9 Tryz.underlying9)
     |(refine Ae (by rfl) 71 (.tmp 6) (by rfl) x1.heap.size 0 (by rfl) cs _ (by have:=HON.o;exact Ag HPB.o) Tryz.underlying71 (by rfl) HCI.o ?_)
     |(refine wpList_store_mid (by rfl) 71 (.tmp 2) (.tmp 50) (by rfl) w.heap.size 0 cs (by rfl) (by rfl) (Ao HR.o _ (by have:=HZS.o;have:=HCS.o;omega)) HCI.o HCO.o ?_)
     |fail)
    have hE:=AK (ds:=cs) HR.o (by have:=HZS.o;have:=HCS.o;omega);have hp:=AV we w.heap.size cs.toList;have hq:=Ak (P:=Tryz.prog) hE Tryz.underlying71 rfl HCI.o;refine bodyPost_ret (v:=.tuple #[.agg cs,.int .i64 0]) ?_ ?_ ?_
    ·exact Ah (v:=.agg cs) 2 3 71 ⟨w.heap.size,0,none⟩ Tryz.results30 rfl hq rfl
    ·rfl
    exact⟨by rw[GE.o,IE.o],Al HG.o hp HG.o.size (Nat.le_refl _)⟩
   ·have tb:(l==b)=false:=by simpa using hlb
    have tb2:(l != b)=true:=by simpa using hlb
    have hD:ptD b=none:=by rw[ED.o,ho,if_neg (fun h=>hlb (Option.some.inj h))]
    have GE:=I (show(ptC (ptG b)).toArray=zz by rw[ptG,hD];exact EZ0.o);have IE:=I (show ptI b=2 by rw[ptI,hD];rfl);clear ED OK hD ho hlb
    go_wp2_with (first
     |(have hp0:x5.grownBy (x5.setCell ⟨x1.heap.size,36,none⟩ (.int .i64 v5)) (some x1.heap.size):=(Ay (World.grownBy.refl x5 (some x1.heap.size)) (p:=⟨x1.heap.size,36,none⟩) (.inl rfl) (.int .i64 v5));replace HPB:=I (GA (y:=v5) HK32.o HPB.o);replace HD:=I (BP HD.o hp0 (by have:=HPG.o;omega) HG.o.size (by have:=HPG.o;have:=HGD.o;omega));replace HR:=I (HR.o.grown hp0 (by intro e;injection e with e;have:=HPG.o;have:=HGD.o;omega));replace HG:=I (Al HG.o hp0 HG.o.size (by have:=HPG.o;have:=HGD.o;omega));clear hp0;(try clear k9 f0);(try clear k8 f8);replace HPB:=I (show Blk (x5.setCell ⟨x1.heap.size,36,none⟩ (.int .i64 v5)) x1.heap.size 71 cs from ECS.o▸HPB.o);refine Ae (by rfl) 71 (.tmp 6) (by rfl) x1.heap.size 0 (by rfl) cs _ (Ag HPB.o) Tryz.underlying71 (by rfl) HCI.o ?_;generalize x5.setCell ⟨x1.heap.size,36,none⟩ (.int .i64 v5)=V9 at HPB HD HR HG⊢;have HON:=I (show True from trivial))
     |(go_at_call 79;refine Calls.mono (EN.o _) ?_;rintro e we ⟨⟨v,i,rfl,hn,hsm⟩,hb⟩;obtain⟨rfl,gx,cx,rfl,hgx,hcx,hrx⟩:=hsm l rfl;clear EN;replace HPB:=I (HPB.o.below hb);replace HD:=I (BA HD.o hb HG.o.size);replace HR:=I (HR.o.below hb);replace HG:=HG.t hb;clear hb hn hsm;have kc:=Cy HD.o;have k7:we.cell? ⟨gd,1,none⟩=some (.bool false):=kc.1;clear kc;have hcv1:=AJ (P:=Tryz.prog) we 30 5 Tryz.underlying30 Tryz.underlying5 hrx l.length cx rfl 9 Tryz.underlying9;have hcv2:=AJ (P:=Tryz.prog) we 30 5 Tryz.underlying30 Tryz.underlying5 (HRD.o we HG.o) b.length c rfl 9 Tryz.underlying9)
     |(refine Az (by rfl) 71 #[] (by rfl) zz (by simp;exact HZB.o) ?_)
     |(refine wpList_store_mid (by rfl) 71 (.tmp 2) (.tmp 49) (by rfl) w.heap.size 0 zz (by rfl) (by rfl) (Ao HR.o _ (Nat.le_refl _)) HZI.o HZO.o ?_)
     |fail)
    have hE:=AK (ds:=zz) HR.o (by have:=HZS.o;have:=HCS.o;omega);have hp:=AV we w.heap.size zz.toList;have hq:=Ak (P:=Tryz.prog) hE Tryz.underlying71 rfl HZI.o;refine bodyPost_ret (v:=.tuple #[.agg zz,.int .i64 2]) ?_ ?_ ?_
    ·exact Ah (v:=.agg zz) 2 3 71 ⟨w.heap.size,0,none⟩ Tryz.results30 rfl hq rfl
    ·rfl
    exact⟨by rw[GE.o,IE.o],Al HG.o hp HG.o.size (Nat.le_refl _)⟩
end Mc
end
section
namespace Mc
open Go.RowKit Af DerP DerR Ms
theorem MS (b:L) (A:Option Addr) (c:Nat) (w:World) (hr:Rd w w.heap.size A (bvs b)) (hc:b.length≤c) (hl:b.length≤3000) :
  Calls Tryz.prog 31 #[.slice A b.length c] w fun e w'=>e = .returned (.tuple #[.agg (rpC (rpG b)).toArray,.int .i64 (rpI b)])∧Below w.heap.size w w':=by
 obtain⟨zz,ezz⟩:∃z:Array Value,z=#[.int .u8 0,.int .u8 0,.int .u8 0,.int .u8 0,.int .u8 0,.int .u8 0,.int .u8 0,.int .u8 0,.int .u8 0,.int .u8 0,.int .u8 0,.int .u8 0,.int .u8 0,.int .u8 0,.int .u8 0,.int .u8 0,.int .u8 0,.int .u8 0,.int .u8 0,.int .u8 0,.int .u8 0,.int .u8 0,.int .u8 0,.int .u8 0,.int .u8 0,.int .u8 0,.int .u8 0,.int .u8 0,.int .u8 0,.int .u8 0,.int .u8 0,.int .u8 0,.string ⟨#[]⟩,.string ⟨#[]⟩,.int .i64 0,.int .i64 0,.int .i64 0]:=⟨_,rfl⟩;have ez0:(rpC rp0).toArray=zz:=by rw[ezz];rfl
 have hzs:zz.size=37:=by rw[ezz];simp
 have HZS:=I hzs;have HZO:=I (show zz.all (·.oneCell')=true by rw[←ez0];exact MN _ _ _ _ _);have HZI:=I (show(Tryz.prog.info? 75).map (·.size)=some zz.size by rw[hzs];kernel_rfl);have HZB:=I (show Tryz.prog.built 75 []=some zz by rw[←ez0];exact SJ);obtain⟨W,eW⟩:∃W,W=(w.alloc (.cells zz 75)).alloc (.cells #[.slice A b.length c,.bool false] 175):=⟨_,rfl⟩;have hWs:W.heap.size=w.heap.size+1+1:=by rw[eW];simp
 have hbW:Below w.heap.size w W:=by rw[eW];exact((Below.refl _ _).alloc (Nat.le_refl _) _).alloc (by simp) _
 have hcu:=Blk.new (w.alloc (.cells zz 75)) 175 #[.slice A b.length c,.bool false];rw[show(w.alloc (.cells zz 75)).heap.size=w.heap.size+1 by simp,←eW] at hcu;have HC:=I (show RC W w.heap.size (w.heap.size+1) (some b) from⟨A,b.length,c,false,hcu,rfl,rfl,hc,hr.below hbW⟩);have HG:=I hbW;have HR:=I (show Blk W w.heap.size 75 zz by rw[eW];exact(Blk.new _ _ _).alloc _);have HWS:=I hWs;have HRD:=I (fun w1 (h:Below w.heap.size w w1)=>hr.below h);have hs0:((AF 122 (some b)).getD []).length≤100000:=UX 122 (show((some b:Option L).getD []).length≤100000 by show b.length≤100000;omega);have c1:=I (fun w1 h h1=>IX 122 w.heap.size (w.heap.size+1) (some b) w1 h h1 (by omega) (by show b.length≤100000;omega));have EP:=I (show rpP b=_ from rfl);obtain⟨s0,es0⟩:∃s,s=AF 122 (some b):=⟨_,rfl⟩;rw[←es0] at c1 hs0;have hs1:(((keP s0).2).getD []).length≤100000:=Of hs0;have T1:=I (fun g w1 h h1 h2=>Oe w.heap.size g s0 w1 h h1 h2 hs0);have hk:=Nr s0;obtain⟨v1,ev1⟩:∃x:L,x=(keP s0).1:=⟨_,rfl⟩;obtain⟨s1,es1⟩:∃s,s=(keP s0).2:=⟨_,rfl⟩;rw[←ev1,←es1] at T1;rw[←es1] at hs1;rw[←ev1] at hk;have hs2:(((prP s1).2).getD []).length≤100000:=Og hs1;have T2:=I (fun g w1 h h1 h2=>Hi w.heap.size g s1 w1 h h1 h2 hs1);have hsm:=Vf hs1;obtain⟨v2,ev2⟩:∃x:Pr,x=(prP s1).1:=⟨_,rfl⟩;obtain⟨s2,es2⟩:∃s,s=(prP s1).2:=⟨_,rfl⟩;rw[←ev2,←es2] at T2;rw[←es2] at hs2;rw[←ev2] at hsm;have hs3:(((intC s2).2).getD []).length≤100000:=Lt hs2;have T3:=I (fun g w1 h h1 h2=>Gx w.heap.size g s2 w1 h h1 h2 hs2);unfold Ints at T3;obtain⟨v3,ev3⟩:∃x:Int,x=((intC s2).1:Int):=⟨_,rfl⟩;obtain⟨s3,es3⟩:∃s,s=(intC s2).2:=⟨_,rfl⟩;rw[←ev3,←es3] at T3;rw[←es3] at hs3;have hs4:(((intC s3).2).getD []).length≤100000:=Lt hs3;have T4:=I (fun g w1 h h1 h2=>Gx w.heap.size g s3 w1 h h1 h2 hs3);unfold Ints at T4;obtain⟨v4,ev4⟩:∃x:Int,x=((intC s3).1:Int):=⟨_,rfl⟩;obtain⟨s4,es4⟩:∃s,s=(intC s3).2:=⟨_,rfl⟩;rw[←ev4,←es4] at T4;rw[←es4] at hs4;have hs5:(((intC s4).2).getD []).length≤100000:=Lt hs4;have T5:=I (fun g w1 h h1 h2=>Gx w.heap.size g s4 w1 h h1 h2 hs4);unfold Ints at T5;obtain⟨v5,ev5⟩:∃x:Int,x=((intC s4).1:Int):=⟨_,rfl⟩;obtain⟨s5,es5⟩:∃s,s=(intC s4).2:=⟨_,rfl⟩;rw[←ev5,←es5] at T5;rw[←es5] at hs5;have FV:rpP b=(⟨v1,v2,v3,v4,v5⟩,s5):=by rw[ev1,ev2,ev3,ev4,ev5,es5,es4,es3,es2,es1,es0];rfl
 have ED:=I (show rpD b=if rpO (rpP b).1=some b then some (rpP b).1 else none from rfl);rw[FV] at ED;have OK:=I (fun p (h:rpD b=some p)=>(congrArg Prod.snd ((rp_ok h).2.symm.trans FV):some []=s5));have EN:=I (fun w1=>Mp ⟨v1,v2,v3,v4,v5⟩ w1 hk hsm);have HBT:=I (SI v1 hk);have HKS:=I (show(bvs v1).toArray.size=32 by simp [Aj];exact hk);have HKO:=I (bvs_one' v1);have HKI:=I (show(Tryz.prog.info? 47).map (·.size)=some (bvs v1).toArray.size by rw[HKS.o];exact Cr);have HK32:=I hk;have HCS:=I (show(rpC ⟨v1,v2,v3,v4,v5⟩).toArray.size=37 from FO hk);have HCI:=I (show(Tryz.prog.info? 75).map (·.size)=some (rpC ⟨v1,v2,v3,v4,v5⟩).toArray.size by rw[HCS.o];kernel_rfl);have HCO:=I (show(rpC ⟨v1,v2,v3,v4,v5⟩).toArray.all (·.oneCell')=true from MN _ _ _ _ _);have HFS:=I (show(rpC ⟨v1,pr0,0,0,0⟩).toArray.size=37 from FO hk);have HFI:=I (show(Tryz.prog.info? 75).map (·.size)=some (rpC ⟨v1,pr0,0,0,0⟩).toArray.size by rw[HFS.o];kernel_rfl);have HFO:=I (show(rpC ⟨v1,pr0,0,0,0⟩).toArray.all (·.oneCell')=true from MN _ _ _ _ _);obtain⟨ks,eks⟩:∃ks,ks=(bvs v1).toArray:=⟨_,rfl⟩;rw[←eks] at HKS HKO HKI T1 HBT;obtain⟨c0,ec0⟩:∃c0,c0=(rpC ⟨v1,pr0,0,0,0⟩).toArray:=⟨_,rfl⟩;rw[←ec0] at HFS HFI HFO HBT;obtain⟨cs,ecs⟩:∃cs,cs=(rpC ⟨v1,v2,v3,v4,v5⟩).toArray:=⟨_,rfl⟩;rw[←ecs] at HCS HCI HCO EN;have EK:=I eks;have EC0:=I ec0;have ECS:=I ecs;have EZ0:=I ez0;clear hr hc hl hzs hWs hbW hcu hk hsm ez0 eks ec0 ecs FV EP es0 hs0 hs1 hs2 hs3 hs4 hs5 ev1 es1 ev2 es2 ev3 es3 ev4 es4 ev5 es5;go_enter Tryz.func31,Tryz.ntmps31
 go_upto_region 2 with fail
 rw[←ezz,←eW];clear ezz eW
 go_upto_region 8 with(first
  |(go_at_call 74;refine Calls.mono (c1.o _ HC.o HG.o.size) ?_;rintro e w2 ⟨⟨gd,rfl,hgd,hd⟩,hc2,hg2⟩;clear c1 HC;have HD:=I hd;have HGD:=I (show w.heap.size+2≤gd by have:=HWS.o;omega);replace HR:=I (HR.o.grown hg2 (by intro e;injection e with e;omega));replace HG:=I (Al HG.o hg2 HG.o.size (by omega));have HDL:=I (Ls hd);clear hgd hd hc2 hg2)
  |(go_at_call 76;(with_reducible refine Calls.mono (T1.o gd _ HD.o HG.o.size (by have:=HGD.o;omega)) ?_);rintro e x1 ⟨rfl,hd,hg3⟩;clear T1;replace HD:=I hd;replace HR:=I (HR.o.grown hg3 (by intro e;injection e with e;have:=HGD.o;omega));replace HG:=I (Al HG.o hg3 HG.o.size (by have:=HGD.o;omega));have HDL2:=I (Ls hd);clear hd hg3)
  |(refine Az (by rfl) 75 #[(0,.tmp 15)] (by rfl) c0 (by simp only[List.map_toArray,List.map_cons,List.map_nil];exact HBT.o) ?_)
  |(refine wpList_store_mid (by rfl) 75 (.tmp 6) (.tmp 16) (by rfl) x1.heap.size 0 c0 (by rfl) (by rfl) (Ao (Blk.new x1 75 #[.int .u8 0,.int .u8 0,.int .u8 0,.int .u8 0,.int .u8 0,.int .u8 0,.int .u8 0,.int .u8 0,.int .u8 0,.int .u8 0,.int .u8 0,.int .u8 0,.int .u8 0,.int .u8 0,.int .u8 0,.int .u8 0,.int .u8 0,.int .u8 0,.int .u8 0,.int .u8 0,.int .u8 0,.int .u8 0,.int .u8 0,.int .u8 0,.int .u8 0,.int .u8 0,.int .u8 0,.int .u8 0,.int .u8 0,.int .u8 0,.int .u8 0,.int .u8 0,.string ⟨#[]⟩,.string ⟨#[]⟩,.int .i64 0,.int .i64 0,.int .i64 0]) _ (by have:=HFS.o;simp;omega)) HFI.o HFO.o ?_;have hV:=By x1 75 #[.int .u8 0,.int .u8 0,.int .u8 0,.int .u8 0,.int .u8 0,.int .u8 0,.int .u8 0,.int .u8 0,.int .u8 0,.int .u8 0,.int .u8 0,.int .u8 0,.int .u8 0,.int .u8 0,.int .u8 0,.int .u8 0,.int .u8 0,.int .u8 0,.int .u8 0,.int .u8 0,.int .u8 0,.int .u8 0,.int .u8 0,.int .u8 0,.int .u8 0,.int .u8 0,.int .u8 0,.int .u8 0,.int .u8 0,.int .u8 0,.int .u8 0,.int .u8 0,.string ⟨#[]⟩,.string ⟨#[]⟩,.int .i64 0,.int .i64 0,.int .i64 0] c0 (by have:=HFS.o;simp;omega);generalize ((x1.alloc (.cells #[.int .u8 0,.int .u8 0,.int .u8 0,.int .u8 0,.int .u8 0,.int .u8 0,.int .u8 0,.int .u8 0,.int .u8 0,.int .u8 0,.int .u8 0,.int .u8 0,.int .u8 0,.int .u8 0,.int .u8 0,.int .u8 0,.int .u8 0,.int .u8 0,.int .u8 0,.int .u8 0,.int .u8 0,.int .u8 0,.int .u8 0,.int .u8 0,.int .u8 0,.int .u8 0,.int .u8 0,.int .u8 0,.int .u8 0,.int .u8 0,.int .u8 0,.int .u8 0,.string ⟨#[]⟩,.string ⟨#[]⟩,.int .i64 0,.int .i64 0,.int .i64 0] 75)).setCells x1.heap.size 0 c0.toList)=V at hV⊢;have HPB:=I (show Blk V x1.heap.size 75 (rpC ⟨v1,pr0,0,0,0⟩).toArray from EC0.o▸hV.1);have HPG:=I HDL2.o;replace HD:=I (BA HD.o hV.2 HG.o.size);replace HR:=I (HR.o.below hV.2);replace HG:=I (HG.o.trans (hV.2.mono HG.o.size));clear hV HDL HDL2)
  |(go_at_call 75;(with_reducible refine Calls.mono (T2.o gd _ HD.o HG.o.size (by have:=HGD.o;omega)) ?_);rintro e x2 ⟨rfl,hd,hg3⟩;clear T2;replace HD:=I hd;replace HR:=I (HR.o.grown hg3 (by intro e;injection e with e;have:=HGD.o;omega));replace HG:=I (Al HG.o hg3 HG.o.size (by have:=HGD.o;omega));replace HPB:=I (HPB.o.grown hg3 (by intro e;injection e with e;have:=HPG.o;omega));clear hd hg3;have kk:=Dl HK32.o HPB.o;have k9:x2.cell? ⟨x1.heap.size,32,none⟩=some (.string ⟨([]:L).toArray⟩):=kk.1;have f0:=HPB.o.frozen 32;have k8:x2.cell? ⟨x1.heap.size,33,none⟩=some (.string ⟨([]:L).toArray⟩):=kk.2.1;have f8:=HPB.o.frozen 33;clear kk)
  |(go_at_call 78;have hp0:x2.grownBy ((x2.setCell ⟨x1.heap.size,32,none⟩ (.string ⟨v2.1.toArray⟩)).setCell ⟨x1.heap.size,33,none⟩ (.string ⟨v2.2.toArray⟩)) (some x1.heap.size):=(Ay (Ay (World.grownBy.refl x2 (some x1.heap.size)) (p:=⟨x1.heap.size,32,none⟩) (.inl rfl) (.string ⟨v2.1.toArray⟩)) (p:=⟨x1.heap.size,33,none⟩) (.inl rfl) (.string ⟨v2.2.toArray⟩));replace HPB:=I (Uu (p:=v2) HK32.o HPB.o);replace HD:=I (BP HD.o hp0 (by have:=HPG.o;omega) HG.o.size (by have:=HPG.o;have:=HGD.o;omega));replace HR:=I (HR.o.grown hp0 (by intro e;injection e with e;have:=HPG.o;have:=HGD.o;omega));replace HG:=I (Al HG.o hp0 HG.o.size (by have:=HPG.o;have:=HGD.o;omega));clear hp0;(try clear k9 f0);(try clear k8 f8);(with_reducible refine Calls.mono (T3.o gd _ HD.o HG.o.size (by have:=HGD.o;omega)) ?_);rintro e x3 ⟨rfl,hd,hg3⟩;clear T3;replace HD:=I hd;replace HR:=I (HR.o.grown hg3 (by intro e;injection e with e;have:=HGD.o;omega));replace HG:=I (Al HG.o hg3 HG.o.size (by have:=HGD.o;omega));replace HPB:=I (HPB.o.grown hg3 (by intro e;injection e with e;have:=HPG.o;omega));clear hd hg3;have kk:=Dl HK32.o HPB.o;have k9:x3.cell? ⟨x1.heap.size,34,none⟩=some (.int .i64 0):=kk.2.2.1;have f0:=HPB.o.frozen 34;clear kk)
  |(go_at_call 78;have hp0:x3.grownBy (x3.setCell ⟨x1.heap.size,34,none⟩ (.int .i64 v3)) (some x1.heap.size):=(Ay (World.grownBy.refl x3 (some x1.heap.size)) (p:=⟨x1.heap.size,34,none⟩) (.inl rfl) (.int .i64 v3));replace HPB:=I (Uv (y:=v3) HK32.o HPB.o);replace HD:=I (BP HD.o hp0 (by have:=HPG.o;omega) HG.o.size (by have:=HPG.o;have:=HGD.o;omega));replace HR:=I (HR.o.grown hp0 (by intro e;injection e with e;have:=HPG.o;have:=HGD.o;omega));replace HG:=I (Al HG.o hp0 HG.o.size (by have:=HPG.o;have:=HGD.o;omega));clear hp0;(try clear k9 f0);(try clear k8 f8);(with_reducible refine Calls.mono (T4.o gd _ HD.o HG.o.size (by have:=HGD.o;omega)) ?_);rintro e x4 ⟨rfl,hd,hg3⟩;clear T4;replace HD:=I hd;replace HR:=I (HR.o.grown hg3 (by intro e;injection e with e;have:=HGD.o;omega));replace HG:=I (Al HG.o hg3 HG.o.size (by have:=HGD.o;omega));replace HPB:=I (HPB.o.grown hg3 (by intro e;injection e with e;have:=HPG.o;omega));clear hd hg3;have kk:=Dl HK32.o HPB.o;have k9:x4.cell? ⟨x1.heap.size,35,none⟩=some (.int .i64 0):=kk.2.2.2.1;have f0:=HPB.o.frozen 35;clear kk)
  |(go_at_call 78;have hp0:x4.grownBy (x4.setCell ⟨x1.heap.size,35,none⟩ (.int .i64 v4)) (some x1.heap.size):=(Ay (World.grownBy.refl x4 (some x1.heap.size)) (p:=⟨x1.heap.size,35,none⟩) (.inl rfl) (.int .i64 v4));replace HPB:=I (Uw (y:=v4) HK32.o HPB.o);replace HD:=I (BP HD.o hp0 (by have:=HPG.o;omega) HG.o.size (by have:=HPG.o;have:=HGD.o;omega));replace HR:=I (HR.o.grown hp0 (by intro e;injection e with e;have:=HPG.o;have:=HGD.o;omega));replace HG:=I (Al HG.o hp0 HG.o.size (by have:=HPG.o;have:=HGD.o;omega));clear hp0;(try clear k9 f0);(try clear k8 f8);(with_reducible refine Calls.mono (T5.o gd _ HD.o HG.o.size (by have:=HGD.o;omega)) ?_);rintro e x5 ⟨rfl,hd,hg3⟩;clear T5;replace HD:=I hd;replace HR:=I (HR.o.grown hg3 (by intro e;injection e with e;have:=HGD.o;omega));replace HG:=I (Al HG.o hg3 HG.o.size (by have:=HGD.o;omega));replace HPB:=I (HPB.o.grown hg3 (by intro e;injection e with e;have:=HPG.o;omega));clear hd hg3;have kk:=Dl HK32.o HPB.o;have k9:x5.cell? ⟨x1.heap.size,36,none⟩=some (.int .i64 0):=kk.2.2.2.2;have f0:=HPB.o.frozen 36;clear kk)
  |fail)
 cases s5 with
 |none=>
  have hD:rpD b=none:=by
   cases hd:rpD b with
   |none=>rfl
   |some p=>exact absurd (OK.o p hd) (by simp)
  have GE:=I (show(rpC (rpG b)).toArray=zz by rw[rpG,hD];exact EZ0.o);have IE:=I (show rpI b=2 by rw[rpI,hD];rfl);clear ED OK hD;cases ho:rpO ⟨v1,v2,v3,v4,v5⟩ with
  |none=>
   rw[ho] at EN;clear ho
   go_wp2_with (first
    |(have hp0:x5.grownBy (x5.setCell ⟨x1.heap.size,36,none⟩ (.int .i64 v5)) (some x1.heap.size):=(Ay (World.grownBy.refl x5 (some x1.heap.size)) (p:=⟨x1.heap.size,36,none⟩) (.inl rfl) (.int .i64 v5));replace HPB:=I (GB (y:=v5) HK32.o HPB.o);replace HD:=I (BP HD.o hp0 (by have:=HPG.o;omega) HG.o.size (by have:=HPG.o;have:=HGD.o;omega));replace HR:=I (HR.o.grown hp0 (by intro e;injection e with e;have:=HPG.o;have:=HGD.o;omega));replace HG:=I (Al HG.o hp0 HG.o.size (by have:=HPG.o;have:=HGD.o;omega));clear hp0;(try clear k9 f0);(try clear k8 f8);replace HPB:=I (show Blk (x5.setCell ⟨x1.heap.size,36,none⟩ (.int .i64 v5)) x1.heap.size 75 cs from ECS.o▸HPB.o);refine Ae (by rfl) 75 (.tmp 6) (by rfl) x1.heap.size 0 (by rfl) cs _ (Ag HPB.o) Tryz.underlying75 (by rfl) HCI.o ?_;generalize x5.setCell ⟨x1.heap.size,36,none⟩ (.int .i64 v5)=V9 at HPB HD HR HG⊢;have HON:=I (show True from trivial))
    |(go_at_call 80;refine Calls.mono (EN.o _) ?_;rintro e we ⟨⟨v,i,rfl,hn,hsm⟩,hb⟩;obtain⟨rfl,rfl⟩:=hn rfl;clear EN;replace HPB:=I (HPB.o.below hb);replace HD:=I (BA HD.o hb HG.o.size);replace HR:=I (HR.o.below hb);replace HG:=HG.t hb;clear hb hn hsm;have kc:=Cy HD.o;have k7:we.cell? ⟨gd,1,none⟩=some (.bool true):=kc.1;clear kc)
    |(refine Az (by rfl) 75 #[] (by rfl) zz (by simp;exact HZB.o) ?_)
    |(refine wpList_store_mid (by rfl) 75 (.tmp 2) (.tmp 49) (by rfl) w.heap.size 0 zz (by rfl) (by rfl) (Ao HR.o _ (Nat.le_refl _)) HZI.o HZO.o ?_)
    |fail)
   have hE:=AK (ds:=zz) HR.o (by have:=HZS.o;have:=HCS.o;omega);have hp:=AV we w.heap.size zz.toList;have hq:=Ak (P:=Tryz.prog) hE Tryz.underlying75 rfl HZI.o;refine bodyPost_ret (v:=.tuple #[.agg zz,.int .i64 2]) ?_ ?_ ?_
   ·exact Ah (v:=.agg zz) 2 3 75 ⟨w.heap.size,0,none⟩ Tryz.results31 rfl hq rfl
   ·rfl
   exact⟨by rw[GE.o,IE.o],Al HG.o hp HG.o.size (Nat.le_refl _)⟩
  |some l=>
   rw[ho] at EN;clear ho
   go_wp2_with (first
    |(have hp0:x5.grownBy (x5.setCell ⟨x1.heap.size,36,none⟩ (.int .i64 v5)) (some x1.heap.size):=(Ay (World.grownBy.refl x5 (some x1.heap.size)) (p:=⟨x1.heap.size,36,none⟩) (.inl rfl) (.int .i64 v5));replace HPB:=I (GB (y:=v5) HK32.o HPB.o);replace HD:=I (BP HD.o hp0 (by have:=HPG.o;omega) HG.o.size (by have:=HPG.o;have:=HGD.o;omega));replace HR:=I (HR.o.grown hp0 (by intro e;injection e with e;have:=HPG.o;have:=HGD.o;omega));replace HG:=I (Al HG.o hp0 HG.o.size (by have:=HPG.o;have:=HGD.o;omega));clear hp0;(try clear k9 f0);(try clear k8 f8);replace HPB:=I (show Blk (x5.setCell ⟨x1.heap.size,36,none⟩ (.int .i64 v5)) x1.heap.size 75 cs from ECS.o▸HPB.o);refine Ae (by rfl) 75 (.tmp 6) (by rfl) x1.heap.size 0 (by rfl) cs _ (Ag HPB.o) Tryz.underlying75 (by rfl) HCI.o ?_;generalize x5.setCell ⟨x1.heap.size,36,none⟩ (.int .i64 v5)=V9 at HPB HD HR HG⊢;have HON:=I (show True from trivial))
    |(go_at_call 80;refine Calls.mono (EN.o _) ?_;rintro e we ⟨⟨v,i,rfl,hn,hsm⟩,hb⟩;obtain⟨rfl,gx,cx,rfl,hgx,hcx,hrx⟩:=hsm l rfl;clear EN;replace HPB:=I (HPB.o.below hb);replace HD:=I (BA HD.o hb HG.o.size);replace HR:=I (HR.o.below hb);replace HG:=HG.t hb;clear hb hn hsm;have kc:=Cy HD.o;have k7:we.cell? ⟨gd,1,none⟩=some (.bool true):=kc.1;clear kc)
    |(refine Az (by rfl) 75 #[] (by rfl) zz (by simp;exact HZB.o) ?_)
    |(refine wpList_store_mid (by rfl) 75 (.tmp 2) (.tmp 49) (by rfl) w.heap.size 0 zz (by rfl) (by rfl) (Ao HR.o _ (Nat.le_refl _)) HZI.o HZO.o ?_)
    |fail)
   have hE:=AK (ds:=zz) HR.o (by have:=HZS.o;have:=HCS.o;omega);have hp:=AV we w.heap.size zz.toList;have hq:=Ak (P:=Tryz.prog) hE Tryz.underlying75 rfl HZI.o;refine bodyPost_ret (v:=.tuple #[.agg zz,.int .i64 2]) ?_ ?_ ?_
   ·exact Ah (v:=.agg zz) 2 3 75 ⟨w.heap.size,0,none⟩ Tryz.results31 rfl hq rfl
   ·rfl
   exact⟨by rw[GE.o,IE.o],Al HG.o hp HG.o.size (Nat.le_refl _)⟩
 |some r5=>
  cases ho:rpO ⟨v1,v2,v3,v4,v5⟩ with
  |none=>
   rw[ho] at EN;have hD:rpD b=none:=by rw[ED.o,ho];rfl
   have GE:=I (show(rpC (rpG b)).toArray=zz by rw[rpG,hD];exact EZ0.o);have IE:=I (show rpI b=2 by rw[rpI,hD];rfl);clear ED OK hD ho
   go_wp2_with (first
    |(have hp0:x5.grownBy (x5.setCell ⟨x1.heap.size,36,none⟩ (.int .i64 v5)) (some x1.heap.size):=(Ay (World.grownBy.refl x5 (some x1.heap.size)) (p:=⟨x1.heap.size,36,none⟩) (.inl rfl) (.int .i64 v5));replace HPB:=I (GB (y:=v5) HK32.o HPB.o);replace HD:=I (BP HD.o hp0 (by have:=HPG.o;omega) HG.o.size (by have:=HPG.o;have:=HGD.o;omega));replace HR:=I (HR.o.grown hp0 (by intro e;injection e with e;have:=HPG.o;have:=HGD.o;omega));replace HG:=I (Al HG.o hp0 HG.o.size (by have:=HPG.o;have:=HGD.o;omega));clear hp0;(try clear k9 f0);(try clear k8 f8);replace HPB:=I (show Blk (x5.setCell ⟨x1.heap.size,36,none⟩ (.int .i64 v5)) x1.heap.size 75 cs from ECS.o▸HPB.o);refine Ae (by rfl) 75 (.tmp 6) (by rfl) x1.heap.size 0 (by rfl) cs _ (Ag HPB.o) Tryz.underlying75 (by rfl) HCI.o ?_;generalize x5.setCell ⟨x1.heap.size,36,none⟩ (.int .i64 v5)=V9 at HPB HD HR HG⊢;have HON:=I (show True from trivial))
    |(go_at_call 80;refine Calls.mono (EN.o _) ?_;rintro e we ⟨⟨v,i,rfl,hn,hsm⟩,hb⟩;obtain⟨rfl,rfl⟩:=hn rfl;clear EN;replace HPB:=I (HPB.o.below hb);replace HD:=I (BA HD.o hb HG.o.size);replace HR:=I (HR.o.below hb);replace HG:=HG.t hb;clear hb hn hsm;have kc:=Cy HD.o;have k7:we.cell? ⟨gd,1,none⟩=some (.bool false):=kc.1;clear kc)
    |(refine Az (by rfl) 75 #[] (by rfl) zz (by simp;exact HZB.o) ?_)
    |(refine wpList_store_mid (by rfl) 75 (.tmp 2) (.tmp 49) (by rfl) w.heap.size 0 zz (by rfl) (by rfl) (Ao HR.o _ (Nat.le_refl _)) HZI.o HZO.o ?_)
    |fail)
   have hE:=AK (ds:=zz) HR.o (by have:=HZS.o;have:=HCS.o;omega);have hp:=AV we w.heap.size zz.toList;have hq:=Ak (P:=Tryz.prog) hE Tryz.underlying75 rfl HZI.o;refine bodyPost_ret (v:=.tuple #[.agg zz,.int .i64 2]) ?_ ?_ ?_
   ·exact Ah (v:=.agg zz) 2 3 75 ⟨w.heap.size,0,none⟩ Tryz.results31 rfl hq rfl
   ·rfl
   exact⟨by rw[GE.o,IE.o],Al HG.o hp HG.o.size (Nat.le_refl _)⟩
  |some l=>
   rw[ho] at EN
   by_cases hlb:l=b
   ·have tb:(l==b)=true:=by simpa using hlb
    have tb2:(l != b)=false:=by simpa using hlb
    have hD:rpD b=some ⟨v1,v2,v3,v4,v5⟩:=by rw[ED.o,ho,if_pos (by rw[hlb])]
    have GE:=I (show(rpC (rpG b)).toArray=cs by rw[rpG,hD];exact ECS.o.symm);have IE:=I (show rpI b=0 by rw[rpI,hD];rfl);clear ED OK hD ho hlb
    go_wp2_with (first
     |(have hp0:x5.grownBy (x5.setCell ⟨x1.heap.size,36,none⟩ (.int .i64 v5)) (some x1.heap.size):=(Ay (World.grownBy.refl x5 (some x1.heap.size)) (p:=⟨x1.heap.size,36,none⟩) (.inl rfl) (.int .i64 v5));replace HPB:=I (GB (y:=v5) HK32.o HPB.o);replace HD:=I (BP HD.o hp0 (by have:=HPG.o;omega) HG.o.size (by have:=HPG.o;have:=HGD.o;omega));replace HR:=I (HR.o.grown hp0 (by intro e;injection e with e;have:=HPG.o;have:=HGD.o;omega));replace HG:=I (Al HG.o hp0 HG.o.size (by have:=HPG.o;have:=HGD.o;omega));clear hp0;(try clear k9 f0);(try clear k8 f8);replace HPB:=I (show Blk (x5.setCell ⟨x1.heap.size,36,none⟩ (.int .i64 v5)) x1.heap.size 75 cs from ECS.o▸HPB.o);refine Ae (by rfl) 75 (.tmp 6) (by rfl) x1.heap.size 0 (by rfl) cs _ (Ag HPB.o) Tryz.underlying75 (by rfl) HCI.o ?_;generalize x5.setCell ⟨x1.heap.size,36,none⟩ (.int .i64 v5)=V9 at HPB HD HR HG⊢;have HON:=I (show True from trivial))
     |(go_at_call 80;refine Calls.mono (EN.o _) ?_;rintro e we ⟨⟨v,i,rfl,hn,hsm⟩,hb⟩;obtain⟨rfl,gx,cx,rfl,hgx,hcx,hrx⟩:=hsm l rfl;clear EN;replace HPB:=I (HPB.o.below hb);replace HD:=I (BA HD.o hb HG.o.size);replace HR:=I (HR.o.below hb);replace HG:=HG.t hb;clear hb hn hsm;have kc:=Cy HD.o;have k7:we.cell? ⟨gd,1,none⟩=some (.bool false):=kc.1;clear kc;have hcv1:=AJ (P:=Tryz.prog) we 30 5 Tryz.underlying30 Tryz.underlying5 hrx l.length cx rfl 9 Tryz.underlying9;have hcv2:=AJ (P:=Tryz.prog) we 30 5 Tryz.underlying30 Tryz.underlying5 (HRD.o we HG.o) b.length c rfl 9 Tryz.underlying9)
     |(refine Ae (by rfl) 75 (.tmp 6) (by rfl) x1.heap.size 0 (by rfl) cs _ (by have:=HON.o;exact Ag HPB.o) Tryz.underlying75 (by rfl) HCI.o ?_)
     |(refine wpList_store_mid (by rfl) 75 (.tmp 2) (.tmp 50) (by rfl) w.heap.size 0 cs (by rfl) (by rfl) (Ao HR.o _ (by have:=HZS.o;have:=HCS.o;omega)) HCI.o HCO.o ?_)
     |fail)
    have hE:=AK (ds:=cs) HR.o (by have:=HZS.o;have:=HCS.o;omega);have hp:=AV we w.heap.size cs.toList;have hq:=Ak (P:=Tryz.prog) hE Tryz.underlying75 rfl HCI.o;refine bodyPost_ret (v:=.tuple #[.agg cs,.int .i64 0]) ?_ ?_ ?_
    ·exact Ah (v:=.agg cs) 2 3 75 ⟨w.heap.size,0,none⟩ Tryz.results31 rfl hq rfl
    ·rfl
    exact⟨by rw[GE.o,IE.o],Al HG.o hp HG.o.size (Nat.le_refl _)⟩
   ·have tb:(l==b)=false:=by simpa using hlb
    have tb2:(l != b)=true:=by simpa using hlb
    have hD:rpD b=none:=by rw[ED.o,ho,if_neg (fun h=>hlb (Option.some.inj h))]
    have GE:=I (show(rpC (rpG b)).toArray=zz by rw[rpG,hD];exact EZ0.o);have IE:=I (show rpI b=2 by rw[rpI,hD];rfl);clear ED OK hD ho hlb
    go_wp2_with (first
     |(have hp0:x5.grownBy (x5.setCell ⟨x1.heap.size,36,none⟩ (.int .i64 v5)) (some x1.heap.size):=(Ay (World.grownBy.refl x5 (some x1.heap.size)) (p:=⟨x1.heap.size,36,none⟩) (.inl rfl) (.int .i64 v5));replace HPB:=I (GB (y:=v5) HK32.o HPB.o);replace HD:=I (BP HD.o hp0 (by have:=HPG.o;omega) HG.o.size (by have:=HPG.o;have:=HGD.o;omega));replace HR:=I (HR.o.grown hp0 (by intro e;injection e with e;have:=HPG.o;have:=HGD.o;omega));replace HG:=I (Al HG.o hp0 HG.o.size (by have:=HPG.o;have:=HGD.o;omega));clear hp0;(try clear k9 f0);(try clear k8 f8);replace HPB:=I (show Blk (x5.setCell ⟨x1.heap.size,36,none⟩ (.int .i64 v5)) x1.heap.size 75 cs from ECS.o▸HPB.o);refine Ae (by rfl) 75 (.tmp 6) (by rfl) x1.heap.size 0 (by rfl) cs _ (Ag HPB.o) Tryz.underlying75 (by rfl) HCI.o ?_;generalize x5.setCell ⟨x1.heap.size,36,none⟩ (.int .i64 v5)=V9 at HPB HD HR HG⊢;have HON:=I (show True from trivial))
     |(go_at_call 80;refine Calls.mono (EN.o _) ?_;rintro e we ⟨⟨v,i,rfl,hn,hsm⟩,hb⟩;obtain⟨rfl,gx,cx,rfl,hgx,hcx,hrx⟩:=hsm l rfl;clear EN;replace HPB:=I (HPB.o.below hb);replace HD:=I (BA HD.o hb HG.o.size);replace HR:=I (HR.o.below hb);replace HG:=HG.t hb;clear hb hn hsm;have kc:=Cy HD.o;have k7:we.cell? ⟨gd,1,none⟩=some (.bool false):=kc.1;clear kc;have hcv1:=AJ (P:=Tryz.prog) we 30 5 Tryz.underlying30 Tryz.underlying5 hrx l.length cx rfl 9 Tryz.underlying9;have hcv2:=AJ (P:=Tryz.prog) we 30 5 Tryz.underlying30 Tryz.underlying5 (HRD.o we HG.o) b.length c rfl 9 Tryz.underlying9)
     |(refine Az (by rfl) 75 #[] (by rfl) zz (by simp;exact HZB.o) ?_)
     |(refine wpList_store_mid (by rfl) 75 (.tmp 2) (.tmp 49) (by rfl) w.heap.size 0 zz (by rfl) (by rfl) (Ao HR.o _ (Nat.le_refl _)) HZI.o HZO.o ?_)
     |fail)
    have hE:=AK (ds:=zz) HR.o (by have:=HZS.o;have:=HCS.o;omega);have hp:=AV we w.heap.size zz.toList;have hq:=Ak (P:=Tryz.prog) hE Tryz.underlying75 rfl HZI.o;refine bodyPost_ret (v:=.tuple #[.agg zz,.int .i64 2]) ?_ ?_ ?_
    ·exact Ah (v:=.agg zz) 2 3 75 ⟨w.heap.size,0,none⟩ Tryz.results31 rfl hq rfl
    ·rfl
    exact⟨by rw[GE.o,IE.o],Al HG.o hp HG.o.size (Nat.le_refl _)⟩
end Mc
end
end Go.Proofs.YtfcjeebnkigeaaaGreat
