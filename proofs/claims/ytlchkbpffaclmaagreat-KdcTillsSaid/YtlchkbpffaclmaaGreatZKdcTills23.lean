import Derived.Test.YtlchkbpffaclmaaGreatZKdcTills17
set_option maxHeartbeats 25600000
set_option maxRecDepth 100000
set_option linter.unusedVariables false
set_option linter.unusedSimpArgs false
namespace Go.Proofs.YtlchkbpffaclmaaGreat
namespace Mc
open Go.RowKit Af DerP DerR Ms
theorem DL {w w':World} {B g:Nat} {c:Option L} (h:RC w B g c) (hb:Below w.heap.size w w') (hB:B<=w.heap.size):RC w' B g c:=
 h.keep (row:=none) (BD hb none) (by simp) hB (by simp)
def Hw (x:L) (i:Nat):L:=x.take i++List.replicate (32 - i) 0
theorem TD {x:L} (hx:x.length=32) {i:Nat} (hi:i<=32):(Hw x i).length=32:=by
 simp only[Hw,List.length_append,List.length_take,List.length_replicate];omega
theorem Qr (x:L):Hw x 0=key0:=rfl
theorem TF {x:L} (hx:x.length=32):Hw x 32=x:=by
 rw[Hw,List.take_of_length_le (by omega)];simp
theorem TH {x:L} (hx:x.length=32) {i:Nat} (hi:i<32):(bvs (Hw x i)).toArray.setIfInBounds i (bv (x[i]'(by omega)))=(bvs (Hw x (i+1))).toArray:=by
 apply Array.toList_inj.1;simp only[Array.toList_setIfInBounds];have e1:Hw x i=x.take i++(0 :: List.replicate (32 - (i+1)) 0):=by
  rw[Hw,<-List.replicate_succ];congr 2;omega
 have e2:Hw x (i+1)=x.take i++(x[i]'(by omega) :: List.replicate (32 - (i+1)) 0):=by
  rw[Hw,List.take_succ_eq_append_getElem (by omega),List.append_assoc];rfl
 rw[e1,e2];simp only[bvs,List.map_append,List.map_cons];rw[List.set_append_right _ _ (by simp;omega)];simp only[List.length_map,List.length_take,Nat.min_eq_left (show i<=x.length by omega),Nat.sub_self,List.set_cons_zero]
theorem JD:Tryz.prog.built 35 []=some (bvs key0).toArray:=by kernel_rfl
theorem FH {P:Program} {ops:Array Oper} {rest:List Oper} {o:Oper} {a:Act} {w:World} {Q:Exit->Act->World->Prop} (hg:o.guard=none) (v:Value) (ob:Obj) (hrun:(execOp a.eval o).run P w=.ok (.value v) (w.alloc ob))
  (h:wpList P ops Q rest (a.put o.dst v) (w.alloc ob)):wpList P ops Q (o :: rest) a w:=wpList_plain hg fun _ hK=>by
 unfold Oper.wp;rw[hrun];exact hK _ _ h
theorem Vu (B g:Nat) (c:Option L) (w:World) (h:RC w B g c) (hB:B<=w.heap.size) (hBg:B<=g) (hu:(c.getD []).length<=100000):Calls Tryz.prog 39 #[.pointer (some ⟨g,0,none⟩)] w fun e w'=>e=.returned (.agg (bvs (keP c).1).toArray)/\RC w' B g (keP c).2/\w.grownBy w' (some g):=by
 obtain⟨zz,ezz⟩:∃z:Array Value,z=#[.int .u8 0,.int .u8 0,.int .u8 0,.int .u8 0,.int .u8 0,.int .u8 0,.int .u8 0,.int .u8 0,.int .u8 0,.int .u8 0,.int .u8 0,.int .u8 0,.int .u8 0,.int .u8 0,.int .u8 0,.int .u8 0,.int .u8 0,.int .u8 0,.int .u8 0,.int .u8 0,.int .u8 0,.int .u8 0,.int .u8 0,.int .u8 0,.int .u8 0,.int .u8 0,.int .u8 0,.int .u8 0,.int .u8 0,.int .u8 0,.int .u8 0,.int .u8 0]:=⟨_,rfl⟩;have ez0:zz=(bvs key0).toArray:=by rw[ezz];rfl
 have HBT:=I (show Tryz.prog.built 35 []=some zz by rw[ez0];exact JD);have hzs:zz.size=32:=by rw[ez0];simp [Ao,key0]
 have HZS:=I hzs;have HZO:=I (show zz.all (·.oneCell')=true by rw[ez0];exact bvs_one' _);have HZI:=I (show(Tryz.prog.info? 35).map (·.size)=some zz.size by rw[hzs];exact BQ);have EZ:=I ez0;obtain⟨W,eW⟩:=Ak (w.alloc (.cells zz 35));have HWS:=I (show W.heap.size=w.heap.size+1 by rw[eW];simp);have HR:=I (show Blk W w.heap.size 35 zz by rw[eW];exact Blk.new _ _ _);have HC:=I (show RC W B g c by rw[eW];exact Iz h hB _);have HG:=I (show w.grownBy W (some g) by rw[eW];exact Dp (World.grownBy.refl _ _) _);have HLT:=I (Qk h);have HB:=I hB;have HBG:=I hBg;have T1:=I (fun w1 (h:RC w1 B g c) (h1:B<=w1.heap.size)=>(show Calls Tryz.prog 84 #[.pointer (some ⟨g,0,none⟩)] w1 fun e w'=>(∃A' cap',e=.returned (.slice A' (ocC c).length cap')/\(ocC c).length<=cap'/\Rd w' B A' (bvs (ocC c)))/\RC w' B g (AQ 4 c)/\w1.grownBy w' (some g) from Ny B g c w1 h h1 hBg hu));have E1:=I (show keP c=if (ocC c).length=32 then (ocC c,AQ 4 c) else (key0,none) from rfl);rw[E1.o];obtain⟨x,ex⟩:=Ak (ocC c);obtain⟨r,er⟩:=Ak (AQ 4 c);rw[<-ex,<-er] at T1⊢;clear ez0 hzs h hB hBg hu E1 ex er
 by_cases hx:x.length=32
 ·rw[if_pos hx]
  have t1:((x.length:Int) != 32)=false:=by simp;omega
  have HX:=I hx;clear hx;go_enter Tryz.func39,Tryz.ntmps39
  go_upto_region 1 with fail
  rw[<-ezz,<-eW];clear ezz eW
  go_upto_region 2 with(go_at_call 84;refine Calls.mono (T1.o _ HC.o (by have:=HWS.o;have:=HB.o;omega)) ?_;rintro e w1 ⟨⟨A,cp,rfl,hcp,hrd⟩,hd,hg⟩;clear T1;replace HC:=I hd;replace HR:=I (HR.o.grown hg (by intro e;injection e with e;have:=HLT.o;omega));replace HG:=I (Kh HG.o hg);have HRD:=I hrd;have HW1:=I (show w.heap.size+1<=w1.heap.size by have:=hg.size;have:=HWS.o;omega);clear hd hg hcp hrd)
  refine wp_region_lit ?_;refine AA (by rfl) 35 #[] (by rfl) zz (by simp;exact HBT.o) ?_;refine FH (by rfl) (.pointer (some ⟨w1.heap.size,0,none⟩)) (.cells #[.int .u8 0,.int .u8 0,.int .u8 0,.int .u8 0,.int .u8 0,.int .u8 0,.int .u8 0,.int .u8 0,.int .u8 0,.int .u8 0,.int .u8 0,.int .u8 0,.int .u8 0,.int .u8 0,.int .u8 0,.int .u8 0,.int .u8 0,.int .u8 0,.int .u8 0,.int .u8 0,.int .u8 0,.int .u8 0,.int .u8 0,.int .u8 0,.int .u8 0,.int .u8 0,.int .u8 0,.int .u8 0,.int .u8 0,.int .u8 0,.int .u8 0,.int .u8 0] 35) (by go_simp) ?_;refine wpList_store_mid (by rfl) 35 (.tmp 4) (.tmp 8) (by rfl) w1.heap.size 0 zz (by rfl) (by rfl) (Ar (Blk.new w1 35 #[.int .u8 0,.int .u8 0,.int .u8 0,.int .u8 0,.int .u8 0,.int .u8 0,.int .u8 0,.int .u8 0,.int .u8 0,.int .u8 0,.int .u8 0,.int .u8 0,.int .u8 0,.int .u8 0,.int .u8 0,.int .u8 0,.int .u8 0,.int .u8 0,.int .u8 0,.int .u8 0,.int .u8 0,.int .u8 0,.int .u8 0,.int .u8 0,.int .u8 0,.int .u8 0,.int .u8 0,.int .u8 0,.int .u8 0,.int .u8 0,.int .u8 0,.int .u8 0]) _ (by have:=HZS.o;simp;omega)) HZI.o HZO.o ?_;have hV:=Bc w1 35 #[.int .u8 0,.int .u8 0,.int .u8 0,.int .u8 0,.int .u8 0,.int .u8 0,.int .u8 0,.int .u8 0,.int .u8 0,.int .u8 0,.int .u8 0,.int .u8 0,.int .u8 0,.int .u8 0,.int .u8 0,.int .u8 0,.int .u8 0,.int .u8 0,.int .u8 0,.int .u8 0,.int .u8 0,.int .u8 0,.int .u8 0,.int .u8 0,.int .u8 0,.int .u8 0,.int .u8 0,.int .u8 0,.int .u8 0,.int .u8 0,.int .u8 0,.int .u8 0] zz (by have:=HZS.o;simp;omega);generalize ((w1.alloc (.cells #[.int .u8 0,.int .u8 0,.int .u8 0,.int .u8 0,.int .u8 0,.int .u8 0,.int .u8 0,.int .u8 0,.int .u8 0,.int .u8 0,.int .u8 0,.int .u8 0,.int .u8 0,.int .u8 0,.int .u8 0,.int .u8 0,.int .u8 0,.int .u8 0,.int .u8 0,.int .u8 0,.int .u8 0,.int .u8 0,.int .u8 0,.int .u8 0,.int .u8 0,.int .u8 0,.int .u8 0,.int .u8 0,.int .u8 0,.int .u8 0,.int .u8 0,.int .u8 0] 35)).setCells w1.heap.size 0 zz.toList)=V at hV⊢;have HK:=I (show Blk V w1.heap.size 35 (bvs key0).toArray from EZ.o▸hV.1);replace HR:=I (HR.o.below hV.2);replace HC:=I (DL HC.o hV.2 (by have:=HW1.o;have:=HB.o;omega));replace HG:=I (IB HG.o hV.2);have HRV:=I (HRD.o.below (hV.2.mono (by have:=HW1.o;have:=HB.o;omega)));have HVS:=I (show w1.heap.size<V.heap.size from hV.1.lt);clear hV HRD
  go_wp2
  obtain⟨bb,oo,rfl,hbb,hcl⟩:∃bb oo,A=some ⟨bb,oo,none⟩/\bb<B/\∀i u,(bvs x)[i]? = some u->V.cell? ⟨bb,oo+i,none⟩=some u:=by
   rcases HRV.o with h | ⟨bb,oo,h1,h2,h3⟩
   ·have:(bvs x).length=32:=by rw[Ao];exact HX.o
    rw[h] at this;simp at this
   ·exact⟨bb,oo,h1,h2,h3⟩
  have HBB:=I hbb;have HCL:=I hcl;clear hbb hcl HRV
  go_loopw [5] (fun i wr=>∃k:Nat,k<=32/\i=.int .i64 (k:Int)/\Blk wr w1.heap.size 35 (bvs (Hw x k)).toArray/\V.grownBy wr (some w1.heap.size)) (fun i _=>32 - (intOf i).toNat)
  case atStart=>exact⟨0,by omega,rfl,by rw[Qr];exact HK.o,World.grownBy.refl _ _⟩
  case round=>
   obtain⟨k,hk,rfl,hBK,hgv⟩:=hrel;have HBK:=I hBK;have HGV:=I hgv;clear hBK hgv
   by_cases hlt:k<32
   ·have hxl:k<x.length:=by have:=HX.o;omega
    have e1:(k:Int)<32:=by omega
    have e2:decide ((k:Int)<32)=true:=decide_eq_true e1;have e3:(k:Int)<(x.length:Int):=by omega
    have k1:wr.cell? ⟨bb,oo+k,none⟩=some (bv x[k]):=(World.cell?_of_block (a:=⟨bb,oo+k,none⟩) (HGV.o.block bb (by have:=HBB.o;have:=HB.o;have:=HW1.o;have:=HVS.o;omega) (fun e=>by injection e with e;have:=HBB.o;have:=HB.o;have:=HW1.o;omega))).trans (HCL.o k _ (Dy hxl));obtain⟨u,hu⟩:∃u,(bvs (Hw x k)).toArray[k]? = some u:=⟨_,Array.getElem?_eq_getElem (by rw[List.size_toArray,Ao,TD HX.o (by omega)];exact hlt)⟩;have k2:wr.cell? ⟨w1.heap.size,k,none⟩=some u:=(HBK.o.cell k).trans hu;have f2:wr.frozen? ⟨w1.heap.size,k,none⟩=false:=HBK.o.frozen k;have hs:=HBK.o.set k (bv x[k]);rw[TH HX.o hlt] at hs;have HS:=I hs;have HP:=I (HGV.o.trans (AE (World.grownBy.refl wr (some w1.heap.size)) (p:=⟨w1.heap.size,k,none⟩) (.inl rfl) (bv x[k])));clear hs hu;simp only[bv] at k1 HS HP
    go_wp2
    exact⟨⟨k+1,by omega,rfl,HS.o,HP.o⟩,by simp [intOf];omega⟩
   ·obtain rfl:k=32:=by omega
    have e2:decide (((32:Nat):Int)<32)=false:=rfl;have hb2:=HBK.o;rw[TF HX.o] at hb2;have hks:(bvs x).toArray.size=32:=by simp [Ao];exact HX.o
    have HO2:=I (bvs_one' x);obtain⟨ks,eks⟩:=Ak ((bvs x).toArray);rw[<-eks] at hb2 hks HO2;have HK2:=I hb2;have HZ2:=I (show(Tryz.prog.info? 35).map (·.size)=some ks.size by rw[hks];exact BQ);have HS2:=I hks;have EK:=I eks;replace HR:=I (HR.o.grown HGV.o (by intro e;injection e with e;have:=HW1.o;omega));replace HC:=I (DI HC.o HGV.o (by have:=HLT.o;have:=HW1.o;omega) (by have:=HB.o;have:=HW1.o;have:=HVS.o;omega) (by have:=HB.o;have:=HW1.o;omega));replace HG:=I (JM HG.o HGV.o (by have:=HW1.o;omega));have HWR:=I (show w1.heap.size<wr.heap.size from Nat.lt_of_lt_of_le HVS.o HGV.o.size);clear hb2 hks eks HBK HGV HK HCL HBB hlt hk
    go_wp2_with (first
     |(refine Am (by rfl) 35 (.tmp 4) (by rfl) w1.heap.size 0 (by rfl) ks _ (Ae HK2.o) Tryz.underlying35 (by rfl) HZ2.o ?_)
     |(refine wpList_store_mid (by rfl) 35 (.tmp 2) (.tmp 26) (by rfl) w.heap.size 0 ks (by rfl) (by rfl) (Ar HR.o _ (by have:=HZS.o;have:=HS2.o;omega)) HZ2.o HO2.o ?_)
     |fail)
    have hE:=AG (ds:=ks) HR.o (by have:=HZS.o;have:=HS2.o;omega);have hp:=AM wr w.heap.size ks.toList;have hq:=Al (P:=Tryz.prog) hE Tryz.underlying35 rfl HZ2.o;refine bodyPost_ret (v:=.agg ks) ?_ ?_ ?_
    ·exact Au 2 35 ⟨w.heap.size,0,none⟩ Tryz.results39 rfl hq
    ·rfl
    exact⟨by rw[EK.o],DI HC.o hp (by have:=HLT.o;omega) (by have:=HB.o;have:=HW1.o;have:=HWR.o;omega) HB.o,JM HG.o hp Ag⟩
 ·rw[if_neg hx]
  have t1:((x.length:Int) != 32)=true:=by simp;omega
  clear hx;go_enter Tryz.func39,Tryz.ntmps39
  go_upto_region 1 with fail
  rw[<-ezz,<-eW];clear ezz eW
  go_upto_region 2 with(go_at_call 84;refine Calls.mono (T1.o _ HC.o (by have:=HWS.o;have:=HB.o;omega)) ?_;rintro e w1 ⟨⟨A,cp,rfl,hcp,hrd⟩,hd,hg⟩;clear T1;replace HC:=I hd;replace HR:=I (HR.o.grown hg (by intro e;injection e with e;have:=HLT.o;omega));replace HG:=I (Kh HG.o hg);have HRD:=I hrd;have HW1:=I (show w.heap.size+1<=w1.heap.size by have:=hg.size;have:=HWS.o;omega);clear hd hg hcp hrd)
  refine wp_region_lit ?_;refine AA (by rfl) 35 #[] (by rfl) zz (by simp;exact HBT.o) ?_;refine FH (by rfl) (.pointer (some ⟨w1.heap.size,0,none⟩)) (.cells #[.int .u8 0,.int .u8 0,.int .u8 0,.int .u8 0,.int .u8 0,.int .u8 0,.int .u8 0,.int .u8 0,.int .u8 0,.int .u8 0,.int .u8 0,.int .u8 0,.int .u8 0,.int .u8 0,.int .u8 0,.int .u8 0,.int .u8 0,.int .u8 0,.int .u8 0,.int .u8 0,.int .u8 0,.int .u8 0,.int .u8 0,.int .u8 0,.int .u8 0,.int .u8 0,.int .u8 0,.int .u8 0,.int .u8 0,.int .u8 0,.int .u8 0,.int .u8 0] 35) (by go_simp) ?_;refine wpList_store_mid (by rfl) 35 (.tmp 4) (.tmp 8) (by rfl) w1.heap.size 0 zz (by rfl) (by rfl) (Ar (Blk.new w1 35 #[.int .u8 0,.int .u8 0,.int .u8 0,.int .u8 0,.int .u8 0,.int .u8 0,.int .u8 0,.int .u8 0,.int .u8 0,.int .u8 0,.int .u8 0,.int .u8 0,.int .u8 0,.int .u8 0,.int .u8 0,.int .u8 0,.int .u8 0,.int .u8 0,.int .u8 0,.int .u8 0,.int .u8 0,.int .u8 0,.int .u8 0,.int .u8 0,.int .u8 0,.int .u8 0,.int .u8 0,.int .u8 0,.int .u8 0,.int .u8 0,.int .u8 0,.int .u8 0]) _ (by have:=HZS.o;simp;omega)) HZI.o HZO.o ?_;have hV:=Bc w1 35 #[.int .u8 0,.int .u8 0,.int .u8 0,.int .u8 0,.int .u8 0,.int .u8 0,.int .u8 0,.int .u8 0,.int .u8 0,.int .u8 0,.int .u8 0,.int .u8 0,.int .u8 0,.int .u8 0,.int .u8 0,.int .u8 0,.int .u8 0,.int .u8 0,.int .u8 0,.int .u8 0,.int .u8 0,.int .u8 0,.int .u8 0,.int .u8 0,.int .u8 0,.int .u8 0,.int .u8 0,.int .u8 0,.int .u8 0,.int .u8 0,.int .u8 0,.int .u8 0] zz (by have:=HZS.o;simp;omega);generalize ((w1.alloc (.cells #[.int .u8 0,.int .u8 0,.int .u8 0,.int .u8 0,.int .u8 0,.int .u8 0,.int .u8 0,.int .u8 0,.int .u8 0,.int .u8 0,.int .u8 0,.int .u8 0,.int .u8 0,.int .u8 0,.int .u8 0,.int .u8 0,.int .u8 0,.int .u8 0,.int .u8 0,.int .u8 0,.int .u8 0,.int .u8 0,.int .u8 0,.int .u8 0,.int .u8 0,.int .u8 0,.int .u8 0,.int .u8 0,.int .u8 0,.int .u8 0,.int .u8 0,.int .u8 0] 35)).setCells w1.heap.size 0 zz.toList)=V at hV⊢;have HK:=I (show Blk V w1.heap.size 35 (bvs key0).toArray from EZ.o▸hV.1);replace HR:=I (HR.o.below hV.2);replace HC:=I (DL HC.o hV.2 (by have:=HW1.o;have:=HB.o;omega));replace HG:=I (IB HG.o hV.2);have HRV:=I (HRD.o.below (hV.2.mono (by have:=HW1.o;have:=HB.o;omega)));have HVS:=I (show w1.heap.size<V.heap.size from hV.1.lt);clear hV HRD;have hcc:=Gu HC.o;have k1:=hcc.1;have f1:=hcc.2;clear hcc HRV;obtain⟨bo,ebo⟩:=Ak ((!r.isSome));rw[<-ebo] at k1;clear ebo
  go_upto_region 5 with fail
  have HE:=I (SZ HC.o);have hp1:=AE (World.grownBy.refl V (some g)) (p:=⟨g,1,none⟩) (.inl rfl) (.bool true);obtain⟨V2,eV2⟩:=Ak (V.setCell ⟨g,1,none⟩ (.bool true));rw[<-eV2] at HE hp1⊢;replace HR:=I (HR.o.grown hp1 (by intro e;injection e with e;have:=HLT.o;omega));replace HK:=I (HK.o.grown hp1 (by intro e;injection e with e;have:=HLT.o;have:=HW1.o;omega));replace HG:=I (Kh HG.o hp1);have HWR:=I (show w1.heap.size<V2.heap.size from Nat.lt_of_lt_of_le HVS.o hp1.size);have HKZ:=I (show Blk V2 w1.heap.size 35 zz from EZ.o▸HK.o);clear eV2 hp1 HC k1 f1 HK
  go_wp2_with (first
   |(refine Am (by rfl) 35 (.tmp 4) (by rfl) w1.heap.size 0 (by rfl) zz _ (Ae HKZ.o) Tryz.underlying35 (by rfl) HZI.o ?_)
   |(refine wpList_store_mid (by rfl) 35 (.tmp 2) (.tmp 15) (by rfl) w.heap.size 0 zz (by rfl) (by rfl) (Ar HR.o _ Ag) HZI.o HZO.o ?_)
   |fail)
  have hE:=AG (ds:=zz) HR.o rfl;have hp:=AM V2 w.heap.size zz.toList;have hq:=Al (P:=Tryz.prog) hE Tryz.underlying35 rfl HZI.o;refine bodyPost_ret (v:=.agg zz) ?_ ?_ ?_
  ·exact Au 2 35 ⟨w.heap.size,0,none⟩ Tryz.results39 rfl hq
  ·rfl
  exact⟨by rw[EZ.o],DI HE.o hp (by have:=HLT.o;omega) (by have:=HB.o;have:=HW1.o;have:=HWR.o;omega) HB.o,JM HG.o hp Ag⟩
section
variable {w:World} {g:Nat} {t:TypeId} {v1:Pr} {v2 x:L} {st en no y:Int} {tr:L}
theorem Yr (hx:x.length=32) (hk:v2.length=32) (h:Blk w g t (ptC ⟨v1,v2,tr,st,en⟩).toArray):Blk (w.setCells g 2 (bvs x).toArray.toList) g t (ptC ⟨v1,x,tr,st,en⟩).toArray:=
 Et (ps:=(bvs x).toArray) (pre:=prC v1) (mid:=bvs v2) (post:=[.string ⟨tr.toArray⟩,.int .i64 st,.int .i64 en]) h (by simp [ptC]) rfl (by simp [Ao,hk,hx]) (by simp [ptC])
theorem Vv (hk:v2.length=32) (h:Blk w g t (ptC ⟨v1,v2,tr,st,en⟩).toArray):Blk (w.setCell ⟨g,34,none⟩ (.string ⟨x.toArray⟩)) g t (ptC ⟨v1,v2,x,st,en⟩).toArray:=
 Et (ps:=#[.string ⟨x.toArray⟩]) (pre:=prC v1++bvs v2) (mid:=[.string ⟨tr.toArray⟩]) (post:=[.int .i64 st,.int .i64 en]) h (by simp [ptC]) (by simp [prC,Ao,hk]) rfl (by simp [ptC])
theorem Vw (hk:v2.length=32) (h:Blk w g t (ptC ⟨v1,v2,tr,st,en⟩).toArray):Blk (w.setCell ⟨g,35,none⟩ (.int .i64 y)) g t (ptC ⟨v1,v2,tr,y,en⟩).toArray:=
 Et (ps:=#[.int .i64 y]) (pre:=prC v1++(bvs v2++[.string ⟨tr.toArray⟩])) (mid:=[.int .i64 st]) (post:=[.int .i64 en]) h (by simp [ptC]) (by simp [prC,Ao,hk]) rfl (by simp [ptC])
theorem Hb (hk:v2.length=32) (h:Blk w g t (ptC ⟨v1,v2,tr,st,en⟩).toArray):Blk (w.setCell ⟨g,36,none⟩ (.int .i64 y)) g t (ptC ⟨v1,v2,tr,st,y⟩).toArray:=
 Et (ps:=#[.int .i64 y]) (pre:=prC v1++(bvs v2++[.string ⟨tr.toArray⟩,.int .i64 st])) (mid:=[.int .i64 en]) (post:=[]) h (by simp [ptC]) (by simp [prC,Ao,hk]) rfl (by simp [ptC])
end
theorem GU (p:Pr):Tryz.prog.built 39 [(0,.agg #[.string ⟨p.1.toArray⟩,.string ⟨p.2.toArray⟩])]=some (ptC ⟨p,key0,[],0,0⟩).toArray:=by kernel_rfl
theorem TI:Tryz.prog.built 39 []=some (ptC pt0).toArray:=by kernel_rfl
theorem aI {c:Option L} (h:(c.getD []).length<=100000):pSm (prP c).1:=Tb h
theorem Vx {c:Option L} {n:Nat} (h:(c.getD []).length<=n):((keP c).2.getD []).length<=n:=by
 unfold keP
 split
 ·exact Gh 4 h
 ·simp
theorem Vy {c:Option L} {n:Nat} (h:(c.getD []).length<=n):((prP c).2.getD []).length<=n:=Nat.le_trans (XS c) h
theorem Mq (b:L) (A:Option Addr) (c:Nat) (w:World) (hr:Rd w w.heap.size A (bvs b)) (hc:b.length<=c) (hl:b.length<=3000) :
  Calls Tryz.prog 13 #[.slice A b.length c] w fun e w'=>e=.returned (.tuple #[.agg (ptC (ptG b)).toArray,.int .i64 (ptI b)])/\Below w.heap.size w w':=by
 obtain⟨zz,ezz⟩:∃z:Array Value,z=#[.string ⟨#[]⟩,.string ⟨#[]⟩,.int .u8 0,.int .u8 0,.int .u8 0,.int .u8 0,.int .u8 0,.int .u8 0,.int .u8 0,.int .u8 0,.int .u8 0,.int .u8 0,.int .u8 0,.int .u8 0,.int .u8 0,.int .u8 0,.int .u8 0,.int .u8 0,.int .u8 0,.int .u8 0,.int .u8 0,.int .u8 0,.int .u8 0,.int .u8 0,.int .u8 0,.int .u8 0,.int .u8 0,.int .u8 0,.int .u8 0,.int .u8 0,.int .u8 0,.int .u8 0,.int .u8 0,.int .u8 0,.string ⟨#[]⟩,.int .i64 0,.int .i64 0]:=⟨_,rfl⟩;have ez0:(ptC pt0).toArray=zz:=by rw[ezz];rfl
 have hzs:zz.size=37:=by rw[ezz];simp
 have HZS:=I hzs;have HZO:=I (show zz.all (·.oneCell')=true by rw[<-ez0];exact Gv _ _ _ _ _);have HZI:=I (show(Tryz.prog.info? 39).map (·.size)=some zz.size by rw[hzs];kernel_rfl);have HZB:=I (show Tryz.prog.built 39 []=some zz by rw[<-ez0];exact TI);obtain⟨W,eW⟩:=Ak ((w.alloc (.cells zz 39)).alloc (.cells #[.slice A b.length c,.bool false] 112));have hWs:W.heap.size=w.heap.size+1+1:=by rw[eW];simp
 have hbW:Below w.heap.size w W:=by rw[eW];exact(Ah.alloc Ag _).alloc (by simp) _
 have hcu:=Blk.new (w.alloc (.cells zz 39)) 112 #[.slice A b.length c,.bool false];rw[show(w.alloc (.cells zz 39)).heap.size=w.heap.size+1 by simp,<-eW] at hcu;have HC:=I (show RC W w.heap.size (w.heap.size+1) (some b) from⟨A,b.length,c,false,hcu,rfl,rfl,hc,hr.below hbW⟩);have HG:=I hbW;have HR:=I (show Blk W w.heap.size 39 zz by rw[eW];exact(Blk.new _ _ _).alloc _);have HWS:=I hWs;have HRD:=I (fun w1 (h:Below w.heap.size w w1)=>hr.below h);have hs0:((AJ 99 (some b)).getD []).length<=100000:=Ki 99 (show((some b:Option L).getD []).length<=100000 by show b.length<=100000;omega);have c1:=I (fun w1 h h1=>Mj 99 w.heap.size (w.heap.size+1) (some b) w1 h h1 (by omega) (by show b.length<=100000;omega));have EP:=I (show ptP b=_ from rfl);obtain⟨s0,es0⟩:∃s,s=AJ 99 (some b):=⟨_,rfl⟩;rw[<-es0] at c1 hs0;have hs1:(((prP s0).2).getD []).length<=100000:=Vy hs0;have T1:=I (fun g w1 h h1 h2=>Mk w.heap.size g s0 w1 h h1 h2 hs0);have hsm:=aI hs0;obtain⟨v1,ev1⟩:∃x:Pr,x=(prP s0).1:=⟨_,rfl⟩;obtain⟨s1,es1⟩:∃s,s=(prP s0).2:=⟨_,rfl⟩;rw[<-ev1,<-es1] at T1;rw[<-es1] at hs1;rw[<-ev1] at hsm;have hs2:(((keP s1).2).getD []).length<=100000:=Vx hs1;have T2:=I (fun g w1 h h1 h2=>Vu w.heap.size g s1 w1 h h1 h2 hs1);have hk:=QZ s1;obtain⟨v2,ev2⟩:∃x:L,x=(keP s1).1:=⟨_,rfl⟩;obtain⟨s2,es2⟩:∃s,s=(keP s1).2:=⟨_,rfl⟩;rw[<-ev2,<-es2] at T2;rw[<-es2] at hs2;rw[<-ev2] at hk;have hs3:((AQ 27 s2).getD []).length<=100000:=Gh 27 hs2;have T3:=I (fun g w1 h h1 h2=>Jz w.heap.size g s2 w1 h h1 h2 hs2);rw[show(AJ 27 s2).getD []=txC s2 from rfl] at T3;have htr:=Wf hs2;obtain⟨v3,ev3⟩:∃x:L,x=txC s2:=⟨_,rfl⟩;obtain⟨s3,es3⟩:∃s,s=AQ 27 s2:=⟨_,rfl⟩;rw[<-ev3,<-es3] at T3;rw[<-es3] at hs3;rw[<-ev3] at htr;have hs4:(((intC s3).2).getD []).length<=100000:=Kj hs3;have T4:=I (fun g w1 h h1 h2=>OO w.heap.size g s3 w1 h h1 h2 hs3);unfold Ints at T4;obtain⟨v4,ev4⟩:∃x:Int,x=((intC s3).1:Int):=⟨_,rfl⟩;obtain⟨s4,es4⟩:∃s,s=(intC s3).2:=⟨_,rfl⟩;rw[<-ev4,<-es4] at T4;rw[<-es4] at hs4;have hs5:(((intC s4).2).getD []).length<=100000:=Kj hs4;have T5:=I (fun g w1 h h1 h2=>OO w.heap.size g s4 w1 h h1 h2 hs4);unfold Ints at T5;obtain⟨v5,ev5⟩:∃x:Int,x=((intC s4).1:Int):=⟨_,rfl⟩;obtain⟨s5,es5⟩:∃s,s=(intC s4).2:=⟨_,rfl⟩;rw[<-ev5,<-es5] at T5;rw[<-es5] at hs5;have FV:ptP b=(⟨v1,v2,v3,v4,v5⟩,s5):=by rw[ev1,ev2,ev3,ev4,ev5,es5,es4,es3,es2,es1,es0];rfl
 have ED:=I (show ptD b=if ptO (ptP b).1=some b then some (ptP b).1 else none from rfl);rw[FV] at ED;have OK:=I (fun p (h:ptD b=some p)=>(congrArg Prod.snd ((WO h).2.symm.trans FV):some []=s5));have EN:=I (fun w1=>Ih ⟨v1,v2,v3,v4,v5⟩ w1 hk hsm (by show v3.length<=1000000000;omega));have HBT:=I (GU v1);have HKS:=I (show(bvs v2).toArray.size=32 by simp [Ao];exact hk);have HKO:=I (bvs_one' v2);have HKI:=I (show(Tryz.prog.info? 35).map (·.size)=some (bvs v2).toArray.size by rw[HKS.o];exact BQ);have HK32:=I hk;have HCS:=I (show(ptC ⟨v1,v2,v3,v4,v5⟩).toArray.size=37 from Du hk);have HCI:=I (show(Tryz.prog.info? 39).map (·.size)=some (ptC ⟨v1,v2,v3,v4,v5⟩).toArray.size by rw[HCS.o];kernel_rfl);have HCO:=I (show(ptC ⟨v1,v2,v3,v4,v5⟩).toArray.all (·.oneCell')=true from Gv _ _ _ _ _);have HFS:=I (show(ptC ⟨v1,key0,[],0,0⟩).toArray.size=37 from Du rfl);have HFI:=I (show(Tryz.prog.info? 39).map (·.size)=some (ptC ⟨v1,key0,[],0,0⟩).toArray.size by rw[HFS.o];kernel_rfl);have HFO:=I (show(ptC ⟨v1,key0,[],0,0⟩).toArray.all (·.oneCell')=true from Gv _ _ _ _ _);obtain⟨ks,eks⟩:=Ak ((bvs v2).toArray);rw[<-eks] at HKS HKO HKI T2;obtain⟨c0,ec0⟩:=Ak ((ptC ⟨v1,key0,[],0,0⟩).toArray);rw[<-ec0] at HFS HFI HFO HBT;obtain⟨cs,ecs⟩:=Ak ((ptC ⟨v1,v2,v3,v4,v5⟩).toArray);rw[<-ecs] at HCS HCI HCO EN;have EK:=I eks;have EC0:=I ec0;have ECS:=I ecs;have EZ0:=I ez0;clear hr hc hl hzs hWs hbW hcu hk hsm ez0 eks ec0 ecs FV EP es0 htr hs0 hs1 hs2 hs3 hs4 hs5 ev1 es1 ev2 es2 ev3 es3 ev4 es4 ev5 es5;go_enter Tryz.func13,Tryz.ntmps13
 go_upto_region 2 with fail
 rw[<-ezz,<-eW];clear ezz eW
 go_upto_region 8 with(first
  |(go_at_call 37;refine Calls.mono (c1.o _ HC.o HG.o.size) ?_;rintro e w2 ⟨⟨gd,rfl,hgd,hd⟩,hc2,hg2⟩;clear c1 HC;have HD:=I hd;have HGD:=I (show w.heap.size+2<=gd by have:=HWS.o;omega);replace HR:=I (HR.o.grown hg2 (by intro e;injection e with e;omega));replace HG:=I (Av HG.o hg2 HG.o.size (by omega));have HDL:=I (Qk hd);clear hgd hd hc2 hg2)
  |(go_at_call 38;(with_reducible refine Calls.mono (T1.o gd _ HD.o HG.o.size (by have:=HGD.o;omega)) ?_);rintro e x1 ⟨rfl,hd,hg3⟩;clear T1;replace HD:=I hd;replace HR:=I (HR.o.grown hg3 (by intro e;injection e with e;have:=HGD.o;omega));replace HG:=I (Av HG.o hg3 HG.o.size (by have:=HGD.o;omega));have HDL2:=I (Qk hd);clear hd hg3)
  |(refine AA (by rfl) 39 #[(0,.tmp 15)] (by rfl) c0 (by simp only[List.map_toArray,List.map_cons,List.map_nil];exact HBT.o) ?_)
  |(refine wpList_store_mid (by rfl) 39 (.tmp 6) (.tmp 16) (by rfl) x1.heap.size 0 c0 (by rfl) (by rfl) (Ar (Blk.new x1 39 #[.string ⟨#[]⟩,.string ⟨#[]⟩,.int .u8 0,.int .u8 0,.int .u8 0,.int .u8 0,.int .u8 0,.int .u8 0,.int .u8 0,.int .u8 0,.int .u8 0,.int .u8 0,.int .u8 0,.int .u8 0,.int .u8 0,.int .u8 0,.int .u8 0,.int .u8 0,.int .u8 0,.int .u8 0,.int .u8 0,.int .u8 0,.int .u8 0,.int .u8 0,.int .u8 0,.int .u8 0,.int .u8 0,.int .u8 0,.int .u8 0,.int .u8 0,.int .u8 0,.int .u8 0,.int .u8 0,.int .u8 0,.string ⟨#[]⟩,.int .i64 0,.int .i64 0]) _ (by have:=HFS.o;simp;omega)) HFI.o HFO.o ?_;have hV:=Bc x1 39 #[.string ⟨#[]⟩,.string ⟨#[]⟩,.int .u8 0,.int .u8 0,.int .u8 0,.int .u8 0,.int .u8 0,.int .u8 0,.int .u8 0,.int .u8 0,.int .u8 0,.int .u8 0,.int .u8 0,.int .u8 0,.int .u8 0,.int .u8 0,.int .u8 0,.int .u8 0,.int .u8 0,.int .u8 0,.int .u8 0,.int .u8 0,.int .u8 0,.int .u8 0,.int .u8 0,.int .u8 0,.int .u8 0,.int .u8 0,.int .u8 0,.int .u8 0,.int .u8 0,.int .u8 0,.int .u8 0,.int .u8 0,.string ⟨#[]⟩,.int .i64 0,.int .i64 0] c0 (by have:=HFS.o;simp;omega);generalize ((x1.alloc (.cells #[.string ⟨#[]⟩,.string ⟨#[]⟩,.int .u8 0,.int .u8 0,.int .u8 0,.int .u8 0,.int .u8 0,.int .u8 0,.int .u8 0,.int .u8 0,.int .u8 0,.int .u8 0,.int .u8 0,.int .u8 0,.int .u8 0,.int .u8 0,.int .u8 0,.int .u8 0,.int .u8 0,.int .u8 0,.int .u8 0,.int .u8 0,.int .u8 0,.int .u8 0,.int .u8 0,.int .u8 0,.int .u8 0,.int .u8 0,.int .u8 0,.int .u8 0,.int .u8 0,.int .u8 0,.int .u8 0,.int .u8 0,.string ⟨#[]⟩,.int .i64 0,.int .i64 0] 39)).setCells x1.heap.size 0 c0.toList)=V at hV⊢;have HPB:=I (show Blk V x1.heap.size 39 (ptC ⟨v1,key0,[],0,0⟩).toArray from EC0.o▸hV.1);have HPG:=I HDL2.o;replace HD:=I (DL HD.o hV.2 HG.o.size);replace HR:=I (HR.o.below hV.2);replace HG:=I (HG.o.trans (hV.2.mono HG.o.size));clear hV HDL HDL2)
  |(go_at_call 39;(with_reducible refine Calls.mono (T2.o gd _ HD.o HG.o.size (by have:=HGD.o;omega)) ?_);rintro e x2 ⟨rfl,hd,hg3⟩;clear T2;replace HD:=I hd;replace HR:=I (HR.o.grown hg3 (by intro e;injection e with e;have:=HGD.o;omega));replace HG:=I (Av HG.o hg3 HG.o.size (by have:=HGD.o;omega));replace HPB:=I (HPB.o.grown hg3 (by intro e;injection e with e;have:=HPG.o;omega));clear hd hg3)
  |(refine wpList_store_mid (by rfl) 35 (.tmp 19) (.tmp 18) (by rfl) x1.heap.size 2 ks (by rfl) (by rfl) (Ci HPB.o 2 _ (by have:=HKS.o;rw[Du rfl];omega)) HKI.o HKO.o ?_;have hp0:=DR x2 x1.heap.size 2 ks.toList;replace HPB:=I (show Blk (x2.setCells x1.heap.size 2 ks.toList) x1.heap.size 39 _ from EK.o▸Yr HK32.o rfl HPB.o);generalize x2.setCells x1.heap.size 2 ks.toList=V3 at hp0 HPB⊢;replace HD:=I (DI HD.o hp0 (by have:=HPG.o;omega) HG.o.size (by have:=HPG.o;have:=HGD.o;omega));replace HR:=I (HR.o.grown hp0 (by intro e;injection e with e;have:=HPG.o;have:=HGD.o;omega));replace HG:=I (Av HG.o hp0 HG.o.size (by have:=HPG.o;have:=HGD.o;omega));clear hp0)
  |(go_at_call 40;(with_reducible refine Calls.mono (T3.o gd _ HD.o HG.o.size (by have:=HGD.o;omega)) ?_);rintro e x3 ⟨rfl,hd,hg3⟩;clear T3;replace HD:=I hd;replace HR:=I (HR.o.grown hg3 (by intro e;injection e with e;have:=HGD.o;omega));replace HG:=I (Av HG.o hg3 HG.o.size (by have:=HGD.o;omega));replace HPB:=I (HPB.o.grown hg3 (by intro e;injection e with e;have:=HPG.o;omega));clear hd hg3;have kk:=Eo HK32.o HPB.o;have k9:x3.cell? ⟨x1.heap.size,34,none⟩=some (.string ⟨([]:L).toArray⟩):=kk.2.2.1;have f0:=HPB.o.frozen 34;clear kk)
  |(go_at_call 41;have hp0:x3.grownBy (x3.setCell ⟨x1.heap.size,34,none⟩ (.string ⟨v3.toArray⟩)) (some x1.heap.size):=(AE (World.grownBy.refl x3 (some x1.heap.size)) (p:=⟨x1.heap.size,34,none⟩) (.inl rfl) (.string ⟨v3.toArray⟩));replace HPB:=I (Vv (x:=v3) HK32.o HPB.o);replace HD:=I (DI HD.o hp0 (by have:=HPG.o;omega) HG.o.size (by have:=HPG.o;have:=HGD.o;omega));replace HR:=I (HR.o.grown hp0 (by intro e;injection e with e;have:=HPG.o;have:=HGD.o;omega));replace HG:=I (Av HG.o hp0 HG.o.size (by have:=HPG.o;have:=HGD.o;omega));clear hp0;(try clear k9 f0);(try clear k8 f8);(with_reducible refine Calls.mono (T4.o gd _ HD.o HG.o.size (by have:=HGD.o;omega)) ?_);rintro e x4 ⟨rfl,hd,hg3⟩;clear T4;replace HD:=I hd;replace HR:=I (HR.o.grown hg3 (by intro e;injection e with e;have:=HGD.o;omega));replace HG:=I (Av HG.o hg3 HG.o.size (by have:=HGD.o;omega));replace HPB:=I (HPB.o.grown hg3 (by intro e;injection e with e;have:=HPG.o;omega));clear hd hg3;have kk:=Eo HK32.o HPB.o;have k9:x4.cell? ⟨x1.heap.size,35,none⟩=some (.int .i64 0):=kk.2.2.2.1;have f0:=HPB.o.frozen 35;clear kk)
  |(go_at_call 41;have hp0:x4.grownBy (x4.setCell ⟨x1.heap.size,35,none⟩ (.int .i64 v4)) (some x1.heap.size):=(AE (World.grownBy.refl x4 (some x1.heap.size)) (p:=⟨x1.heap.size,35,none⟩) (.inl rfl) (.int .i64 v4));replace HPB:=I (Vw (y:=v4) HK32.o HPB.o);replace HD:=I (DI HD.o hp0 (by have:=HPG.o;omega) HG.o.size (by have:=HPG.o;have:=HGD.o;omega));replace HR:=I (HR.o.grown hp0 (by intro e;injection e with e;have:=HPG.o;have:=HGD.o;omega));replace HG:=I (Av HG.o hp0 HG.o.size (by have:=HPG.o;have:=HGD.o;omega));clear hp0;(try clear k9 f0);(try clear k8 f8);(with_reducible refine Calls.mono (T5.o gd _ HD.o HG.o.size (by have:=HGD.o;omega)) ?_);rintro e x5 ⟨rfl,hd,hg3⟩;clear T5;replace HD:=I hd;replace HR:=I (HR.o.grown hg3 (by intro e;injection e with e;have:=HGD.o;omega));replace HG:=I (Av HG.o hg3 HG.o.size (by have:=HGD.o;omega));replace HPB:=I (HPB.o.grown hg3 (by intro e;injection e with e;have:=HPG.o;omega));clear hd hg3;have kk:=Eo HK32.o HPB.o;have k9:x5.cell? ⟨x1.heap.size,36,none⟩=some (.int .i64 0):=kk.2.2.2.2;have f0:=HPB.o.frozen 36;clear kk)
  |fail)
 cases s5 with
 |none=>
  have hD:ptD b=none:=by
   cases hd:ptD b with
   |none=>rfl
   |some p=>exact absurd (OK.o p hd) (by simp)
  have GE:=I (show(ptC (ptG b)).toArray=zz by rw[ptG,hD];exact EZ0.o);have IE:=I (show ptI b=2 by rw[ptI,hD];rfl);clear ED OK hD;cases ho:ptO ⟨v1,v2,v3,v4,v5⟩ with
  |none=>
   rw[ho] at EN;clear ho
   go_wp2_with (first
    |(have hp0:x5.grownBy (x5.setCell ⟨x1.heap.size,36,none⟩ (.int .i64 v5)) (some x1.heap.size):=(AE (World.grownBy.refl x5 (some x1.heap.size)) (p:=⟨x1.heap.size,36,none⟩) (.inl rfl) (.int .i64 v5));replace HPB:=I (Hb (y:=v5) HK32.o HPB.o);replace HD:=I (DI HD.o hp0 (by have:=HPG.o;omega) HG.o.size (by have:=HPG.o;have:=HGD.o;omega));replace HR:=I (HR.o.grown hp0 (by intro e;injection e with e;have:=HPG.o;have:=HGD.o;omega));replace HG:=I (Av HG.o hp0 HG.o.size (by have:=HPG.o;have:=HGD.o;omega));clear hp0;(try clear k9 f0);(try clear k8 f8);replace HPB:=I (show Blk (x5.setCell ⟨x1.heap.size,36,none⟩ (.int .i64 v5)) x1.heap.size 39 cs from ECS.o▸HPB.o);refine Am (by rfl) 39 (.tmp 6) (by rfl) x1.heap.size 0 (by rfl) cs _ (Ae HPB.o) Tryz.underlying39 (by rfl) HCI.o ?_;generalize x5.setCell ⟨x1.heap.size,36,none⟩ (.int .i64 v5)=V9 at HPB HD HR HG⊢;have HON:=I (show True from trivial))
    |(go_at_call 20;refine Calls.mono (EN.o _) ?_;rintro e we ⟨⟨v,i,rfl,hn,hsm⟩,hb⟩;obtain⟨rfl,rfl⟩:=hn rfl;clear EN;replace HPB:=I (HPB.o.below hb);replace HD:=I (DL HD.o hb HG.o.size);replace HR:=I (HR.o.below hb);replace HG:=HG.t hb;clear hb hn hsm;have kc:=Gu HD.o;have k7:we.cell? ⟨gd,1,none⟩=some (.bool true):=kc.1;clear kc)
    |(refine AA (by rfl) 39 #[] (by rfl) zz (by simp;exact HZB.o) ?_)
    |(refine wpList_store_mid (by rfl) 39 (.tmp 2) (.tmp 49) (by rfl) w.heap.size 0 zz (by rfl) (by rfl) (Ar HR.o _ Ag) HZI.o HZO.o ?_)
    |fail)
   have hE:=AG (ds:=zz) HR.o (by have:=HZS.o;have:=HCS.o;omega);have hp:=AM we w.heap.size zz.toList;have hq:=Al (P:=Tryz.prog) hE Tryz.underlying39 rfl HZI.o;refine bodyPost_ret (v:=.tuple #[.agg zz,.int .i64 2]) ?_ ?_ ?_
   ·exact Ad (v:=.agg zz) 2 3 39 ⟨w.heap.size,0,none⟩ Tryz.results13 rfl hq rfl
   ·rfl
   exact⟨by rw[GE.o,IE.o],Av HG.o hp HG.o.size Ag⟩
  |some l=>
   rw[ho] at EN;clear ho
   go_wp2_with (first
    |(have hp0:x5.grownBy (x5.setCell ⟨x1.heap.size,36,none⟩ (.int .i64 v5)) (some x1.heap.size):=(AE (World.grownBy.refl x5 (some x1.heap.size)) (p:=⟨x1.heap.size,36,none⟩) (.inl rfl) (.int .i64 v5));replace HPB:=I (Hb (y:=v5) HK32.o HPB.o);replace HD:=I (DI HD.o hp0 (by have:=HPG.o;omega) HG.o.size (by have:=HPG.o;have:=HGD.o;omega));replace HR:=I (HR.o.grown hp0 (by intro e;injection e with e;have:=HPG.o;have:=HGD.o;omega));replace HG:=I (Av HG.o hp0 HG.o.size (by have:=HPG.o;have:=HGD.o;omega));clear hp0;(try clear k9 f0);(try clear k8 f8);replace HPB:=I (show Blk (x5.setCell ⟨x1.heap.size,36,none⟩ (.int .i64 v5)) x1.heap.size 39 cs from ECS.o▸HPB.o);refine Am (by rfl) 39 (.tmp 6) (by rfl) x1.heap.size 0 (by rfl) cs _ (Ae HPB.o) Tryz.underlying39 (by rfl) HCI.o ?_;generalize x5.setCell ⟨x1.heap.size,36,none⟩ (.int .i64 v5)=V9 at HPB HD HR HG⊢;have HON:=I (show True from trivial))
    |(go_at_call 20;refine Calls.mono (EN.o _) ?_;rintro e we ⟨⟨v,i,rfl,hn,hsm⟩,hb⟩;obtain⟨rfl,gx,cx,rfl,hgx,hcx,hrx⟩:=hsm l rfl;clear EN;replace HPB:=I (HPB.o.below hb);replace HD:=I (DL HD.o hb HG.o.size);replace HR:=I (HR.o.below hb);replace HG:=HG.t hb;clear hb hn hsm;have kc:=Gu HD.o;have k7:we.cell? ⟨gd,1,none⟩=some (.bool true):=kc.1;clear kc)
    |(refine AA (by rfl) 39 #[] (by rfl) zz (by simp;exact HZB.o) ?_)
    |(refine wpList_store_mid (by rfl) 39 (.tmp 2) (.tmp 49) (by rfl) w.heap.size 0 zz (by rfl) (by rfl) (Ar HR.o _ Ag) HZI.o HZO.o ?_)
    |fail)
   have hE:=AG (ds:=zz) HR.o (by have:=HZS.o;have:=HCS.o;omega);have hp:=AM we w.heap.size zz.toList;have hq:=Al (P:=Tryz.prog) hE Tryz.underlying39 rfl HZI.o;refine bodyPost_ret (v:=.tuple #[.agg zz,.int .i64 2]) ?_ ?_ ?_
   ·exact Ad (v:=.agg zz) 2 3 39 ⟨w.heap.size,0,none⟩ Tryz.results13 rfl hq rfl
   ·rfl
   exact⟨by rw[GE.o,IE.o],Av HG.o hp HG.o.size Ag⟩
 |some r5=>
  cases ho:ptO ⟨v1,v2,v3,v4,v5⟩ with
  |none=>
   rw[ho] at EN;have hD:ptD b=none:=by rw[ED.o,ho];rfl
   have GE:=I (show(ptC (ptG b)).toArray=zz by rw[ptG,hD];exact EZ0.o);have IE:=I (show ptI b=2 by rw[ptI,hD];rfl);clear ED OK hD ho
   go_wp2_with (first
    |(have hp0:x5.grownBy (x5.setCell ⟨x1.heap.size,36,none⟩ (.int .i64 v5)) (some x1.heap.size):=(AE (World.grownBy.refl x5 (some x1.heap.size)) (p:=⟨x1.heap.size,36,none⟩) (.inl rfl) (.int .i64 v5));replace HPB:=I (Hb (y:=v5) HK32.o HPB.o);replace HD:=I (DI HD.o hp0 (by have:=HPG.o;omega) HG.o.size (by have:=HPG.o;have:=HGD.o;omega));replace HR:=I (HR.o.grown hp0 (by intro e;injection e with e;have:=HPG.o;have:=HGD.o;omega));replace HG:=I (Av HG.o hp0 HG.o.size (by have:=HPG.o;have:=HGD.o;omega));clear hp0;(try clear k9 f0);(try clear k8 f8);replace HPB:=I (show Blk (x5.setCell ⟨x1.heap.size,36,none⟩ (.int .i64 v5)) x1.heap.size 39 cs from ECS.o▸HPB.o);refine Am (by rfl) 39 (.tmp 6) (by rfl) x1.heap.size 0 (by rfl) cs _ (Ae HPB.o) Tryz.underlying39 (by rfl) HCI.o ?_;generalize x5.setCell ⟨x1.heap.size,36,none⟩ (.int .i64 v5)=V9 at HPB HD HR HG⊢;have HON:=I (show True from trivial))
    |(go_at_call 20;refine Calls.mono (EN.o _) ?_;rintro e we ⟨⟨v,i,rfl,hn,hsm⟩,hb⟩;obtain⟨rfl,rfl⟩:=hn rfl;clear EN;replace HPB:=I (HPB.o.below hb);replace HD:=I (DL HD.o hb HG.o.size);replace HR:=I (HR.o.below hb);replace HG:=HG.t hb;clear hb hn hsm;have kc:=Gu HD.o;have k7:we.cell? ⟨gd,1,none⟩=some (.bool false):=kc.1;clear kc)
    |(refine AA (by rfl) 39 #[] (by rfl) zz (by simp;exact HZB.o) ?_)
    |(refine wpList_store_mid (by rfl) 39 (.tmp 2) (.tmp 49) (by rfl) w.heap.size 0 zz (by rfl) (by rfl) (Ar HR.o _ Ag) HZI.o HZO.o ?_)
    |fail)
   have hE:=AG (ds:=zz) HR.o (by have:=HZS.o;have:=HCS.o;omega);have hp:=AM we w.heap.size zz.toList;have hq:=Al (P:=Tryz.prog) hE Tryz.underlying39 rfl HZI.o;refine bodyPost_ret (v:=.tuple #[.agg zz,.int .i64 2]) ?_ ?_ ?_
   ·exact Ad (v:=.agg zz) 2 3 39 ⟨w.heap.size,0,none⟩ Tryz.results13 rfl hq rfl
   ·rfl
   exact⟨by rw[GE.o,IE.o],Av HG.o hp HG.o.size Ag⟩
  |some l=>
   rw[ho] at EN
   by_cases hlb:l=b
   ·have tb:(l==b)=true:=by simpa using hlb
    have tb2:(l != b)=false:=by simpa using hlb
    have hD:ptD b=some ⟨v1,v2,v3,v4,v5⟩:=by rw[ED.o,ho,if_pos (by rw[hlb])]
    have GE:=I (show(ptC (ptG b)).toArray=cs by rw[ptG,hD];exact ECS.o.symm);have IE:=I (show ptI b=0 by rw[ptI,hD];rfl);clear ED OK hD ho hlb
    go_wp2_with (first
     |(have hp0:x5.grownBy (x5.setCell ⟨x1.heap.size,36,none⟩ (.int .i64 v5)) (some x1.heap.size):=(AE (World.grownBy.refl x5 (some x1.heap.size)) (p:=⟨x1.heap.size,36,none⟩) (.inl rfl) (.int .i64 v5));replace HPB:=I (Hb (y:=v5) HK32.o HPB.o);replace HD:=I (DI HD.o hp0 (by have:=HPG.o;omega) HG.o.size (by have:=HPG.o;have:=HGD.o;omega));replace HR:=I (HR.o.grown hp0 (by intro e;injection e with e;have:=HPG.o;have:=HGD.o;omega));replace HG:=I (Av HG.o hp0 HG.o.size (by have:=HPG.o;have:=HGD.o;omega));clear hp0;(try clear k9 f0);(try clear k8 f8);replace HPB:=I (show Blk (x5.setCell ⟨x1.heap.size,36,none⟩ (.int .i64 v5)) x1.heap.size 39 cs from ECS.o▸HPB.o);refine Am (by rfl) 39 (.tmp 6) (by rfl) x1.heap.size 0 (by rfl) cs _ (Ae HPB.o) Tryz.underlying39 (by rfl) HCI.o ?_;generalize x5.setCell ⟨x1.heap.size,36,none⟩ (.int .i64 v5)=V9 at HPB HD HR HG⊢;have HON:=I (show True from trivial))
     |(go_at_call 20;refine Calls.mono (EN.o _) ?_;rintro e we ⟨⟨v,i,rfl,hn,hsm⟩,hb⟩;obtain⟨rfl,gx,cx,rfl,hgx,hcx,hrx⟩:=hsm l rfl;clear EN;replace HPB:=I (HPB.o.below hb);replace HD:=I (DL HD.o hb HG.o.size);replace HR:=I (HR.o.below hb);replace HG:=HG.t hb;clear hb hn hsm;have kc:=Gu HD.o;have k7:we.cell? ⟨gd,1,none⟩=some (.bool false):=kc.1;clear kc;have hcv1:=AW (P:=Tryz.prog) we 26 5 Tryz.underlying26 Tryz.underlying5 hrx l.length cx rfl 9 Tryz.underlying9;have hcv2:=AW (P:=Tryz.prog) we 26 5 Tryz.underlying26 Tryz.underlying5 (HRD.o we HG.o) b.length c rfl 9 Tryz.underlying9)
     |(refine Am (by rfl) 39 (.tmp 6) (by rfl) x1.heap.size 0 (by rfl) cs _ (by have:=HON.o;exact Ae HPB.o) Tryz.underlying39 (by rfl) HCI.o ?_)
     |(refine wpList_store_mid (by rfl) 39 (.tmp 2) (.tmp 50) (by rfl) w.heap.size 0 cs (by rfl) (by rfl) (Ar HR.o _ (by have:=HZS.o;have:=HCS.o;omega)) HCI.o HCO.o ?_)
     |fail)
    have hE:=AG (ds:=cs) HR.o (by have:=HZS.o;have:=HCS.o;omega);have hp:=AM we w.heap.size cs.toList;have hq:=Al (P:=Tryz.prog) hE Tryz.underlying39 rfl HCI.o;refine bodyPost_ret (v:=.tuple #[.agg cs,.int .i64 0]) ?_ ?_ ?_
    ·exact Ad (v:=.agg cs) 2 3 39 ⟨w.heap.size,0,none⟩ Tryz.results13 rfl hq rfl
    ·rfl
    exact⟨by rw[GE.o,IE.o],Av HG.o hp HG.o.size Ag⟩
   ·have tb:(l==b)=false:=by simpa using hlb
    have tb2:(l != b)=true:=by simpa using hlb
    have hD:ptD b=none:=by rw[ED.o,ho,if_neg (fun h=>hlb (Option.some.inj h))]
    have GE:=I (show(ptC (ptG b)).toArray=zz by rw[ptG,hD];exact EZ0.o);have IE:=I (show ptI b=2 by rw[ptI,hD];rfl);clear ED OK hD ho hlb
    go_wp2_with (first
     |(have hp0:x5.grownBy (x5.setCell ⟨x1.heap.size,36,none⟩ (.int .i64 v5)) (some x1.heap.size):=(AE (World.grownBy.refl x5 (some x1.heap.size)) (p:=⟨x1.heap.size,36,none⟩) (.inl rfl) (.int .i64 v5));replace HPB:=I (Hb (y:=v5) HK32.o HPB.o);replace HD:=I (DI HD.o hp0 (by have:=HPG.o;omega) HG.o.size (by have:=HPG.o;have:=HGD.o;omega));replace HR:=I (HR.o.grown hp0 (by intro e;injection e with e;have:=HPG.o;have:=HGD.o;omega));replace HG:=I (Av HG.o hp0 HG.o.size (by have:=HPG.o;have:=HGD.o;omega));clear hp0;(try clear k9 f0);(try clear k8 f8);replace HPB:=I (show Blk (x5.setCell ⟨x1.heap.size,36,none⟩ (.int .i64 v5)) x1.heap.size 39 cs from ECS.o▸HPB.o);refine Am (by rfl) 39 (.tmp 6) (by rfl) x1.heap.size 0 (by rfl) cs _ (Ae HPB.o) Tryz.underlying39 (by rfl) HCI.o ?_;generalize x5.setCell ⟨x1.heap.size,36,none⟩ (.int .i64 v5)=V9 at HPB HD HR HG⊢;have HON:=I (show True from trivial))
     |(go_at_call 20;refine Calls.mono (EN.o _) ?_;rintro e we ⟨⟨v,i,rfl,hn,hsm⟩,hb⟩;obtain⟨rfl,gx,cx,rfl,hgx,hcx,hrx⟩:=hsm l rfl;clear EN;replace HPB:=I (HPB.o.below hb);replace HD:=I (DL HD.o hb HG.o.size);replace HR:=I (HR.o.below hb);replace HG:=HG.t hb;clear hb hn hsm;have kc:=Gu HD.o;have k7:we.cell? ⟨gd,1,none⟩=some (.bool false):=kc.1;clear kc;have hcv1:=AW (P:=Tryz.prog) we 26 5 Tryz.underlying26 Tryz.underlying5 hrx l.length cx rfl 9 Tryz.underlying9;have hcv2:=AW (P:=Tryz.prog) we 26 5 Tryz.underlying26 Tryz.underlying5 (HRD.o we HG.o) b.length c rfl 9 Tryz.underlying9)
     |(refine AA (by rfl) 39 #[] (by rfl) zz (by simp;exact HZB.o) ?_)
     |(refine wpList_store_mid (by rfl) 39 (.tmp 2) (.tmp 49) (by rfl) w.heap.size 0 zz (by rfl) (by rfl) (Ar HR.o _ Ag) HZI.o HZO.o ?_)
     |fail)
    have hE:=AG (ds:=zz) HR.o (by have:=HZS.o;have:=HCS.o;omega);have hp:=AM we w.heap.size zz.toList;have hq:=Al (P:=Tryz.prog) hE Tryz.underlying39 rfl HZI.o;refine bodyPost_ret (v:=.tuple #[.agg zz,.int .i64 2]) ?_ ?_ ?_
    ·exact Ad (v:=.agg zz) 2 3 39 ⟨w.heap.size,0,none⟩ Tryz.results13 rfl hq rfl
    ·rfl
    exact⟨by rw[GE.o,IE.o],Av HG.o hp HG.o.size Ag⟩
end Mc
end Go.Proofs.YtlchkbpffaclmaaGreat
