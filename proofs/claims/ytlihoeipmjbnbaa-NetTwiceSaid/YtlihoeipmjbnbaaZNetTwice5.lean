/-
  The statement of NetTwice: the walk's contract carried to the row: for every input the call answers true, and each argument reads as it did.
-/
import Derived.StillTailTactics
import Derived.OwnWalk
import Derived.Deep.CutBlock
import Derived.Deep.RegionHeld3
import Derived.ProofKit
import Derived.OpenShut
import Derived.ShutString
import Derived.ChangeOld
import Derived.Deep.Matrix
import Derived.Deep.Slices
import Derived.Test.YtlihoeipmjbnbaaProg
import Derived.Laws.StructEq
import Derived.Deep.LoopGhost
import Derived.Test.YtlihoeipmjbnbaaRows
import Derived.WalkKit
import Derived.Below
import Derived.Test.YtlihoeipmjbnbaaZNetTwice1
import Derived.Test.YtlihoeipmjbnbaaZNetTwice2
import Derived.Test.YtlihoeipmjbnbaaZNetTwice3
import Derived.Test.YtlihoeipmjbnbaaZNetTwice4
section
set_option linter.unusedVariables false
set_option linter.unusedSimpArgs false
namespace Go.Proofs.Ytlihoeipmjbnbaa.Nt
open Go.RowKit Go.Proofs.Ytlihoeipmjbnbaa.Mem Go.Proofs.Ytlihoeipmjbnbaa.Se
open Go.Proofs.Ytlihoeipmjbnbaa.Nm (L)
open Go.Proofs.Ytlihoeipmjbnbaa.Ca (Own1 rd_chg)
open Go.Proofs.Ytlihoeipmjbnbaa.Rg (flat_at RdR own_rdr own_chg)
def pkN (k:Nat):Pk:=⟨0,(k:Int),[UInt8.ofNat k]⟩
theorem byte_k (k:Nat) (h:k≤255):bv (UInt8.ofNat k) = .int .u8 (k:Int):=by
 simp [bv];omega
theorem at_es {es:List En} {n k:Nat} (h:pks es=(List.range n).map pkN) (hk:k<n):∃x,es[k]? = some x∧x.p=pkN k:=by
 have h1:(pks es)[k]? = some (pkN k):=by rw[h];simp [hk]
 unfold pks at h1
 rw[List.getElem?_map] at h1
 cases hx:es[k]? with
 |none=>rw[hx] at h1;cases h1
 |some x=>rw[hx] at h1;injection h1 with h1;exact⟨x,rfl,h1⟩
theorem es_small {es:List En} {n:Nat} (h:pks es=(List.range n).map pkN):∀e∈es,e.p.b.length≤2000:=by
 intro e he
 have:e.p∈pks es:=List.mem_map.2 ⟨e,he,rfl⟩
 rw[h] at this
 obtain⟨k,_,hk⟩:=List.mem_map.1 this
 rw[←hk]
 simp [pkN]
theorem es_len {es:List En} {n:Nat} (h:pks es=(List.range n).map pkN):es.length=n:=by
 have:=congrArg List.length h
 rw[pks_length] at this
 simpa using this
theorem ls_num {a w:World} {v:Value} {fs es:List En} {n:Nat} (h:Ls a w v fs) (he:pks fs=pks es) (hn:es.length=n):∃A c,v = .slice A n c:=by
 obtain⟨A,c,e,_⟩:=own_rdr enC_length h.row
 have:fs.length=n:=by have:=congrArg List.length he;rw[pks_length,pks_length] at this;omega
 rw[this] at e
 exact⟨A,c,e⟩
set_option maxRecDepth 100000 in
set_option maxHeartbeats 1600000 in
theorem two_no (n i:Int) (w:World) (h:¬(1≤n∧n≤32∧-1≤i∧i≤n)):Calls Try.prog 7 #[.int .i64 n,.int .i64 i] w fun e w'=>e = .returned (.bool true)∧Below w.heap.size w w':=by
 by_cases h0:n<1
 ·have t0:decide (n<1)=true:=decide_eq_true h0
  clear h h0
  go_enter Try.func7,Try.ntmps7
  go_wp2
  go_ret
  exact⟨rfl,Below.refl _ _⟩
 have t0:decide (n<1)=false:=decide_eq_false h0
 by_cases h1:32<n
 ·have t1:decide (32<n)=true:=decide_eq_true h1
  clear h h1
  go_enter Try.func7,Try.ntmps7
  go_wp2
  go_ret
  exact⟨rfl,Below.refl _ _⟩
 have t1:decide (32<n)=false:=decide_eq_false h1
 by_cases h2:i < -1
 ·have t2:decide (i < -1)=true:=decide_eq_true h2
  clear h h2
  go_enter Try.func7,Try.ntmps7
  go_wp2
  go_ret
  exact⟨rfl,Below.refl _ _⟩
 have t2:decide (i < -1)=false:=decide_eq_false h2
 by_cases h3:n<i
 ·have t3:decide (n<i)=true:=decide_eq_true h3
  clear h h3
  go_enter Try.func7,Try.ntmps7
  go_wp2
  go_ret
  exact⟨rfl,Below.refl _ _⟩
 have t3:decide (n<i)=false:=decide_eq_false h3
 exact absurd ⟨by omega,by omega,by omega,by omega⟩ h
set_option maxRecDepth 100000 in
set_option maxHeartbeats 3200000 in
theorem two_in (m:Nat) (i:Int) (w:World) (hm1:1≤m) (hm:m≤32) (hi1 : -1≤i) (hi2:i≤(m:Int)):Calls Try.prog 7 #[.int .i64 (m:Int),.int .i64 i] w fun e w'=>e = .returned (.bool true)∧Below w.heap.size w w':=by
 obtain⟨B,eB⟩:∃B,B=w.heap.size:=⟨_,rfl⟩
 have c1:=nt_new B w (Nat.le_of_eq eB)
 rw[←eB] at c1
 have HM:=Lib.hid hm
 have HM1:=Lib.hid hm1
 have HI1:=Lib.hid hi1;have HI2:=Lib.hid hi2
 have CK:=Lib.hid (fun w1=>known_any w1)
 have EB:=Lib.hid eB
 have HB:=Lib.hid (show Below B w w from eB▸Below.refl _ _)
 have t1:decide ((m:Int)<1)=false:=by simp;omega
 have t2:decide ((32:Int)<(m:Int))=false:=by simp;omega
 have t3:decide (i < -1)=false:=by simp;omega
 have t4:decide ((m:Int)<i)=false:=by simp;omega
 clear eB hm hm1 hi1 hi2
 go_enter Try.func7,Try.ntmps7
 go_wp2_with (first
  |(go_at_call 9;refine Calls.mono c1 ?_;rintro e1 w1 ⟨rfl,hn,hb,hsz⟩;clear c1;have HN:=Lib.hid hn;replace HB:=Lib.hid hb;clear hb hn hsz)
  |fail)
 clear t1 t2 t3 t4
 go_loopw [6] (fun iv wr=>∃(j:Nat) (vs vw:Value) (es:List En),j≤m∧iv = .int .i64 (j:Int)∧Below B w wr∧Nt wr B B vs vw es (List.range j)∧pks es=(List.range j).map pkN) (fun iv _=>m - (intOf iv).toNat)
 case atStart=>exact⟨0,_,_,[],Nat.zero_le _,rfl,HB.out,HN.out,rfl⟩
 case round=>
  clear HB HN
  obtain⟨j,vs,vw,es,hj,rfl,hb,hn,hes⟩:=hrel
  have HB:=Lib.hid hb;have HN:=Lib.hid hn;have HES:=Lib.hid hes
  have HLE:=Lib.hid (es_len hes)
  clear hb hn hes
  by_cases hlt:j<m
  ·have e1:(j:Int)<(m:Int):=by omega
   have e9:(j:Int)≤50:=by have:=HM.out;omega
   have e8:IntKind.u8.wrap (j:Int)=(j:Int):=by rw[IntKind.wrap_u8];have:=HM.out;omega
   have c2:=send_lit HN.out 0 (j:Int) (UInt8.ofNat j) (0,0) (by have:=HM.out;rw[List.length_range];omega) (by have:=HLE.out;have:=HM.out;omega)
   rw[byte_k j (by have:=HM.out;omega)] at c2
   go_wp2_with (first
    |(go_at_call 10;refine Calls.mono c2 ?_;rintro e w2 ⟨rfl,vs2,vw2,A2,c2',hs⟩;clear c2;rw[HLE.out,←List.range_succ] at hs;have HN2:=Lib.hid hs.nt;have HB2:=Lib.hid (HB.out.trans (hs.low HN.out));clear hs)
    |fail)
   go_roundw
   case rel=>exact⟨j+1,vs2,vw2,_,by omega,by go_num,HB2.out,HN2.out,by rw[List.range_succ,List.map_append,←HES.out];simp [pks,pkN]⟩
   case measure=>simp [intOf];omega
  ·have e1:¬(j:Int)<(m:Int):=by omega
   obtain rfl:m=j:=by omega
   have hlr:(List.range m).length=m:=List.length_range
   have CL:=Lib.hid (fun(vw':Value) (ws':List Nat) (w1:World) (h:Nt w1 B B vs vw' es ws')=>nt_len B B vs vw' es ws' w1 h)
   have CV:=Lib.hid (fun(vw':Value) (ws':List Nat) (w1:World) (h:Nt w1 B B vs vw' es ws')=>seen_any B B vs vw' es ws' w1 h (es_small HES.out) (by have:=HLE.out;have:=HM.out;omega))
   by_cases hok:(0≤i∧i<(m:Int))∧m<32
   ·obtain⟨⟨p0,p1⟩,p2⟩:=hok
    obtain⟨k,rfl⟩:=Int.eq_ofNat_of_zero_le p0
    have p3:(m:Int)<32:=by omega
    have hkm:k<m:=by omega
    have ct:=twice_b HN.out k k (by simp [hkm]) (by rw[hlr];exact p2)
    obtain⟨x,hx,hxp⟩:=at_es HES.out hkm
    have q1:(List.range m++[k])[m]? = some k:=by rw[List.getElem?_append_right (by simp)];simp
    have q2:(List.range m++[k])[k]? = some k:=by rw[List.getElem?_append_left (by simp [hkm])];simp [hkm]
    have q3:x.p.b.length≤100000000000:=by rw[hxp];simp [pkN]
    have CA1:=Lib.hid (fun(vw':Value) (w1:World) (h:Nt w1 B B vs vw' es (List.range m++[k]))=>at_ok B B vs vw' es _ m k x w1 h q1 hx q3)
    have CA2:=Lib.hid (fun(vw':Value) (w1:World) (h:Nt w1 B B vs vw' es (List.range m++[k]))=>at_ok B B vs vw' es _ k k x w1 h q2 hx q3)
    have HLW:=Lib.hid (show(List.range m++[k]).length=m+1 by simp)
    have HXT:=Lib.hid (show x.p.t=(k:Int) by rw[hxp];rfl)
    clear hx hxp q1 q2 q3 hkm hlr hlt
    go_wp2_with (first
     |(go_at_call 15;refine Calls.mono ct ?_;rintro e w2 ⟨rfl,vw2,hs⟩;clear ct;have HN2:=Lib.hid hs.nt;have HB2:=Lib.hid (HB.out.trans (hs.low HN.out));clear hs HN HB)
     |(go_at_call 17;refine Calls.mono (CA1.out _ _ HN2.out) ?_;rintro e w3 ⟨A1,d1,rfl,ho,hb⟩;clear CA1;have HN3:=Lib.hid (HN2.out.below hb);have HB3:=Lib.hid (HB2.out.trans (hb.mono HN2.out.big));obtain⟨xs,exs⟩:∃xs,xs=pkA x.p A1 d1:=⟨_,rfl⟩;rw[←exs];have HXS:=Lib.hid (show xs.size=3 by rw[exs,pkA_size]);have HXI:=Lib.hid (show(Try.prog.info? 32).map (·.size)=some xs.size by rw[exs];exact pk_info);have HX1:=Lib.hid (show xs.all (·.oneCell')=true by rw[exs];exact pkA_one _ _ _);have HXC:=Lib.hid (show xs[1]? = some (.int .i64 (k:Int)) by rw[exs,←HXT.out];rfl);clear ho hb exs HN2 HB2)
     |(refine Wh.store_new (by rfl) 32 (.tmp 8) (.tmp 78) (by rfl) 32 rfl xs (by rfl) (by rfl) (by rw[HXS.out];rfl) HXI.out HX1.out ?_;rintro V hV hb;have HP:=Lib.hid hV;have HN4:=Lib.hid (HN3.out.below hb);have HB4:=Lib.hid (HB3.out.trans (hb.mono HN3.out.big));clear hV hb HN3 HB3)
     |(go_at_call 17;refine Calls.mono (CA2.out _ _ HN4.out) ?_;rintro e w5 ⟨A2,d2,rfl,ho,hb⟩;clear CA2;have HN5:=Lib.hid (HN4.out.below hb);have HB5:=Lib.hid (HB4.out.trans (hb.mono HN4.out.big));have HP5:=Lib.hid (HP.out.below hb);obtain⟨ys,eys⟩:∃ys,ys=pkA x.p A2 d2:=⟨_,rfl⟩;rw[←eys];have HYS:=Lib.hid (show ys.size=3 by rw[eys,pkA_size]);have HYI:=Lib.hid (show(Try.prog.info? 32).map (·.size)=some ys.size by rw[eys];exact pk_info);have HY1:=Lib.hid (show ys.all (·.oneCell')=true by rw[eys];exact pkA_one _ _ _);have HYC:=Lib.hid (show ys[1]? = some (.int .i64 (k:Int)) by rw[eys,←HXT.out];rfl);clear ho hb eys HN4 HB4 HP)
     |(refine Wh.store_new (by rfl) 32 (.tmp 10) (.tmp 84) (by rfl) 32 rfl ys (by rfl) (by rfl) (by rw[HYS.out];rfl) HYI.out HY1.out ?_;rintro V6 hV hb;have k2:=(hV.cell 1).trans HYC.out;have k1:=((HP5.out.below hb).cell 1).trans HXC.out;have HN6:=Lib.hid (HN5.out.below hb);have HB6:=Lib.hid (HB5.out.trans (hb.mono HN5.out.big));clear hV hb HN5 HB5)
     |(go_at_call 19;refine Calls.mono (CL.out _ _ _ HN6.out) ?_;rintro e w7 ⟨rfl,hw⟩;have hw:=hw.symm;subst hw;rw[HLW.out];clear CL)
     |(go_at_call 20;refine Calls.mono (CV.out _ _ _ HN6.out) ?_;rintro e w8 ⟨v8,fs8,rfl,hls,hfs,hb⟩;clear CV;obtain⟨A8,c8,rfl⟩:=ls_num hls hfs HLE.out;have HB8:=Lib.hid (HB6.out.trans (hb.mono HN6.out.big));have HS8:=Lib.hid (Nat.le_trans HN6.out.big hb.size);clear hb hls hfs k1 k2)
     |(go_at_call 21;refine Calls.mono (CK.out _) ?_;rintro e w9 ⟨rfl,hb⟩;have HB9:=Lib.hid (HB8.out.trans (hb.mono HS8.out));clear hb)
     |fail)
    go_ret
    exact⟨rfl,by have h:=HB9.out;rw[EB.out] at h;exact h⟩
   ·have ct:=twice_no B B vs vw es (List.range m) i wr HN.out (by
     rw[hlr]
     intro hx
     unfold hasB at hx
     simp only[Bool.and_eq_true,decide_eq_true_eq] at hx
     exact hok hx)
    have HLW:=Lib.hid hlr
    have HOK:=Lib.hid hok
    have C4:=Lib.hid CL.out
    clear hlr hlt hok
    by_cases a0:0≤i
    ·have b0:decide (0≤i)=true:=decide_eq_true a0
     by_cases a1:i<(m:Int)
     ·have b1:decide (i<(m:Int))=true:=decide_eq_true a1
      have b2:decide ((m:Int)<32)=false:=decide_eq_false (fun h=>HOK.out ⟨⟨a0,a1⟩,by omega⟩)
      have b3:¬(m:Int)<32:=of_decide_eq_false b2
      go_wp2_with (first
       |(go_at_call 15;refine Calls.mono ct ?_;rintro e w2 ⟨rfl,hw⟩;have hw:=hw.symm;subst hw;clear ct)
       |(go_at_call 19;refine Calls.mono (CL.out _ _ _ HN.out) ?_;rintro e w7 ⟨rfl,hw⟩;have hw:=hw.symm;subst hw;rw[HLW.out];clear CL)
       |(go_at_call 20;refine Calls.mono (CV.out _ _ _ HN.out) ?_;rintro e w8 ⟨v8,fs8,rfl,hls,hfs,hb⟩;clear CV;obtain⟨A8,c8,rfl⟩:=ls_num hls hfs HLE.out;have HB8:=Lib.hid (HB.out.trans (hb.mono HN.out.big));have HS8:=Lib.hid (Nat.le_trans HN.out.big hb.size);clear hb hls hfs)
       |(go_at_call 21;refine Calls.mono (CK.out _) ?_;rintro e w9 ⟨rfl,hb⟩;have HB9:=Lib.hid (HB8.out.trans (hb.mono HS8.out));clear hb)
       |fail)
      go_ret
      exact⟨rfl,by have h:=HB9.out;rw[EB.out] at h;exact h⟩
     ·have b1:decide (i<(m:Int))=false:=decide_eq_false a1
      go_wp2_with (first
       |(go_at_call 15;refine Calls.mono ct ?_;rintro e w2 ⟨rfl,hw⟩;have hw:=hw.symm;subst hw;clear ct)
       |(go_at_call 19;refine Calls.mono (CL.out _ _ _ HN.out) ?_;rintro e w7 ⟨rfl,hw⟩;have hw:=hw.symm;subst hw;rw[HLW.out];clear CL)
       |(go_at_call 20;refine Calls.mono (CV.out _ _ _ HN.out) ?_;rintro e w8 ⟨v8,fs8,rfl,hls,hfs,hb⟩;clear CV;obtain⟨A8,c8,rfl⟩:=ls_num hls hfs HLE.out;have HB8:=Lib.hid (HB.out.trans (hb.mono HN.out.big));have HS8:=Lib.hid (Nat.le_trans HN.out.big hb.size);clear hb hls hfs)
       |(go_at_call 21;refine Calls.mono (CK.out _) ?_;rintro e w9 ⟨rfl,hb⟩;have HB9:=Lib.hid (HB8.out.trans (hb.mono HS8.out));clear hb)
       |fail)
      go_ret
      exact⟨rfl,by have h:=HB9.out;rw[EB.out] at h;exact h⟩
    ·have b0:decide (0≤i)=false:=decide_eq_false a0
     go_wp2_with (first
      |(go_at_call 15;refine Calls.mono ct ?_;rintro e w2 ⟨rfl,hw⟩;have hw:=hw.symm;subst hw;clear ct)
      |(go_at_call 19;refine Calls.mono (CL.out _ _ _ HN.out) ?_;rintro e w7 ⟨rfl,hw⟩;have hw:=hw.symm;subst hw;rw[HLW.out];clear CL)
      |(go_at_call 20;refine Calls.mono (CV.out _ _ _ HN.out) ?_;rintro e w8 ⟨v8,fs8,rfl,hls,hfs,hb⟩;clear CV;obtain⟨A8,c8,rfl⟩:=ls_num hls hfs HLE.out;have HB8:=Lib.hid (HB.out.trans (hb.mono HN.out.big));have HS8:=Lib.hid (Nat.le_trans HN.out.big hb.size);clear hb hls hfs)
      |(go_at_call 21;refine Calls.mono (CK.out _) ?_;rintro e w9 ⟨rfl,hb⟩;have HB9:=Lib.hid (HB8.out.trans (hb.mono HS8.out));clear hb)
      |fail)
     go_ret
     exact⟨rfl,by have h:=HB9.out;rw[EB.out] at h;exact h⟩
theorem two_law (n i:Int) (w:World):Calls Try.prog 7 #[.int .i64 n,.int .i64 i] w fun e w'=>e = .returned (.bool true)∧Below w.heap.size w w':=by
 by_cases h:1≤n∧n≤32∧-1≤i∧i≤n
 ·obtain⟨m,rfl⟩:=Int.eq_ofNat_of_zero_le (show 0≤n by omega)
  exact two_in m i w (by omega) (by omega) (by omega) (by omega)
 ·exact two_no n i w h
end Go.Proofs.Ytlihoeipmjbnbaa.Nt
end

section
namespace Go.Proofs.Ytlihoeipmjbnbaa.netTwice
open Go.ChangeShapes Go.WideShapes Go.ChangeAt Go.RowKit
open Go.ChangeMaps (open_string shut_string)
theorem own:ownKnob Try.prog.godebug=none:=by kernel_rfl
theorem laidOut:laidOutB Try.prog=true:=by kernel_rfl
set_option maxRecDepth 100000 in
theorem lifted (os:Os) (started:os.Started) (H:Type) (enc:TypeId×Value→H) :
  ReturnsInHanded {} Try.checked os 7 .any (Rows.netTwiceSpec.pre6 enc Try.prog Try.f7 Rows.netTwiceRow.domain false) (Rows.netTwiceSpec.post enc Try.prog Try.f7 false true false false):=by
 refine returnsInHanded_of_change (C:=Try.checked) own started (by kernel_rfl) Try.func7
  (ChangeSpec.witness6 (enc:=enc) (C:=Try.checked) false ⟨#[],#[.int .i64 0,.int .i64 0],[]⟩ 8 (by kernel_rfl) (by kernel_rfl) (by kernel_rfl) (by kernel_rfl)) ?_
 intro W base args ds gs before hval0 hW hcnd _
 have hval:∀(j:Nat) t v,Try.f7.params[j]? = some t→args[j]? = some v→Value.okWide Try.prog W .any base t v:=hval0
 have hW':=hW
 obtain⟨p,q,hA0,hV,rfl,hfz,hnd⟩:=hW
 have hA:DataW.TrodAll enc Try.prog W 0 (fun _=>true) true Try.f7.params.toList args.toList ds p:=hA0
 rw[Try.params7] at hA hval
 obtain⟨v0,vs0,d0,ds0,p0,q0,hargs,rfl,rfl,h0,r0⟩:=trodAll_cons hA
 obtain⟨v1,vs1,d1,ds1,p1,q1,rfl,rfl,rfl,h1,r1⟩:=trodAll_cons r0
 obtain⟨rfl,rfl,rfl⟩:=trodAll_nil r1
 obtain rfl:args=#[v0,v1]:=by cases args;simp_all
 obtain⟨rfl,rfl⟩:=trodVars_none hV
 obtain⟨a0,rfl,rfl,rfl,w0⟩:=open_int Try.underlying3 (hval 0 3 v0 rfl rfl) h0
 obtain⟨a1,rfl,rfl,rfl,w1⟩:=open_int Try.underlying3 (hval 1 3 v1 rfl rfl) h1
 clear hA0 hval0
 refine(Nt.two_law a0 a1 W).mono fun e W' ⟨he,bel⟩=>?_
 subst he
 exact⟨_,rfl,_,_,_,[],_,[],hW',trodAll_mk1 (shut_bool Try.underlying4 _),(trodAll_cons_mk (shut_int Try.underlying3 w0) (trodAll_cons_mk (shut_int Try.underlying3 w1) trodAll_mk0)),rfl,bel.frame _,fun h=>by cases h⟩
theorem over:Rows.netTwiceRow.holds Try.pinned (OpenSpec.ofChange Rows.netTwiceSpec):=
 OpenClaim.holds_of_wide 7 Try.f7 rfl rfl rfl rfl rfl rfl rfl ⟨rfl,rfl,rfl,rfl,rfl⟩ rfl rfl rfl rfl rfl (by kernel_rfl) Try.func7 (by kernel_rfl)
  (of_decide_eq_true (by kernel_rfl)) (by unfold Func.isWrapper;first | (rw[if_pos (by decide +kernel)];kernel_rfl) | (rw[if_neg (by decide +kernel)];exact⟨rfl,rfl⟩))
  (fun os started H enc _=>lifted os started H enc)
theorem proved:Rows.NetTwiceSaid:=over
end Go.Proofs.Ytlihoeipmjbnbaa.netTwice
end
