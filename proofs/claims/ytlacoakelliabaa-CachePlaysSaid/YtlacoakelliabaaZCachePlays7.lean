/-
  The statement of CachePlays: the walk's contract carried to the row: for every input the call answers true, and each argument reads as it did.
-/
import Derived.StillTailTactics
import Derived.Deep.CutBlock
import Derived.Deep.RegionHeld3
import Derived.Test.YtlacoakelliabaaProg
import Derived.Deep.LoopGhost
import Derived.Test.YtlacoakelliabaaRows
import Derived.WalkKit
import Derived.ProofKit
import Derived.OpenShut
import Derived.ShutString
import Derived.ChangeOld
import Derived.Below
import Derived.SizedLaws
import Derived.Test.YtlacoakelliabaaZCachePlays1
import Derived.Test.YtlacoakelliabaaZCachePlays2
import Derived.Test.YtlacoakelliabaaZCachePlays3
import Derived.Test.YtlacoakelliabaaZCachePlays4
import Derived.Test.YtlacoakelliabaaZCachePlays5
import Derived.Test.YtlacoakelliabaaZCachePlays6
section
set_option linter.unusedVariables false
set_option linter.unusedSimpArgs false
namespace Go.Proofs.Ytlacoakelliabaa.Ca
open Go.RowKit Go.Proofs.Ytlacoakelliabaa.Mem Go.Proofs.Ytlacoakelliabaa.Se Go.Proofs.Ytlacoakelliabaa.OpenK
open Go.Proofs.Ytlacoakelliabaa.Nm (L)
open Go.Proofs.Ytlacoakelliabaa.Rg (Pr prV pr_info RdR own_rdr own_chg chg_row exec_load_mid)
section
variable {w w':World} {N B B2 r q:Nat} {v v' dv dv':Value} {es es' ds ds':List En} {g:Nat}
def Ap (r:Nat) (v:Value) (es:List En) (q:Nat) (dv:Value):Prop:=∀k,DO q dv k→¬CO r v es k
theorem do_lt (h:DCa w N B2 q dv ds) {k:Nat} (hk:DO q dv k):k<w.heap.size:=h.own_lt hk
theorem ap_code (h:Ap r v es q dv) (hd:DCa w N B2 q dv ds) (hn:∀k,CO r v' es' k→CO r v es k∨w.heap.size≤k):Ap r v' es' q dv:=fun k hk x=>by
 rcases hn k x with y | y
 ·exact h k hk y
 ·have:=do_lt hd hk;omega
theorem ap_doc (h:Ap r v es q dv) (hr:Ca w B r v es) (hn:∀k,DO q dv' k→DO q dv k∨w.heap.size≤k):Ap r v es q dv':=fun k hk x=>by
 rcases hn k hk with y | y
 ·exact h k y x
 ·have:=hr.own_lt x;omega
theorem doc_put (h:Ap r v es q dv) (hd:DCa w N B2 q dv ds) (hr:Ca w B r v es) (hNB:N≤B) (hc:Chg (PT r v) w w'):DCa w' N B2 q dv ds:=
 hd.chg hc (fun k hk x=>h k hk (pt_co x)) (fun k _ x=>Nat.le_trans hNB (hr.own_lo (pt_co x)))
theorem code_put (h:Ap r v es q dv) (hr:Ca w B r v es) (hc:Chg (PT q dv) w w'):Ca w' B r v es:=hr.chg hc (fun k hk x=>h k x hk)
theorem below_doc {w0:World} (hb:Below B2 w0 w) (hd:DCa w N B2 q dv ds) (hc:Chg (PT q dv) w w'):Below B2 w0 w':=hb.trans (hc.below hd.big (fun k _ hk=>hd.own_lo hk))
end
def DPutP (w:World) (N B q:Nat) (v:Value) (l:List It) (z:Nat) (e:Ending) (w':World):Prop:=
 e = .returned (.int .i64 (z:Int))∧∃v' es',DCa w' N B q v' es'∧its es'=l∧Chg (PT q v) w w'∧(∀k,DO q v' k→DO q v k∨w.heap.size≤k)
theorem dput_b {w:World} {N B q:Nat} {v:Value} {ds:List En} (p:Pr) (x:Cr) (A:Option Addr) (c:Nat) (t:Int) (h:DCa w N B q v ds) (hx:Rd w N A (bvs x.b)) (hl:ds.length≤1000) {l:List It} {z:Nat} (el:docL (its ds) p x t=l) (ez:docE (its ds) p t=z) :
  Calls Try.prog 12 #[.pointer (some ⟨q,0,none⟩),prV p,.agg (crA x A c),.int .i64 t] w (DPutP w N B q v l z):=by
 refine(dput_any N B q v ds p x A c t w h hx hl).mono ?_
 rintro e w' ⟨rfl,v',es',k1,k2,k3,k4⟩
 rw[ez]
 exact⟨rfl,v',es',k1,k2.trans el,k3,k4⟩
def DGotP (w:World) (N:Nat) (o:Option It) (e:Ending) (w':World):Prop:=
 ∃A c rs,rs=crA (getX o) A c∧e = .returned (.tuple #[.agg rs,.bool o.isSome])∧rs.size=37∧(Try.prog.info? 38).map (·.size)=some rs.size∧rs.all (·.oneCell')=true∧Rd w' N A (bvs (getX o).b)∧Below w.heap.size w w'
theorem dget_b {w:World} {N B q:Nat} {v:Value} {ds:List En} (p:Pr) (t:Int) (h:DCa w N B q v ds) (hl:ds.length≤1000) {o:Option It} (ho:getO (its ds) p t=o) :
  Calls Try.prog 14 #[.pointer (some ⟨q,0,none⟩),prV p,.int .i64 t] w (DGotP w N o):=by
 refine(dget_any N B q v ds p t w h hl).mono ?_
 rintro e w' ⟨A,c,rfl,h1,h2⟩
 rw[ho] at h1⊢
 exact⟨A,c,_,rfl,rfl,crA_size _ _ _,by rw[crA_size];exact cr_info,crA_one _ _ _,h1,h2⟩
set_option maxRecDepth 100000 in
set_option maxHeartbeats 12800000 in
theorem plays_any (A:Option Addr) (l:List Ac) (c:Nat) (w:World) (hr:RdAc w w.heap.size A l) (hz:∀(i:Nat) (x:Ac),l[i]? = some x→AcR w w.heap.size x) :
  Calls Try.prog 3 #[.slice A l.length c] w fun e w'=>e = .returned (.bool true)∧Below w.heap.size w w':=by
 have CLG:=Lib.hid (clong_any A l c w hr hz)
 obtain⟨B,eB⟩:∃B,B=w.heap.size:=⟨_,rfl⟩
 have EB:=Lib.hid eB
 rw[←eB] at hr hz
 have HR:=Lib.hid hr
 have HZ:=Lib.hid hz
 obtain⟨n,en⟩:∃n,n=l.length:=⟨_,rfl⟩
 rw[←en] at CLG⊢
 have EN:=Lib.hid en
 have CK:=Lib.hid (fun w1=>cknown_any w1)
 clear hr hz en eB
 go_enter Try.func3,Try.ntmps3
 go_upto_region 1 with fail
 go_upto_if 12 with(go_at_call 9;refine Calls.mono CLG.out ?_;rintro e w1 ⟨bl,rfl,hbl,hb⟩;have HBL:=Lib.hid hbl;have HB0:=Lib.hid (EB.out▸hb:Below B w w1);have c2:=ca_new B w1 (Nat.le_trans (Nat.le_of_eq EB.out) hb.size);clear hb hbl CLG)
 cases bl with
 |true=>
  clear c2 HBL
  go_wp2
  go_ret
  exact⟨rfl,by have h:=HB0.out;rw[EB.out] at h;exact h⟩
 |false=>
  have HSM:=Lib.hid (HBL.out rfl)
  clear HBL
  go_wp2_with (first
   |(go_at_call 10;refine Calls.mono c2 ?_;rintro e w2 ⟨rfl,hca,hb,hsz⟩;clear c2;have HCA0:=Lib.hid hca;have HB1:=Lib.hid (HB0.out.trans (hb.mono (Nat.le_trans (Nat.le_of_eq EB.out) HB0.out.size)));clear hb hca hsz)
   |fail)
  have hal:=(Below.refl w2.heap.size w2).alloc (Nat.le_refl _) (.cells #[.slice none 0 0] 29)
  have hqb:B≤w2.heap.size:=HCA0.out.big
  have hdr:DCa (w2.alloc (.cells #[.slice none 0 0] 29)) B B w2.heap.size (.slice none 0 0) []:=⟨Blk.new w2 _ _,World.ownsRow_nil _ _ _ _,hqb,by simp [Value.ownBlock],Nat.le_refl _,(fun e he=>by cases he)⟩
  have HCA:=Lib.hid (HCA0.out.below hal)
  have HB:=Lib.hid (HB1.out.trans (hal.mono hqb))
  obtain⟨r,er⟩:∃r,r=w1.heap.size:=⟨_,rfl⟩
  rw[←er] at HCA HCA0⊢
  have hap:Ap r (.slice none 0 0) [] w2.heap.size (.slice none 0 0):=fun k hk x=>by
   have h1:=nil_co x
   have h2:=HCA0.out.lt
   rcases hk with hk | hk
   ·omega
   ·cases hk
  obtain⟨W3,eW3⟩:∃W3,W3=w2.alloc (.cells #[.slice none 0 0] 29):=⟨_,rfl⟩
  obtain⟨q,eq⟩:∃q,q=w2.heap.size:=⟨_,rfl⟩
  rw[←eW3] at HCA HB hdr⊢
  rw[←eq] at hdr hap⊢
  have HD:=Lib.hid hdr;have HAP:=Lib.hid hap
  clear hdr hap hal hqb eW3 eq er HCA0 HB1 HB0
  go_loopw [5] (fun iv wr=>∃(i:Nat) (v dv:Value) (es ds:List En),i≤n∧i≤60∧iv = .int .i64 (i:Int)∧Below B w wr∧Ca wr B r v es∧DCa wr B B q dv ds∧Ap r v es q dv∧(its es).Perm (its ds)∧Uniq (its es)∧es.length≤10∧Fits (its es)) (fun iv _=>n - (intOf iv).toNat)
  case atStart=>exact⟨0,_,_,[],[],Nat.zero_le _,Nat.zero_le _,rfl,HB.out,HCA.out,HD.out,HAP.out,List.Perm.refl _,List.nodup_nil,by simp,fits_nil⟩
  case round=>
   clear HB HCA HD HAP
   obtain⟨i,v,dv,es,ds,hi,hi6,rfl,hb,hca,hd,hap,hpm,huq,hle,hft⟩:=hrel
   have HB:=Lib.hid hb;have HCA:=Lib.hid hca;have HD:=Lib.hid hd;have HAP:=Lib.hid hap;have HPM:=Lib.hid hpm;have HUQ:=Lib.hid huq;have HLE:=Lib.hid hle;have HFT:=Lib.hid hft
   clear hb hca hd hap hpm huq hle hft
   by_cases hlt:i<n
   ·have e1:decide ((i:Int)<(n:Int))=true:=by simp;omega
    by_cases h6:i<60
    ·have e2:decide ((i:Int)<60)=true:=by simp;omega
     have e3:(i:Int)<(n:Int):=by omega
     have e4:(0:Int)≤(i:Int):=by omega
     have e5:(i:Int)<60:=by omega
     obtain⟨x,hx⟩:∃x,l[i]? = some x:=⟨l[i]'(by rw[←EN.out];exact hlt),List.getElem?_eq_getElem _⟩
     obtain⟨ga,oa,rfl,hga,hra⟩:=HR.out.at_ hx
     have hra2:wr.rangeAt ga (oa+i*41) (aC x):=fun j v hv=>(HB.out.cell (p:=⟨ga,_,none⟩) hga).trans (hra j v hv)
     rw[←aA_toList] at hra2
     have HRA:=Lib.hid hra2
     have hsm:=HSM.out i x h6 hx
     have haz:=HZ.out i x hx
     have HFX:=Lib.hid (show Fit x.x from⟨Nat.le_trans hsm.2.2.2.2 (by decide),Nat.le_trans hsm.2.2.2.1 (by decide),Nat.le_trans hsm.2.2.1 (by decide)⟩)
     have HP1:=Lib.hid (show x.p.1.length≤140737488351232 from Nat.le_trans hsm.1 (by decide))
     have HP2:=Lib.hid (show x.p.2.length≤140737488351232 from Nat.le_trans hsm.2.1 (by decide))
     have HRX:=Lib.hid haz.1
     have HLO:=Lib.hid (show ∀a,x.A=some a→x.x.b≠[]→a.block<B from fun a ha hn=>by
      rcases haz.1 with h | ⟨g,o,h1,h2,_⟩
      ·exact absurd (List.map_eq_nil_iff.1 h) hn
      ·rw[h1] at ha;injection ha with ha;subst ha;exact h2)
     obtain⟨zc,ezc⟩:∃zc,zc=aA x:=⟨_,rfl⟩
     rw[←ezc] at HRA
     have EAS:=Lib.hid ezc
     have HAI:=Lib.hid (show(Try.prog.info? 40).map (·.size)=some zc.size by rw[ezc,aA_size];exact ac_info)
     have HA1:=Lib.hid (show zc.all (·.oneCell')=true by rw[ezc];exact aA_one x)
     have HAC:=Lib.hid (fun(w1:World) (g:Nat) (h:Blk w1 g 40 zc)=>(blk_ac (show Blk w1 g 40 (aA x) by rw[←ezc];exact h):w1.rangeAt g 0 (aC x)))
     obtain⟨xs,exs⟩:∃xs,xs=crA x.x x.A x.c:=⟨_,rfl⟩
     have EXS:=Lib.hid exs
     have HXI:=Lib.hid (show(Try.prog.info? 38).map (·.size)=some xs.size by rw[exs,crA_size];exact cr_info)
     have HI:=Lib.hid hi;have HI6:=Lib.hid hi6
     clear hra hra2 hx hsm haz ezc exs hi hi6
     go_upto_region 10 with(first
      |(refine Wh.load_g (by rfl) 40 (.tmp 30) (by rfl) ga _ (by rfl) zc _ HRA.out Try.underlying40 (by rfl) HAI.out ?_)
      |(refine Wh.store_new (by rfl) 40 (.tmp 6) (.tmp 31) (by rfl) 40 rfl zc (by rfl) (by rfl) (by rw[EAS.out,aA_size];rfl) HAI.out HA1.out ?_;rintro V hV hb;have HG:=Lib.hid hV;have HNG:=Lib.hid (old_co HCA.out (Nat.le_refl wr.heap.size));have HNGD:=Lib.hid (show ¬DO q dv wr.heap.size from fun h=>Nat.lt_irrefl _ (do_lt HD.out h));replace HB:=Lib.hid (HB.out.trans (hb.mono HCA.out.big));replace HCA:=Lib.hid (HCA.out.below hb);replace HD:=Lib.hid (HD.out.below hb);clear hV hb)
      |fail)
     obtain⟨G,eG⟩:∃G,G=wr.heap.size:=⟨_,rfl⟩
     rw[←eG] at HG HNG HNGD⊢
     clear eG HRA
     have ka:V.cell? ⟨G,0,none⟩=some (.int .i64 x.k):=ac_k (HAC.out V G HG.out)
     by_cases k1:x.k=1
     ·have hq1:x.k=1:=k1
      rw[k1] at ka
      clear hq1
      go_upto_region 14 with fail
      clear ka
      have hdr:Below V.heap.size V V.drew:=below_drewN (Below.refl _ _) 1
      replace HB:=Lib.hid (HB.out.trans (hdr.mono HCA.out.big))
      replace HCA:=Lib.hid (HCA.out.below hdr)
      replace HD:=Lib.hid (HD.out.below hdr)
      replace HG:=Lib.hid (HG.out.below hdr)
      have HD0:=Lib.hid HD.out
      have HAP0:=Lib.hid HAP.out
      have HBO:=Lib.hid (put_both (x:=x.x) (p:=x.p) (t:=x.t) HPM.out HUQ.out (by rw[its_length];exact HLE.out))
      have HLD:=Lib.hid (show ds.length≤10 by have:=HPM.out.length_eq;rw[its_length,its_length] at this;have:=HLE.out;omega)
      clear hdr
      refine Reg.any_begin (fun w'=>Blk w' G 40 zc) 17 rfl (by kernel_rfl) HG.out ?_
      refine Reg.tk 0 (v:=?vz1) rfl HG.out (fun w' hS=>?hz1) ?rz1
      case hz1=>go_simp<;>rfl
      simp only[Act.put,Reg.s0,Reg.s1,Reg.s2]
      refine Reg.tk 1 (v:=?vz2) rfl HG.out (fun w' hS=>?hz2) ?rz2
      case hz2=>go_simp<;>rfl
      simp only[Act.put,Reg.s0,Reg.s1,Reg.s2]
      refine Reg.tk 2 (v:=.agg #[.string ⟨x.p.1.toArray⟩,.string ⟨x.p.2.toArray⟩]) rfl HG.out (fun w' hS=>?hz3) ?rz3
      case hz3=>exact exec_load_mid (.tmp 42) rfl rfl (ac_pr (HAC.out w' G hS)) Try.underlying31 rfl pr_info
      simp only[Act.put,Reg.s0,Reg.s1,Reg.s2]
      refine Reg.tk 3 (v:=?vz4) rfl HG.out (fun w' hS=>?hz4) ?rz4
      case hz4=>go_simp<;>rfl
      simp only[Act.put,Reg.s0,Reg.s1,Reg.s2]
      refine Reg.tk 4 (v:=.agg xs) rfl HG.out (fun w' hS=>?hz5) ?rz5
      case hz5=>exact exec_load_mid (.tmp 44) rfl rfl (by rw[EXS.out,crA_toList];exact ac_cr (HAC.out w' G hS)) Try.underlying38 rfl HXI.out
      simp only[Act.put,Reg.s0,Reg.s1,Reg.s2]
      refine Reg.tk 5 (v:=?vz6) rfl HG.out (fun w' hS=>?hz6) ?rz6
      case hz6=>go_simp<;>rfl
      simp only[Act.put,Reg.s0,Reg.s1,Reg.s2]
      refine Reg.tk 6 (v:=.int .i64 x.t) rfl HG.out (fun w' hS=>?hz7) ?rz7
      case hz7=>have kt:w'.cell? ⟨G,40,none⟩=some (.int .i64 x.t):=ac_t (HAC.out w' G hS);go_simp<;>rfl
      simp only[Act.put,Reg.s0,Reg.s1,Reg.s2]
      refine Reg.tk 8 (v:=?vz8) rfl HG.out (fun w' hS=>?hz8) ?rz8
      case hz8=>go_simp<;>rfl
      simp only[Act.put,Reg.s0,Reg.s1,Reg.s2]
      refine Reg.tk 9 (v:=?vz9) rfl HG.out (fun w' hS=>?hz9) ?rz9
      case hz9=>go_simp<;>rfl
      simp only[Act.put,Reg.s0,Reg.s1,Reg.s2]
      refine Reg.tk 10 (v:=.agg #[.string ⟨x.p.1.toArray⟩,.string ⟨x.p.2.toArray⟩]) rfl HG.out (fun w' hS=>?hz10) ?rz10
      case hz10=>exact exec_load_mid (.tmp 50) rfl rfl (ac_pr (HAC.out w' G hS)) Try.underlying31 rfl pr_info
      simp only[Act.put,Reg.s0,Reg.s1,Reg.s2]
      refine Reg.tk 11 (v:=?vz11) rfl HG.out (fun w' hS=>?hz11) ?rz11
      case hz11=>go_simp<;>rfl
      simp only[Act.put,Reg.s0,Reg.s1,Reg.s2]
      refine Reg.tk 12 (v:=.agg xs) rfl HG.out (fun w' hS=>?hz12) ?rz12
      case hz12=>exact exec_load_mid (.tmp 52) rfl rfl (by rw[EXS.out,crA_toList];exact ac_cr (HAC.out w' G hS)) Try.underlying38 rfl HXI.out
      simp only[Act.put,Reg.s0,Reg.s1,Reg.s2]
      refine Reg.tk 13 (v:=?vz13) rfl HG.out (fun w' hS=>?hz13) ?rz13
      case hz13=>go_simp<;>rfl
      simp only[Act.put,Reg.s0,Reg.s1,Reg.s2]
      refine Reg.tk 14 (v:=.int .i64 x.t) rfl HG.out (fun w' hS=>?hz14) ?rz14
      case hz14=>have kt:w'.cell? ⟨G,40,none⟩=some (.int .i64 x.t):=ac_t (HAC.out w' G hS);go_simp<;>rfl
      simp only[Act.put,Reg.s0,Reg.s1,Reg.s2]
      refine Reg.both_all [7] (by kernel_rfl) (by simp) ?_
      intro j0 hj0
      obtain rfl:j0=7:=by simpa using hj0
      clear hj0
      right
      refine⟨_,_,_,_,_,_,11,#[.pointer (some ⟨r,0,none⟩),prV x.p,.agg xs,.int .i64 x.t],rfl,by rfl,by go_simp<;>rfl,?_⟩
      refine Calls.mono (show Calls _ _ #[.pointer (some ⟨r,0,none⟩),prV x.p,.agg xs,.int .i64 x.t] _ _ by rw[EXS.out];exact put_b x.p x.x x.A x.c x.t HCA.out ((HRX.out.below HB.out).more HCA.out.big) (fun a ha hn=>low_co HCA.out (HLO.out a ha hn)) HP1.out HP2.out HFX.out (by have:=HLE.out;omega) rfl rfl) ?_
      rintro e u1 ⟨rfl,v2,es2,hca2,hi2,hc2,hn2⟩
      replace HG:=Lib.hid (blk_ca HG.out HNG.out hc2)
      replace HD:=Lib.hid (doc_put HAP.out HD.out HCA.out (Nat.le_refl _) hc2)
      replace HAP:=Lib.hid (ap_code HAP.out HD0.out hn2)
      replace HAP0:=Lib.hid HAP.out
      replace HB:=Lib.hid (ca_below HB.out HCA.out hc2)
      replace HCA:=Lib.hid hca2
      have HI2:=Lib.hid hi2
      clear hca2 hi2 hc2 hn2 HD0
      refine⟨_,rfl,HG.out,?_⟩
      simp only[Act.put,Reg.s0,Reg.s1,Reg.s2]
      refine Reg.both_all [15] (by kernel_rfl) (by simp) ?_
      intro j0 hj0
      obtain rfl:j0=15:=by simpa using hj0
      clear hj0
      right
      refine⟨_,_,_,_,_,_,12,#[.pointer (some ⟨q,0,none⟩),prV x.p,.agg xs,.int .i64 x.t],rfl,by rfl,by go_simp<;>rfl,?_⟩
      refine Calls.mono (show Calls _ _ #[.pointer (some ⟨q,0,none⟩),prV x.p,.agg xs,.int .i64 x.t] _ _ by rw[EXS.out];exact dput_b x.p x.x x.A x.c x.t HD.out (HRX.out.below HB.out) (by have:=HLD.out;omega) rfl HBO.out.1.symm) ?_
      rintro e u2 ⟨rfl,dv2,ds2,hd2,hj2,hc2,hn2⟩
      replace HG:=Lib.hid (hc2.blk HG.out (fun x=>HNGD.out x))
      replace HAP:=Lib.hid (ap_doc HAP.out HCA.out hn2)
      replace HCA:=Lib.hid (code_put HAP0.out HCA.out hc2)
      replace HB:=Lib.hid (below_doc HB.out HD.out hc2)
      replace HD:=Lib.hid hd2
      have HJ2:=Lib.hid hj2
      clear hd2 hj2 hc2 hn2
      refine⟨_,rfl,HG.out,?_⟩
      simp only[Act.put,Reg.s0,Reg.s1,Reg.s2]
      refine Reg.tk 16 (v:=.bool false) rfl HG.out (fun w' hS=>?hz15) ?rz15
      case hz15=>go_simp
      simp only[Act.put,Reg.s0,Reg.s1,Reg.s2]
      refine wpAnyH_done (by kernel_rfl) ?_ _
      have hpm:=HBO.out.2.1;have huq:=HBO.out.2.2.1;have hle:=HBO.out.2.2.2
      rw[←HI2.out,←HJ2.out] at hpm
      rw[←HI2.out] at huq hle
      have hft:=fits_put (p:=x.p) (t:=x.t) HFT.out HFX.out
      rw[←HI2.out] at hft
      rw[its_length] at hle
      have HPM2:=Lib.hid hpm;have HUQ2:=Lib.hid huq;have HLE2:=Lib.hid hle;have HFT2:=Lib.hid hft
      clear hpm huq hle hft HBO HLD HAP0
      go_upto_region 21 with fail
      obtain⟨A5,c5,e5,_,_,_⟩:=HD.out.num
      have hlen:(ds2).length=(es2).length:=by first | rfl | (have:=(HPM2.out).length_eq;rw[its_length,its_length] at this;exact this.symm)
      obtain⟨n9,en9⟩:∃n9,n9=(es2).length:=⟨_,rfl⟩
      have kdq:u2.cell? ⟨q,0,none⟩=some dv2:=HD.out.blk.cell 0
      rw[hlen,←en9] at e5
      rw[e5] at kdq
      have CLEN:=Lib.hid (fun(w1:World) (h:Ca w1 B r v2 es2)=>by have x:=ca_len B r v2 es2 w1 h;rw[←en9] at x;exact x)
      clear hlen e5 en9
      go_quiet ((go_at_call 17;refine(CLEN.out _ (HCA.out.below (below_drewN (Below.refl _ _) _))).mono ?_;rintro e w' ⟨rfl,rfl⟩;exact⟨rfl,_,rfl⟩))
      clear kdq CLEN
      have hbz:∀k,Below u2.heap.size u2 (u2.drewN k):=fun k=>below_drewN (Below.refl _ _) k
      go_wp2
      go_roundw
      case rel=>exact⟨i+1,v2,dv2,es2,ds2,by omega,by omega,by go_num,HB.out.trans ((hbz _).mono HCA.out.big),HCA.out.below (hbz _),HD.out.below (hbz _),HAP.out,HPM2.out,HUQ2.out,HLE2.out,HFT2.out⟩
      case measure=>simp [intOf];omega
     ·by_cases k2:x.k=2
      ·have hq2:x.k=2:=k2
       rw[k2] at ka
       clear hq2
       have kt:V.cell? ⟨G,40,none⟩=some (.int .i64 x.t):=ac_t (HAC.out V G HG.out)
       obtain⟨o,eo⟩:∃o,o=getO (its es) x.p x.t:=⟨_,rfl⟩
       have eo2:getO (its ds) x.p x.t=o:=by rw[eo];exact(get_both HPM.out HUQ.out).symm
       have CGT:=Lib.hid (fun(w1:World) (h:Ca w1 B r v es)=>get_b x.p x.t h HFT.out (by have:=HLE.out;omega) eo.symm)
       have HLD:=Lib.hid (show ds.length≤1000 by have:=HPM.out.length_eq;rw[its_length,its_length] at this;have:=HLE.out;omega)
       have CDG:=Lib.hid (fun(w1:World) (h:DCa w1 B B q dv ds)=>dget_b x.p x.t h HLD.out eo2)
       have CSM:=Lib.hid (fun(w1:World) (A3 A4:Option Addr) (d3 d4:Nat) (h:Rd w1 w1.heap.size A3 (bvs (getX o).b)) (h2:Rd w1 w1.heap.size A4 (bvs (getX o).b))=>same_yes (getX o) A3 A4 d3 d4 w1.heap.size w1 h h2 (Nat.le_refl _))
       obtain⟨bo,ebo⟩:∃bo,bo=o.isSome:=⟨_,rfl⟩
       have EBO:=Lib.hid ebo
       clear eo eo2 ebo HLD
       have cgt:=CGT.out V HCA.out
       go_upto_region 21 with(first
        |(refine Wh.load_g (by rfl) 31 (.tmp 62) (by rfl) _ 1 (by rfl) _ _ (ac_pr (HAC.out _ G HG.out)) Try.underlying31 (by rfl) pr_info ?_)
        |(go_at_call 13;refine Calls.mono cgt ?_;rintro e w3 ⟨A3,d3,rs,hrx,rfl,hrs,hri,hr1,ho,hb⟩;clear cgt kt ka;rw[←EBO.out];have HRS0:=Lib.hid hrx;replace HB:=Lib.hid (HB.out.trans (hb.mono HCA.out.big));replace HCA:=Lib.hid (HCA.out.below hb);replace HD:=Lib.hid (HD.out.below hb);replace HG:=Lib.hid (HG.out.below hb);have HO:=Lib.hid ho;have HRS:=Lib.hid hrs;have HRI:=Lib.hid hri;have HR1:=Lib.hid hr1;clear hrx hrs hri hr1 hb ho)
        |(refine Wh.store_new (by rfl) 38 (.tmp 7) (.tmp 67) (by rfl) 38 rfl rs (by rfl) (by rfl) (by rw[HRS.out];rfl) HRI.out HR1.out ?_;rintro V3 hV hb;replace HB:=Lib.hid (HB.out.trans (hb.mono HCA.out.big));replace HCA:=Lib.hid (HCA.out.below hb);replace HD:=Lib.hid (HD.out.below hb);replace HG:=Lib.hid (HG.out.below hb);replace HO:=Lib.hid (HO.out.below hb);have HV3:=Lib.hid hV;have kt:V3.cell? ⟨G,40,none⟩=some (.int .i64 x.t):=ac_t (HAC.out V3 G HG.out);have cdg:=CDG.out V3 HD.out;clear hV hb)
        |(refine Wh.load_g (by rfl) 31 (.tmp 71) (by rfl) _ 1 (by rfl) _ _ (ac_pr (HAC.out _ G HG.out)) Try.underlying31 (by rfl) pr_info ?_)
        |(go_at_call 14;refine Calls.mono cdg ?_;rintro e w5 ⟨A5,d5,ss,hrx,rfl,hrs,hri,hr1,ho,hb⟩;clear cdg kt;rw[←EBO.out];have HSS0:=Lib.hid hrx;replace HB:=Lib.hid (HB.out.trans (hb.mono HCA.out.big));replace HCA:=Lib.hid (HCA.out.below hb);replace HD:=Lib.hid (HD.out.below hb);replace HO:=Lib.hid (HO.out.below hb);replace HV3:=Lib.hid (HV3.out.below hb);have HO5:=Lib.hid ho;have HSS:=Lib.hid hrs;have HSI:=Lib.hid hri;have HS1:=Lib.hid hr1;clear hrx hrs hri hr1 hb ho)
        |(refine Wh.store_new (by rfl) 38 (.tmp 9) (.tmp 76) (by rfl) 38 rfl ss (by rfl) (by rfl) (by rw[HSS.out];rfl) HSI.out HS1.out ?_;rintro V5 hV hb;have hB5:=HCA.out.big;replace HB:=Lib.hid (HB.out.trans (hb.mono HCA.out.big));replace HO5:=Lib.hid ((HO5.out.below (hb.mono HCA.out.big)));replace HCA:=Lib.hid (HCA.out.below hb);replace HD:=Lib.hid (HD.out.below hb);replace HO:=Lib.hid (HO.out.below hb);replace HV3:=Lib.hid (HV3.out.below hb);have HV5:=Lib.hid hV;have csm:=CSM.out V5 A3 A5 d3 d5 HO.out.1 (HO5.out.more HCA.out.big);rw[show crA (getX o) A3 d3=rs from HRS0.out.symm,show crA (getX o) A5 d5=ss from HSS0.out.symm] at csm;clear hV hb hB5)
        |(refine Wh.load_g (by rfl) 38 (.tmp 7) (by rfl) _ 0 (by rfl) rs _ (Wh.range_blk HV3.out) Try.underlying38 (by rfl) HRI.out ?_)
        |(refine Wh.load_g (by rfl) 38 (.tmp 9) (by rfl) _ 0 (by rfl) ss _ (Wh.range_blk HV5.out) Try.underlying38 (by rfl) HSI.out ?_)
        |(go_at_call 15;refine Calls.mono csm ?_;rintro e w7 ⟨rfl,hb⟩;clear csm;replace HB:=Lib.hid (HB.out.trans (hb.mono HCA.out.big));replace HCA:=Lib.hid (HCA.out.below hb);replace HD:=Lib.hid (HD.out.below hb);clear hb)
        |fail)
       obtain⟨A5,c5,e5,_,_,_⟩:=HD.out.num
       have hlen:(ds).length=(es).length:=by first | rfl | (have:=(HPM.out).length_eq;rw[its_length,its_length] at this;exact this.symm)
       obtain⟨n9,en9⟩:∃n9,n9=(es).length:=⟨_,rfl⟩
       have kdq:w7.cell? ⟨q,0,none⟩=some dv:=HD.out.blk.cell 0
       rw[hlen,←en9] at e5
       rw[e5] at kdq
       have CLEN:=Lib.hid (fun(w1:World) (h:Ca w1 B r v es)=>by have x:=ca_len B r v es w1 h;rw[←en9] at x;exact x)
       clear hlen e5 en9
       go_quiet ((go_at_call 17;refine(CLEN.out _ (HCA.out.below (below_drewN (Below.refl _ _) _))).mono ?_;rintro e w' ⟨rfl,rfl⟩;exact⟨rfl,_,rfl⟩))
       clear kdq CLEN
       have hbz:∀k,Below w7.heap.size w7 (w7.drewN k):=fun k=>below_drewN (Below.refl _ _) k
       go_wp2
       go_roundw
       case rel=>exact⟨i+1,v,dv,es,ds,by omega,by omega,by go_num,HB.out.trans ((hbz _).mono HCA.out.big),HCA.out.below (hbz _),HD.out.below (hbz _),HAP.out,HPM.out,HUQ.out,HLE.out,HFT.out⟩
       case measure=>simp [intOf];omega
      ·have tk1:(x.k==1)=false:=by simp [k1]
       have tk2:(x.k==2)=false:=by simp [k2]
       have ccl:=ca_clear B r v es V HCA.out
       go_upto_region 12 with(first
        |(go_at_call 16;refine Calls.mono ccl ?_;rintro e w3 ⟨rfl,hca,hc⟩;clear ccl ka;replace HD:=Lib.hid (doc_put HAP.out HD.out HCA.out (Nat.le_refl _) hc);have HD9:=HD;replace HB:=Lib.hid (ca_below HB.out HCA.out hc);replace HAP:=Lib.hid (show Ap r (.slice none 0 0) [] q dv from fun k hk y=>HAP.out k hk (.inl (nil_co y)));replace HCA:=Lib.hid hca;clear hca hc)
        |fail)
       have kq:w3.cell? ⟨q,0,none⟩=some dv:=HD.out.blk.cell 0
       have fq:=HD.out.blk.frozen 0
       obtain⟨W4,eW4⟩:∃W4,W4=w3.setCell ⟨q,0,none⟩ (.slice none 0 0):=⟨_,rfl⟩
       have hc4:Chg (PT q dv) w3 W4:=eW4▸Chg.set (Chg.refl (PT q dv) w3) (.inl (.inl rfl)) _
       have hd4:DCa W4 B B q (.slice none 0 0) []:=⟨eW4▸HD.out.blk.set 0 (.slice none 0 0),World.ownsRow_nil _ _ _ _,HD.out.lo,(fun h=>by cases h),Nat.le_refl _,(fun e he=>by cases he)⟩
       have hca4:=code_put HAP.out HCA.out hc4
       have hb4:=below_doc HB.out HD.out hc4
       have hap4:Ap r (.slice none 0 0) [] q (.slice none 0 0):=fun k hk y=>HAP.out k (hk.imp id (fun z=>by cases z)) y
       have HCA4:=Lib.hid hca4;have HD4:=Lib.hid hd4;have HB4:=Lib.hid hb4;have HAP4:=Lib.hid hap4
       clear hc4 hd4 hca4 hb4 hap4
       go_upto_region 21 with fail
       rw[←eW4]
       clear eW4 kq fq HCA HD HB HAP HPM HUQ HLE HFT HD9
       have HCA:=HCA4;have HD:=HD4;have HB:=HB4;have HAP:=HAP4
       have HPM:=Lib.hid (List.Perm.refl (its []))
       have HUQ:=Lib.hid (show Uniq (its []) from List.nodup_nil)
       have HLE:=Lib.hid (show([]:List En).length≤10 by simp)
       have HFT:=Lib.hid (show Fits (its []) from fits_nil)
       obtain⟨A5,c5,e5,_,_,_⟩:=HD.out.num
       have hlen:(([]:List En)).length=(([]:List En)).length:=by first | rfl | (have:=(HPM.out).length_eq;rw[its_length,its_length] at this;exact this.symm)
       obtain⟨n9,en9⟩:∃n9,n9=(([]:List En)).length:=⟨_,rfl⟩
       have kdq:W4.cell? ⟨q,0,none⟩=some (Value.slice none 0 0):=HD.out.blk.cell 0
       rw[hlen,←en9] at e5
       rw[e5] at kdq
       have CLEN:=Lib.hid (fun(w1:World) (h:Ca w1 B r (Value.slice none 0 0) ([]:List En))=>by have x:=ca_len B r (Value.slice none 0 0) ([]:List En) w1 h;rw[←en9] at x;exact x)
       clear hlen e5 en9
       go_quiet ((go_at_call 17;refine(CLEN.out _ (HCA.out.below (below_drewN (Below.refl _ _) _))).mono ?_;rintro e w' ⟨rfl,rfl⟩;exact⟨rfl,_,rfl⟩))
       clear kdq CLEN
       have hbz:∀k,Below W4.heap.size W4 (W4.drewN k):=fun k=>below_drewN (Below.refl _ _) k
       go_wp2
       go_roundw
       case rel=>exact⟨i+1,(Value.slice none 0 0),(Value.slice none 0 0),([]:List En),([]:List En),by omega,by omega,by go_num,HB.out.trans ((hbz _).mono HCA.out.big),HCA.out.below (hbz _),HD.out.below (hbz _),HAP.out,HPM.out,HUQ.out,HLE.out,HFT.out⟩
       case measure=>simp [intOf];omega
    ·have e2:decide ((i:Int)<60)=false:=by simp;omega
     go_wp2_with (first
      |(go_at_call 18;refine Calls.mono (CK.out _) ?_;rintro e w8 ⟨rfl,hb⟩;clear CK;replace HB:=Lib.hid (HB.out.trans (hb.mono HCA.out.big));clear hb)
      |fail)
     go_ret
     exact⟨rfl,by have h:=HB.out;rw[EB.out] at h;exact h⟩
   ·have e1:decide ((i:Int)<(n:Int))=false:=by simp;omega
    go_wp2_with (first
     |(go_at_call 18;refine Calls.mono (CK.out _) ?_;rintro e w8 ⟨rfl,hb⟩;clear CK;replace HB:=Lib.hid (HB.out.trans (hb.mono HCA.out.big));clear hb)
     |fail)
    go_ret
    exact⟨rfl,by have h:=HB.out;rw[EB.out] at h;exact h⟩
end Go.Proofs.Ytlacoakelliabaa.Ca
end

section
namespace Go.Proofs.Ytlacoakelliabaa.cachePlays
open Go.ChangeShapes Go.WideShapes Go.ChangeAt Go.RowKit Go.Proofs.Ytlacoakelliabaa
open Go.ChangeMaps (open_string shut_string)
theorem own:ownKnob Try.prog.godebug=none:=by kernel_rfl
theorem laidOut:laidOutB Try.prog=true:=by kernel_rfl
set_option maxRecDepth 100000 in
theorem lifted (os:Os) (started:os.Started) (H:Type) (enc:TypeId×Value→H) :
  ReturnsInHanded {} Try.checked os 3 .any (Rows.cachePlaysSpec.pre6 enc Try.prog Try.f3 Rows.cachePlaysRow.domain false) (Rows.cachePlaysSpec.post enc Try.prog Try.f3 false true false false):=by
 refine returnsInHanded_of_change_sized (C:=Try.checked) own started (by kernel_rfl) Try.func3
  (ChangeSpec.witness6 (enc:=enc) (C:=Try.checked) false ⟨#[],#[.slice none 0 0],[]⟩ 8 (by kernel_rfl) (by kernel_rfl) (by kernel_rfl) (by kernel_rfl)) ?_
 intro W base args ds gs before hval0 hW hcnd hsz _
 have hval:∀(j:Nat) t v,Try.f3.params[j]? = some t→args[j]? = some v→Value.okWide Try.prog W .any base t v:=hval0
 have hW':=hW
 obtain⟨p,q,hA0,hV,rfl,hfz,hnd⟩:=hW
 have hA:DataW.TrodAll enc Try.prog W 0 (fun _=>true) true Try.f3.params.toList args.toList ds p:=hA0
 rw[Try.params3] at hA hval
 obtain⟨v0,vs0,d0,ds0,p0,q0,hargs,rfl,rfl,h0,r0⟩:=trodAll_cons hA
 obtain⟨rfl,rfl,rfl⟩:=trodAll_nil r0
 obtain rfl:args=#[v0]:=by cases args;simp_all
 obtain⟨rfl,rfl⟩:=trodVars_none hV
 have k0:=h0
 have lt0:∀x∈p0,x.block<W.heap.size:=by obtain⟨m,hm⟩:=k0;exact DataW.trod_lt m _ _ _ hm
 have wt0:∀n∈DataW.weights Try.prog 22 d0,n≤reachBytes:=fun n hn=>by have:=List.all_eq_true.1 hsz n (DataW.weights_mem_each (j:=0) (t:=22) (d:=d0) (by rw[Try.params3];rfl) rfl n hn);simpa using this
 obtain⟨A0,l0,c0,rfl,w0,x0,y0,lp0⟩:=OpenK.open_acts (okWide_slice Try.underlying22 (hval 0 22 v0 rfl rfl)) h0 wt0
 clear hA0 hval0
 refine(Ca.plays_any A0 l0 c0 W w0 lp0).mono fun e W' ⟨he,bel⟩=>?_
 subst he
 exact⟨_,rfl,_,_,_,[],_,[],hW',trodAll_mk1 (shut_bool Try.underlying4 _),(trodAll_cons_mk (Below.trod laidOut (by kernel_rfl) (of_decide_eq_true (by kernel_rfl)) k0 bel lt0) trodAll_mk0),rfl,bel.frame _,fun h=>by cases h⟩
theorem over:Rows.cachePlaysRow.holds Try.pinned (OpenSpec.ofChange Rows.cachePlaysSpec):=
 OpenClaim.holds_of_wide 3 Try.f3 rfl rfl rfl rfl rfl rfl rfl ⟨rfl,rfl,rfl,rfl,rfl⟩ rfl rfl rfl rfl rfl (by kernel_rfl) Try.func3 (by kernel_rfl)
  (of_decide_eq_true (by kernel_rfl)) (by unfold Func.isWrapper;first | (rw[if_pos (by decide +kernel)];kernel_rfl) | (rw[if_neg (by decide +kernel)];exact⟨rfl,rfl⟩))
  (fun os started H enc _=>lifted os started H enc)
theorem proved:Rows.CachePlaysSaid:=over
end Go.Proofs.Ytlacoakelliabaa.cachePlays
end
