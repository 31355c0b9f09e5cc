import Derived.Deep.LoopGhost
import Derived.StillTailTactics
import Derived.BigQuiet
import Derived.Deep.QuietTactic
import Derived.Deep.RegionHeld3
import Derived.DeepKeys
import Derived.Laws.StructEq
import Derived.Laws.OwnMore
import Derived.SizedLaws
import Derived.Test.YtfcjeebnkigeaaaGreatRows
import Derived.Lib.SmallJoins
import Derived.Deep.Strs
import Derived.ChangeSame
import Derived.Lib.MinMax
import Derived.Test.YtfcjeebnkigeaaaGreatZKdcNonces1
import Derived.Test.YtfcjeebnkigeaaaGreatZKdcNonces2
import Derived.Test.YtfcjeebnkigeaaaGreatZKdcNonces3
import Derived.Test.YtfcjeebnkigeaaaGreatZKdcNonces4
import Derived.Test.YtfcjeebnkigeaaaGreatZKdcNonces5
import Derived.Test.YtfcjeebnkigeaaaGreatZKdcNonces6
import Derived.Test.YtfcjeebnkigeaaaGreatZKdcNonces7
import Derived.Test.YtfcjeebnkigeaaaGreatZKdcNonces8
import Derived.Test.YtfcjeebnkigeaaaGreatZKdcNonces9
import Derived.Test.YtfcjeebnkigeaaaGreatZKdcNonces10
import Derived.Test.YtfcjeebnkigeaaaGreatZKdcNonces11
import Derived.Test.YtfcjeebnkigeaaaGreatZKdcNonces12
import Derived.Test.YtfcjeebnkigeaaaGreatZKdcNonces13
import Derived.Test.YtfcjeebnkigeaaaGreatZKdcNonces14
import Derived.Test.YtfcjeebnkigeaaaGreatZKdcNonces15
import Derived.Test.YtfcjeebnkigeaaaGreatZKdcNonces16
import Derived.Test.YtfcjeebnkigeaaaGreatZKdcNonces17
import Derived.Test.YtfcjeebnkigeaaaGreatZKdcNonces18
import Derived.Test.YtfcjeebnkigeaaaGreatZKdcNonces19
import Derived.Test.YtfcjeebnkigeaaaGreatZKdcNonces20
import Derived.Test.YtfcjeebnkigeaaaGreatZKdcNonces21
import Derived.Test.YtfcjeebnkigeaaaGreatZKdcNonces22
import Derived.Test.YtfcjeebnkigeaaaGreatZKdcNonces23
import Derived.Test.YtfcjeebnkigeaaaGreatZKdcNonces24
import Derived.Test.YtfcjeebnkigeaaaGreatZKdcNonces25
import Derived.Test.YtfcjeebnkigeaaaGreatZKdcNonces26
section
set_option linter.unusedVariables false
namespace Go.Proofs.YtfcjeebnkigeaaaGreat.Kd
open Go.RowKit Go.Proofs.YtfcjeebnkigeaaaGreat.Mem Go.Proofs.YtfcjeebnkigeaaaGreat.Se
open Go.Proofs.YtfcjeebnkigeaaaGreat.Rg (It Ent Ring RO DRing DO Ap its)
open Go.Proofs.YtfcjeebnkigeaaaGreat.Ms (Re As Tg pSm reC)
theorem grown_one {w V:World} {g:Nat} (hg:w.grownBy V (some g)):Chg (fun j=>j=g) w V:=⟨hg.os,hg.tape,hg.output,hg.size,fun i hi hn=>hg.block i hi (fun e=>hn (by injection e))⟩
section
variable {w0 w1 w w' V:World} {B:Nat} {p:KP} {es0 es es':List Ent} {s0 s:Option Ss} {n i c g PT:Nat} {cs:Array Value} {x:Re}
theorem Kn.grown (h:Kn w0 w B p es0 s0 es s n i c) (hg:w.grownBy V (some g)) (hl:w0.heap.size≤g) (hk:Off p es s g):Kn w0 V B p es0 s0 es s n i c:=
 ⟨h.st.chg (grown_one hg) (fun j hj e=>hk j hj e),h.eq,h.sq,h.chg.trans (grown_one hg) (fun j hj x=>by omega),h.nw⟩
theorem re_cells {S:Nat→Prop} (h:ReN S w cs x):cs.size=7∧cs.all (·.oneCell')=true:=by
 obtain⟨b,a,rfl,⟨A1,c1,rfl,_⟩,⟨A2,c2,rfl,_⟩⟩:=h
 exact⟨rfl,by simp [reC,Ms.prC,Ms.tkC,Value.oneCell']⟩
def VarS (w1:World) (p:KP) (es:List Ent) (PT:Nat) (j:Nat):Prop:=Out w1 p es none j∨j=PT
theorem re_old {s:Option Ss} (h:ReN (Out w p es s) w' cs x) (h1:w1.heap.size≤w.heap.size) (h2:PT<w.heap.size):ReN (VarS w1 p es PT) w' cs x:=
 h.keep (Chg.refl (fun _=>False) w') (fun _ _ x=>x.elim) (fun j _ y=>by
  rcases y with(y | y | ⟨z,hz,_⟩) | y
  ·exact .inl (by omega)
  ·exact .inr (.inl y)
  ·cases hz
  ·exact .inl (by omega))
theorem re_new {s:Option Ss} (h:ReN (Out w p es s) w' cs x) (h1:w1.heap.size≤w.heap.size) (h2:w'.heap.size≤PT) (hb:Below w'.heap.size w' V):ReN (VarS w1 p es PT) V cs x:=
 (h.keep (S':=VarS w1 p es PT) (Chg.refl (fun _=>False) w') (fun _ _ x=>x.elim) (fun j hj y=>by
  rcases y with(y | y | ⟨z,hz,_⟩) | y
  ·exact .inl (by omega)
  ·exact .inr (.inl y)
  ·cases hz
  ·omega)).below hb
theorem re_put (h:ReN (VarS w1 p es PT) w cs x) (hg:w.grownBy V (some PT)):ReN (VarS w1 p es PT) V cs x:=h.keep (grown_one hg) (fun j _ e=>.inr e) (fun _ _ x=>x)
structure Got (w1 w:World) (B:Nat) (p:KP) (es0 es:List Ent) (n i c PT:Nat) (cs:Array Value) (x:Re):Prop where
 kn:Kn w1 w B p es0 none es none n i c
 blk:Blk w PT 38 cs
 re:ReN (VarS w1 p es PT) w cs x
 off:Off p es none PT
 lo:w1.heap.size≤PT
theorem got_mk (hk:Kn w1 w B p es0 none es none n i c) (hr:ReN (VarS w1 p es PT) w cs x) (ho:Off p es none PT) (hl:w1.heap.size≤PT) (hv:Blk V PT 38 cs) (hg:w.grownBy V (some PT)):Got w1 V B p es0 es n i c PT cs x:=
 ⟨hk.grown hg hl ho,hv,re_put hr hg,ho,hl⟩
theorem as_to9 {q:As} {d:Nm.L} {now:Int} {csQ csD:Array Value} {l:List It} {R:Nm.L} {r:Int×Re} (eQ:csQ=asA q) (eD:csD=keyA d) (eR:p.R=R) (el:its es=l) (er:asL R l n q now d=r) (h:KS w B p es none n i c) (hc:c<800000) (hn:n<800000) (hi:i<800000) (hl:l.length≤1000) (hR:R.length≤1000) (hd:d.length=32) (hs1:pSm q.c) (hs2:pSm q.s) :
  Calls Tryz.prog 17 #[.pointer (some ⟨p.k,0,none⟩),.agg csQ,.int .i64 now,.agg csD] w fun e w'=>∃cs es',e = .returned (.tuple #[.agg cs,.int .i64 r.1])∧ReN (Out w p es' none) w' cs r.2∧Kn w w' B p es none es' none (n+2*cnt r.1) (i+cnt r.1) (c+4):=by
 subst eQ eD eR el er
 refine(as_any h hc hn hi (by rw[Rg.its_length] at hl;exact hl) hR hd hs1 hs2).mono ?_
 rintro e w' ⟨cs,es',s',h1,h2,h3⟩
 exact⟨cs,es',h1,h2.keep (Chg.refl (fun _=>False) w') (fun _ _ x=>x.elim) (fun j _ y=>y.imp id (fun y=>y.elim .inl (fun⟨z,hz,_⟩=>by cases hz))),h3.drop⟩
end
theorem built_as (c s:Nm.L×Nm.L) (t no:Int):Tryz.prog.built 29 [(0,prV c),(1,prV s),(2,.int .i64 t),(3,.int .i64 no)]=some (asA ⟨c,s,t,no⟩):=by kernel_rfl
theorem built_as0 (c s:Nm.L×Nm.L) (t:Int):Tryz.prog.built 29 [(0,prV c),(1,prV s),(2,.int .i64 t)]=some (asA ⟨c,s,t,0⟩):=by kernel_rfl
def k1L:Nm.L:=1 :: List.replicate 31 0
theorem k1_len:k1L.length=32:=rfl
theorem built_k1:Tryz.prog.built 47 [(0,.int .u8 1)]=some (keyA k1L):=by kernel_rfl
theorem kb_keyA (n:UInt8):key32 (kq n)=keyA (kb n):=(bvs_kb n).symm
end Go.Proofs.YtfcjeebnkigeaaaGreat.Kd
end

section
set_option linter.unusedVariables false
set_option linter.unusedSimpArgs false
namespace Go.Proofs.YtfcjeebnkigeaaaGreat.Kd
open Go.RowKit Go.Proofs.YtfcjeebnkigeaaaGreat.Mem Go.Proofs.YtfcjeebnkigeaaaGreat.Se
open Go.Proofs.YtfcjeebnkigeaaaGreat.Rg (It Ent Ring RO its results_pair)
section
variable {w:World} {B:Nat} {p:KP} {es:List Ent} {n i c:Nat}
theorem iss_any (h:KD w B p es n i) (hi:i<1000000000):Calls Tryz.prog 25 #[.pointer (some ⟨p.k,0,none⟩)] w fun e w'=>e = .returned (.int .i64 (i:Int))∧w=w':=by
 have k6:w.cell? ⟨p.k,6,none⟩=some (.int .i64 (i:Int)):=h.blk.cell 6
 have c1:=Se.load_count ⟨p.k,6,none⟩ i w k6
 clear h
 go_enter Tryz.func25,Tryz.ntmps25
 go_wp2_with (first
  |(go_at_call 70;refine Calls.mono c1 ?_;rintro e w1 ⟨rfl,hw⟩;clear c1;have hw:=hw.symm;subst hw)
  |fail)
 go_ret
 exact⟨by go_num,rfl⟩
end
end Go.Proofs.YtfcjeebnkigeaaaGreat.Kd
end

section
set_option linter.unusedVariables false
set_option linter.unusedSimpArgs false
namespace Go.Proofs.YtfcjeebnkigeaaaGreat.Kd
open Go.RowKit Go.Proofs.YtfcjeebnkigeaaaGreat.Mem Go.Proofs.YtfcjeebnkigeaaaGreat.Se
open Go.Proofs.YtfcjeebnkigeaaaGreat.Rg (It Ent Ring RO DRing DO Ap its)
open Go.Proofs.YtfcjeebnkigeaaaGreat.Ms (Re As Tg pSm reC)
abbrev scC (k x:Nat):Array Value:=#[.pointer (some ⟨k,0,none⟩),.pointer (some ⟨x,0,none⟩)]
theorem sAnn:pSm pAnn:=⟨by decide,by decide⟩
theorem sMail:pSm pMail:=⟨by decide,by decide⟩
theorem sKrA:pSm (kr rA rA):=⟨by decide,by decide⟩
theorem known1:(asL rA itA 0 ⟨pAnn,kr rA rA,50,3⟩ 5 k1L).1=0∧(asL rA itA 0 ⟨pAnn,kr rA rA,50,3⟩ 5 k1L).2.t.k=1:=by decide +kernel
theorem known2:asL rA itA 2 ⟨pMail,pAnn,50,0⟩ 5 k1L=(6,Ms.re0):=by
 have h:(Ms.tmB 5&&Ms.asB ⟨pMail,pAnn,50,0⟩)=true:=by decide +kernel
 have h1:pMail.1=rA∧hasL itA pMail=true:=by decide +kernel
 have h2:¬(pAnn=kr rA rA∧hasL itA pAnn=true):=by decide +kernel
 unfold asL
 rw[if_pos h,if_pos h1,if_neg h2]
theorem re_k {S:Nat→Prop} {w:World} {PT:Nat} {cs:Array Value} {x:Re} (hb:Blk w PT 38 cs) (h:ReN S w cs x):w.cell? ⟨PT,4,none⟩=some (.int .i64 x.t.k):=by
 obtain⟨b,a,rfl,_,_⟩:=h
 rw[hb.cell];rfl
set_option maxRecDepth 100000 in
set_option maxHeartbeats 3200000 in
theorem known_ok (w:World):Calls Tryz.prog 26 #[] w fun e w'=>e = .returned (.bool true)∧Below w.heap.size w w':=by
 have C1:=Lib.hid (begin_any false w)
 have T1:=Lib.hid (fun(w1:World)=>l_client w1)
 have T2:=Lib.hid (fun(w1:World)=>l_tgt rA rA (by decide) w1)
 have T3:=Lib.hid (fun(w1:World)=>l_service w1)
 obtain⟨cs1,ecs1⟩:∃z,z=asA ⟨pAnn,kr rA rA,50,3⟩:=⟨_,rfl⟩
 obtain⟨cs2,ecs2⟩:∃z,z=asA ⟨pMail,pAnn,50,0⟩:=⟨_,rfl⟩
 obtain⟨csK,ecsK⟩:∃z,z=keyA k1L:=⟨_,rfl⟩
 have HB1:=Lib.hid (built_as pAnn (kr rA rA) 50 3)
 have HB2:=Lib.hid (built_as0 pMail pAnn 50)
 have HBK:=Lib.hid built_k1
 rw[←ecs1] at HB1
 rw[←ecs2] at HB2
 rw[←ecsK] at HBK
 obtain⟨r1,er1⟩:∃z,z=asL rA itA 0 ⟨pAnn,kr rA rA,50,3⟩ 5 k1L:=⟨_,rfl⟩
 have HR1:=Lib.hid (show r1.1=0∧r1.2.t.k=1 from er1▸known1)
 have E1:=Lib.hid ecs1;have E2:=Lib.hid ecs2;have EK:=Lib.hid ecsK;have ER:=Lib.hid er1
 clear ecs1 ecs2 ecsK er1
 go_enter Tryz.func26,Tryz.ntmps26
 go_upto_region 4 with(first
  |(go_at_call 16;refine Calls.mono C1.out ?_;rintro e w1 ⟨g,p,es,d,rfl,hs⟩;clear C1;have HS:=Lib.hid hs;clear hs)
  |fail)
 have HKS:=Lib.hid HS.out.ks
 have HG:=Lib.hid (show Blk w1 g 44 (scC p.k d.x) from HS.out.blk)
 have HOG:=Lib.hid HS.out.gk
 have HIT:=Lib.hid (show its es=itA from HS.out.e)
 have HPR:=Lib.hid (show p.R=rA from HS.out.R)
 have HBB:=Lib.hid HS.out.b
 clear HS
 have CA1:=Lib.hid (fun(w2:World) (h:KS w2 w.heap.size p es none 0 0 0)=>as_to9 E1.out EK.out HPR.out HIT.out ER.out.symm h (by omega) (by omega) (by omega) (by decide) (by decide) k1_len sAnn sKrA)
 have CA2:=Lib.hid (fun(w2:World) (es1:List Ent) (hi:its es1=itA) (h:KS w2 w.heap.size p es1 none 2 1 4)=>as_to9 E2.out EK.out HPR.out hi known2 h (by omega) (by omega) (by omega) (by decide) (by decide) k1_len sMail sAnn)
 have HS0:=Lib.hid HKS.out
 have HG0:=Lib.hid (show g<w1.heap.size from HG.out.lt)
 go_cut [2,3] from 9 to 20 (fun rv ev wx=>∃(PT:Nat) (cs:Array Value) (es2:List Ent),rv = .pointer (some ⟨PT,0,none⟩)∧ev = .int .i64 r1.1∧Got w1 wx w.heap.size p es es2 (0+2*cnt r1.1) (0+cnt r1.1) (0+4) PT cs r1.2)
 case first=>
  have hdr:Below w1.heap.size w1 w1.drew:=below_drewN (Below.refl _ _) 1
  have HK:=Lib.hid (Kn.start HKS.out hdr)
  replace HG:=Lib.hid (HG.out.below hdr)
  clear hdr
  refine Reg.any_begin (fun w'=>Blk w' g 44 (scC p.k d.x)) 15 rfl (by kernel_rfl) HG.out ?_
  refine Reg.tk 0 (v:=?vp1) rfl HG.out (fun w' hS=>?hp1) ?rp1
  case hp1=>go_simp<;>rfl
  simp only[Act.put,Reg.s0,Reg.s1,Reg.s2]
  refine Reg.tk 1 (v:=?vp2) rfl HG.out (fun w' hS=>?hp2) ?rp2
  case hp2=>go_simp<;>rfl
  simp only[Act.put,Reg.s0,Reg.s1,Reg.s2]
  refine Reg.tk 2 (v:=?vp3) rfl HG.out (fun w' hS=>?hp3) ?rp3
  case hp3=>go_simp<;>rfl
  simp only[Act.put,Reg.s0,Reg.s1,Reg.s2]
  refine Reg.tk 3 (v:=?vp4) rfl HG.out (fun w' hS=>?hp4) ?rp4
  case hp4=>have k0:=Blk.cell hS 0;go_simp<;>rfl
  simp only[Act.put,Reg.s0,Reg.s1,Reg.s2]
  refine Reg.tk 7 (v:=.agg csK) rfl HG.out (fun w' hS=>?hp5) ?rp5
  case hp5=>exact Rg.exec_build (by simp only[List.map_toArray,List.map_cons,List.map_nil];rfl) HBK.out
  simp only[Act.put,Reg.s0,Reg.s1,Reg.s2]
  refine Reg.both_all [4,12] (by kernel_rfl) (by simp) ?_
  intro j0 hj0
  have hj0:j0=4∨j0=12:=by simpa using hj0
  rcases hj0 with rfl | rfl
  ·right
   refine⟨_,_,_,_,_,_,27,#[],rfl,by rfl,(by go_simp<;>first | rfl | exact⟨rfl,rfl⟩),?_⟩
   refine Calls.mono (T1.out _) ?_
   rintro e wlp6 ⟨rfl,hb⟩
   replace HG:=Lib.hid (HG.out.below hb)
   replace HK:=Lib.hid (HK.out.below hb)
   clear hb
   refine⟨_,rfl,HG.out,?_⟩
   simp only[Act.put,Reg.s0,Reg.s1,Reg.s2]
   refine Reg.both_all [5,12] (by kernel_rfl) (by simp) ?_
   intro j0 hj0
   have hj0:j0=5∨j0=12:=by simpa using hj0
   rcases hj0 with rfl | rfl
   ·right
    refine⟨_,_,_,_,_,_,28,#[.string ⟨rA.toArray⟩,.string ⟨rA.toArray⟩],rfl,by rfl,(by go_simp<;>first | rfl | exact⟨rfl,rfl⟩),?_⟩
    refine Calls.mono (T2.out _) ?_
    rintro e wlp7 ⟨rfl,hb⟩
    replace HG:=Lib.hid (HG.out.below hb)
    replace HK:=Lib.hid (HK.out.below hb)
    clear hb
    refine⟨_,rfl,HG.out,?_⟩
    simp only[Act.put,Reg.s0,Reg.s1,Reg.s2]
    refine Reg.tk 6 (v:=.agg cs1) rfl HG.out (fun w' hS=>?hp8) ?rp8
    case hp8=>exact Rg.exec_build (by simp only[List.map_toArray,List.map_cons,List.map_nil];rfl) HB1.out
    simp only[Act.put,Reg.s0,Reg.s1,Reg.s2]
    refine Reg.both_all [8,12] (by kernel_rfl) (by simp) ?_
    intro j0 hj0
    have hj0:j0=8∨j0=12:=by simpa using hj0
    rcases hj0 with rfl | rfl
    ·right
     refine⟨_,_,_,_,_,_,17,#[.pointer (some ⟨p.k,0,none⟩),.agg cs1,.int .i64 5,.agg csK],rfl,by rfl,(by go_simp<;>first | rfl | exact⟨rfl,rfl⟩),?_⟩
     refine Calls.mono (CA1.out _ HK.out.st) ?_
     rintro e wap9 ⟨cs,es2,rfl,hre,hk⟩
     have HCS:=Lib.hid (re_cells hre)
     have hnb:=hk.blk HG.out HOG.out.no
     replace HOG:=Lib.hid (hk.off HOG.out HG.out.lt)
     replace HG:=Lib.hid hnb
     clear hnb
     have HRE:=Lib.hid hre
     have HRS:=Lib.hid HK.out.size
     replace HK:=Lib.hid (HK.out.trans hk)
     clear hk hre
     refine⟨_,rfl,HG.out,?_⟩
     simp only[Act.put,Reg.s0,Reg.s1,Reg.s2]
     refine Reg.tk 9 (v:=?vp10) rfl HG.out (fun w' hS=>?hp10) ?rp10
     case hp10=>go_simp<;>rfl
     simp only[Act.put,Reg.s0,Reg.s1,Reg.s2]
     refine Reg.tk 10 (v:=?vp11) rfl HG.out (fun w' hS=>?hp11) ?rp11
     case hp11=>go_simp<;>rfl
     simp only[Act.put,Reg.s0,Reg.s1,Reg.s2]
     refine Reg.tk 11 (v:=?vp12) rfl HG.out (fun w' hS=>?hp12) ?rp12
     case hp12=>go_simp<;>rfl
     simp only[Act.put,Reg.s0,Reg.s1,Reg.s2]
     refine Reg.both_all [12] (by kernel_rfl) (by simp) ?_
     intro j0 hj0
     obtain rfl:j0=12:=by simpa using hj0
     clear hj0
     left
     have hb:Below wap9.heap.size wap9 (wap9.alloc (.cells reZ 38)):=(Below.refl _ _).alloc (Nat.le_refl _) _
     have hnb:=Blk.new wap9 38 reZ
     have HNEHG:=Lib.hid (show g≠wap9.heap.size from Nat.ne_of_lt HG.out.lt)
     have HPT:=Lib.hid (show w1.heap.size≤wap9.heap.size from HK.out.size)
     have HOT:=Lib.hid (HK.out.st.offs (Nat.le_refl wap9.heap.size))
     refine⟨_,_,_,_,_,_,.pointer (some ⟨wap9.heap.size,0,none⟩),wap9.alloc (.cells reZ 38),rfl,by rfl,(by go_simp<;>rfl),(HG.out.below hb),?_⟩
     simp only[Act.put,Reg.s0,Reg.s1,Reg.s2]
     obtain⟨wtp13,ewtp13⟩:∃z,z=wap9.alloc (.cells reZ 38):=⟨_,rfl⟩
     rw[←ewtp13] at hb hnb⊢
     clear ewtp13
     replace HRE:=Lib.hid (re_new HRE.out HRS.out (Nat.le_refl _) hb)
     clear HRS
     have HT:=Lib.hid hnb
     clear hnb
     replace HG:=Lib.hid (HG.out.below hb)
     replace HK:=Lib.hid (HK.out.below hb)
     clear hb
     obtain⟨PT,ePT⟩:∃z,z=wap9.heap.size:=⟨_,rfl⟩
     rw[←ePT] at HT HPT HOT HNEHG HRE⊢
     clear ePT
     refine Reg.any_store_whole 13 rfl (by kernel_rfl) (by rfl) PT 38 _ cs HT.out (by rfl) (by rfl) (by rw[HCS.out.1];rfl) (by rw[HCS.out.1];exact re_info) HCS.out.2 ?_
     intro Vp14 hV hg
     have HGT:=Lib.hid (got_mk HK.out HRE.out HOT.out HPT.out hV hg)
     replace HG:=Lib.hid (HG.out.grown hg (fun e=>by injection e with e;exact HNEHG.out e.symm))
     clear hV hg HT HK HRE HOT HPT HCS
     refine⟨HG.out,?_⟩
     simp only[Act.put,Reg.s0,Reg.s1,Reg.s2]
     refine Reg.tk 14 (v:=?vp15) rfl HG.out (fun w' hS=>?hp15) ?rp15
     case hp15=>go_simp<;>rfl
     simp only[Act.put,Reg.s0,Reg.s1,Reg.s2]
     refine wpAnyH_done (by kernel_rfl) ?_ _
     go_wp2_with fail
     go_meet
     exact⟨PT,_,_,rfl,rfl,HGT.out⟩
    ·left
     have hb:Below wlp7.heap.size wlp7 (wlp7.alloc (.cells reZ 38)):=(Below.refl _ _).alloc (Nat.le_refl _) _
     have hnb:=Blk.new wlp7 38 reZ
     have HNEHG:=Lib.hid (show g≠wlp7.heap.size from Nat.ne_of_lt HG.out.lt)
     have HPT:=Lib.hid (show w1.heap.size≤wlp7.heap.size from HK.out.size)
     have HOT:=Lib.hid (HK.out.st.offs (Nat.le_refl wlp7.heap.size))
     refine⟨_,_,_,_,_,_,.pointer (some ⟨wlp7.heap.size,0,none⟩),wlp7.alloc (.cells reZ 38),rfl,by rfl,(by go_simp<;>rfl),(HG.out.below hb),?_⟩
     simp only[Act.put,Reg.s0,Reg.s1,Reg.s2]
     obtain⟨wtp16,ewtp16⟩:∃z,z=wlp7.alloc (.cells reZ 38):=⟨_,rfl⟩
     rw[←ewtp16] at hb hnb⊢
     clear ewtp16
     have HT:=Lib.hid hnb
     clear hnb
     replace HG:=Lib.hid (HG.out.below hb)
     replace HK:=Lib.hid (HK.out.below hb)
     clear hb
     obtain⟨PT,ePT⟩:∃z,z=wlp7.heap.size:=⟨_,rfl⟩
     rw[←ePT] at HT HPT HOT HNEHG⊢
     clear ePT
     refine Reg.both_all [8] (by kernel_rfl) (by simp) ?_
     intro j0 hj0
     obtain rfl:j0=8:=by simpa using hj0
     clear hj0
     right
     refine⟨_,_,_,_,_,_,17,#[.pointer (some ⟨p.k,0,none⟩),.agg cs1,.int .i64 5,.agg csK],rfl,by rfl,(by go_simp<;>first | rfl | exact⟨rfl,rfl⟩),?_⟩
     refine Calls.mono (CA1.out _ HK.out.st) ?_
     rintro e wap17 ⟨cs,es2,rfl,hre,hk⟩
     have HCS:=Lib.hid (re_cells hre)
     have hnb:=hk.blk HG.out HOG.out.no
     replace HOG:=Lib.hid (hk.off HOG.out HG.out.lt)
     replace HG:=Lib.hid hnb
     clear hnb
     have HRE:=Lib.hid (re_old hre HK.out.size HT.out.lt)
     have hnb:=hk.blk HT.out HOT.out.no
     replace HOT:=Lib.hid (hk.off HOT.out HT.out.lt)
     replace HT:=Lib.hid hnb
     clear hnb
     replace HK:=Lib.hid (HK.out.trans hk)
     clear hk hre
     refine⟨_,rfl,HG.out,?_⟩
     simp only[Act.put,Reg.s0,Reg.s1,Reg.s2]
     refine Reg.tk 9 (v:=?vp18) rfl HG.out (fun w' hS=>?hp18) ?rp18
     case hp18=>go_simp<;>rfl
     simp only[Act.put,Reg.s0,Reg.s1,Reg.s2]
     refine Reg.tk 10 (v:=?vp19) rfl HG.out (fun w' hS=>?hp19) ?rp19
     case hp19=>go_simp<;>rfl
     simp only[Act.put,Reg.s0,Reg.s1,Reg.s2]
     refine Reg.tk 11 (v:=?vp20) rfl HG.out (fun w' hS=>?hp20) ?rp20
     case hp20=>go_simp<;>rfl
     simp only[Act.put,Reg.s0,Reg.s1,Reg.s2]
     refine Reg.any_store_whole 13 rfl (by kernel_rfl) (by rfl) PT 38 _ cs HT.out (by rfl) (by rfl) (by rw[HCS.out.1];rfl) (by rw[HCS.out.1];exact re_info) HCS.out.2 ?_
     intro Vp21 hV hg
     have HGT:=Lib.hid (got_mk HK.out HRE.out HOT.out HPT.out hV hg)
     replace HG:=Lib.hid (HG.out.grown hg (fun e=>by injection e with e;exact HNEHG.out e.symm))
     clear hV hg HT HK HRE HOT HPT HCS
     refine⟨HG.out,?_⟩
     simp only[Act.put,Reg.s0,Reg.s1,Reg.s2]
     refine Reg.tk 14 (v:=?vp22) rfl HG.out (fun w' hS=>?hp22) ?rp22
     case hp22=>go_simp<;>rfl
     simp only[Act.put,Reg.s0,Reg.s1,Reg.s2]
     refine wpAnyH_done (by kernel_rfl) ?_ _
     go_wp2_with fail
     go_meet
     exact⟨PT,_,_,rfl,rfl,HGT.out⟩
   ·left
    have hb:Below wlp6.heap.size wlp6 (wlp6.alloc (.cells reZ 38)):=(Below.refl _ _).alloc (Nat.le_refl _) _
    have hnb:=Blk.new wlp6 38 reZ
    have HNEHG:=Lib.hid (show g≠wlp6.heap.size from Nat.ne_of_lt HG.out.lt)
    have HPT:=Lib.hid (show w1.heap.size≤wlp6.heap.size from HK.out.size)
    have HOT:=Lib.hid (HK.out.st.offs (Nat.le_refl wlp6.heap.size))
    refine⟨_,_,_,_,_,_,.pointer (some ⟨wlp6.heap.size,0,none⟩),wlp6.alloc (.cells reZ 38),rfl,by rfl,(by go_simp<;>rfl),(HG.out.below hb),?_⟩
    simp only[Act.put,Reg.s0,Reg.s1,Reg.s2]
    obtain⟨wtp23,ewtp23⟩:∃z,z=wlp6.alloc (.cells reZ 38):=⟨_,rfl⟩
    rw[←ewtp23] at hb hnb⊢
    clear ewtp23
    have HT:=Lib.hid hnb
    clear hnb
    replace HG:=Lib.hid (HG.out.below hb)
    replace HK:=Lib.hid (HK.out.below hb)
    clear hb
    obtain⟨PT,ePT⟩:∃z,z=wlp6.heap.size:=⟨_,rfl⟩
    rw[←ePT] at HT HPT HOT HNEHG⊢
    clear ePT
    refine Reg.both_all [5] (by kernel_rfl) (by simp) ?_
    intro j0 hj0
    obtain rfl:j0=5:=by simpa using hj0
    clear hj0
    right
    refine⟨_,_,_,_,_,_,28,#[.string ⟨rA.toArray⟩,.string ⟨rA.toArray⟩],rfl,by rfl,(by go_simp<;>first | rfl | exact⟨rfl,rfl⟩),?_⟩
    refine Calls.mono (T2.out _) ?_
    rintro e wlp24 ⟨rfl,hb⟩
    replace HG:=Lib.hid (HG.out.below hb)
    replace HK:=Lib.hid (HK.out.below hb)
    replace HT:=Lib.hid (HT.out.below hb)
    clear hb
    refine⟨_,rfl,HG.out,?_⟩
    simp only[Act.put,Reg.s0,Reg.s1,Reg.s2]
    refine Reg.tk 6 (v:=.agg cs1) rfl HG.out (fun w' hS=>?hp25) ?rp25
    case hp25=>exact Rg.exec_build (by simp only[List.map_toArray,List.map_cons,List.map_nil];rfl) HB1.out
    simp only[Act.put,Reg.s0,Reg.s1,Reg.s2]
    refine Reg.both_all [8] (by kernel_rfl) (by simp) ?_
    intro j0 hj0
    obtain rfl:j0=8:=by simpa using hj0
    clear hj0
    right
    refine⟨_,_,_,_,_,_,17,#[.pointer (some ⟨p.k,0,none⟩),.agg cs1,.int .i64 5,.agg csK],rfl,by rfl,(by go_simp<;>first | rfl | exact⟨rfl,rfl⟩),?_⟩
    refine Calls.mono (CA1.out _ HK.out.st) ?_
    rintro e wap26 ⟨cs,es2,rfl,hre,hk⟩
    have HCS:=Lib.hid (re_cells hre)
    have hnb:=hk.blk HG.out HOG.out.no
    replace HOG:=Lib.hid (hk.off HOG.out HG.out.lt)
    replace HG:=Lib.hid hnb
    clear hnb
    have HRE:=Lib.hid (re_old hre HK.out.size HT.out.lt)
    have hnb:=hk.blk HT.out HOT.out.no
    replace HOT:=Lib.hid (hk.off HOT.out HT.out.lt)
    replace HT:=Lib.hid hnb
    clear hnb
    replace HK:=Lib.hid (HK.out.trans hk)
    clear hk hre
    refine⟨_,rfl,HG.out,?_⟩
    simp only[Act.put,Reg.s0,Reg.s1,Reg.s2]
    refine Reg.tk 9 (v:=?vp27) rfl HG.out (fun w' hS=>?hp27) ?rp27
    case hp27=>go_simp<;>rfl
    simp only[Act.put,Reg.s0,Reg.s1,Reg.s2]
    refine Reg.tk 10 (v:=?vp28) rfl HG.out (fun w' hS=>?hp28) ?rp28
    case hp28=>go_simp<;>rfl
    simp only[Act.put,Reg.s0,Reg.s1,Reg.s2]
    refine Reg.tk 11 (v:=?vp29) rfl HG.out (fun w' hS=>?hp29) ?rp29
    case hp29=>go_simp<;>rfl
    simp only[Act.put,Reg.s0,Reg.s1,Reg.s2]
    refine Reg.any_store_whole 13 rfl (by kernel_rfl) (by rfl) PT 38 _ cs HT.out (by rfl) (by rfl) (by rw[HCS.out.1];rfl) (by rw[HCS.out.1];exact re_info) HCS.out.2 ?_
    intro Vp30 hV hg
    have HGT:=Lib.hid (got_mk HK.out HRE.out HOT.out HPT.out hV hg)
    replace HG:=Lib.hid (HG.out.grown hg (fun e=>by injection e with e;exact HNEHG.out e.symm))
    clear hV hg HT HK HRE HOT HPT HCS
    refine⟨HG.out,?_⟩
    simp only[Act.put,Reg.s0,Reg.s1,Reg.s2]
    refine Reg.tk 14 (v:=?vp31) rfl HG.out (fun w' hS=>?hp31) ?rp31
    case hp31=>go_simp<;>rfl
    simp only[Act.put,Reg.s0,Reg.s1,Reg.s2]
    refine wpAnyH_done (by kernel_rfl) ?_ _
    go_wp2_with fail
    go_meet
    exact⟨PT,_,_,rfl,rfl,HGT.out⟩
  ·left
   have hb:Below w1.drew.heap.size w1.drew (w1.drew.alloc (.cells reZ 38)):=(Below.refl _ _).alloc (Nat.le_refl _) _
   have hnb:=Blk.new w1.drew 38 reZ
   have HNEHG:=Lib.hid (show g≠w1.drew.heap.size from Nat.ne_of_lt HG.out.lt)
   have HPT:=Lib.hid (show w1.heap.size≤w1.drew.heap.size from HK.out.size)
   have HOT:=Lib.hid (HK.out.st.offs (Nat.le_refl w1.drew.heap.size))
   refine⟨_,_,_,_,_,_,.pointer (some ⟨w1.drew.heap.size,0,none⟩),w1.drew.alloc (.cells reZ 38),rfl,by rfl,(by go_simp<;>rfl),(HG.out.below hb),?_⟩
   simp only[Act.put,Reg.s0,Reg.s1,Reg.s2]
   obtain⟨wtp32,ewtp32⟩:∃z,z=w1.drew.alloc (.cells reZ 38):=⟨_,rfl⟩
   rw[←ewtp32] at hb hnb⊢
   clear ewtp32
   have HT:=Lib.hid hnb
   clear hnb
   replace HG:=Lib.hid (HG.out.below hb)
   replace HK:=Lib.hid (HK.out.below hb)
   clear hb
   obtain⟨PT,ePT⟩:∃z,z=w1.drew.heap.size:=⟨_,rfl⟩
   rw[←ePT] at HT HPT HOT HNEHG⊢
   clear ePT
   refine Reg.both_all [4] (by kernel_rfl) (by simp) ?_
   intro j0 hj0
   obtain rfl:j0=4:=by simpa using hj0
   clear hj0
   right
   refine⟨_,_,_,_,_,_,27,#[],rfl,by rfl,(by go_simp<;>first | rfl | exact⟨rfl,rfl⟩),?_⟩
   refine Calls.mono (T1.out _) ?_
   rintro e wlp33 ⟨rfl,hb⟩
   replace HG:=Lib.hid (HG.out.below hb)
   replace HK:=Lib.hid (HK.out.below hb)
   replace HT:=Lib.hid (HT.out.below hb)
   clear hb
   refine⟨_,rfl,HG.out,?_⟩
   simp only[Act.put,Reg.s0,Reg.s1,Reg.s2]
   refine Reg.both_all [5] (by kernel_rfl) (by simp) ?_
   intro j0 hj0
   obtain rfl:j0=5:=by simpa using hj0
   clear hj0
   right
   refine⟨_,_,_,_,_,_,28,#[.string ⟨rA.toArray⟩,.string ⟨rA.toArray⟩],rfl,by rfl,(by go_simp<;>first | rfl | exact⟨rfl,rfl⟩),?_⟩
   refine Calls.mono (T2.out _) ?_
   rintro e wlp34 ⟨rfl,hb⟩
   replace HG:=Lib.hid (HG.out.below hb)
   replace HK:=Lib.hid (HK.out.below hb)
   replace HT:=Lib.hid (HT.out.below hb)
   clear hb
   refine⟨_,rfl,HG.out,?_⟩
   simp only[Act.put,Reg.s0,Reg.s1,Reg.s2]
   refine Reg.tk 6 (v:=.agg cs1) rfl HG.out (fun w' hS=>?hp35) ?rp35
   case hp35=>exact Rg.exec_build (by simp only[List.map_toArray,List.map_cons,List.map_nil];rfl) HB1.out
   simp only[Act.put,Reg.s0,Reg.s1,Reg.s2]
   refine Reg.both_all [8] (by kernel_rfl) (by simp) ?_
   intro j0 hj0
   obtain rfl:j0=8:=by simpa using hj0
   clear hj0
   right
   refine⟨_,_,_,_,_,_,17,#[.pointer (some ⟨p.k,0,none⟩),.agg cs1,.int .i64 5,.agg csK],rfl,by rfl,(by go_simp<;>first | rfl | exact⟨rfl,rfl⟩),?_⟩
   refine Calls.mono (CA1.out _ HK.out.st) ?_
   rintro e wap36 ⟨cs,es2,rfl,hre,hk⟩
   have HCS:=Lib.hid (re_cells hre)
   have hnb:=hk.blk HG.out HOG.out.no
   replace HOG:=Lib.hid (hk.off HOG.out HG.out.lt)
   replace HG:=Lib.hid hnb
   clear hnb
   have HRE:=Lib.hid (re_old hre HK.out.size HT.out.lt)
   have hnb:=hk.blk HT.out HOT.out.no
   replace HOT:=Lib.hid (hk.off HOT.out HT.out.lt)
   replace HT:=Lib.hid hnb
   clear hnb
   replace HK:=Lib.hid (HK.out.trans hk)
   clear hk hre
   refine⟨_,rfl,HG.out,?_⟩
   simp only[Act.put,Reg.s0,Reg.s1,Reg.s2]
   refine Reg.tk 9 (v:=?vp37) rfl HG.out (fun w' hS=>?hp37) ?rp37
   case hp37=>go_simp<;>rfl
   simp only[Act.put,Reg.s0,Reg.s1,Reg.s2]
   refine Reg.tk 10 (v:=?vp38) rfl HG.out (fun w' hS=>?hp38) ?rp38
   case hp38=>go_simp<;>rfl
   simp only[Act.put,Reg.s0,Reg.s1,Reg.s2]
   refine Reg.tk 11 (v:=?vp39) rfl HG.out (fun w' hS=>?hp39) ?rp39
   case hp39=>go_simp<;>rfl
   simp only[Act.put,Reg.s0,Reg.s1,Reg.s2]
   refine Reg.any_store_whole 13 rfl (by kernel_rfl) (by rfl) PT 38 _ cs HT.out (by rfl) (by rfl) (by rw[HCS.out.1];rfl) (by rw[HCS.out.1];exact re_info) HCS.out.2 ?_
   intro Vp40 hV hg
   have HGT:=Lib.hid (got_mk HK.out HRE.out HOT.out HPT.out hV hg)
   replace HG:=Lib.hid (HG.out.grown hg (fun e=>by injection e with e;exact HNEHG.out e.symm))
   clear hV hg HT HK HRE HOT HPT HCS
   refine⟨HG.out,?_⟩
   simp only[Act.put,Reg.s0,Reg.s1,Reg.s2]
   refine Reg.tk 14 (v:=?vp41) rfl HG.out (fun w' hS=>?hp41) ?rp41
   case hp41=>go_simp<;>rfl
   simp only[Act.put,Reg.s0,Reg.s1,Reg.s2]
   refine wpAnyH_done (by kernel_rfl) ?_ _
   go_wp2_with fail
   go_meet
   exact⟨PT,_,_,rfl,rfl,HGT.out⟩
 case rest=>
  obtain⟨PT,cs,es2,rfl,rfl,hgt⟩:=hcut
  have HPT:=Lib.hid (show PT<wc.heap.size∧PT≠g from⟨hgt.blk.lt,fun e=>by have:=HG.out.lt;have:=hgt.lo;omega⟩)
  have HK4:=re_k hgt.blk hgt.re
  have HTO:=Lib.hid hgt.off
  have HTB:=Lib.hid hgt.blk
  have HTR:=Lib.hid hgt.re
  rw[HR1.out.2] at HK4
  replace HK4:=Lib.hid HK4
  replace HKS:=Lib.hid (show KS wc w.heap.size p es2 none 2 1 4 by have:=hgt.kn.st;rw[HR1.out.1] at this;exact this)
  replace HIT:=Lib.hid ((bts_its hgt.kn.eq).trans HIT.out)
  replace HBB:=Lib.hid (HBB.out.trans (hgt.kn.base HS0.out))
  replace HG:=Lib.hid (hgt.kn.blk HG.out HOG.out.no)
  replace HOG:=Lib.hid (hgt.kn.off HOG.out HG0.out)
  have HS1:=Lib.hid HKS.out
  have HG1:=Lib.hid (show g<wc.heap.size from HG.out.lt)
  rw[HR1.out.1]
  clear hgt CA1 HR1 ER HS0 HG0
  go_upto_region 5 with fail
  go_cut [4,5] from 21 to 32 (fun rv ev wx=>∃(PT:Nat) (cs:Array Value) (es3:List Ent),rv = .pointer (some ⟨PT,0,none⟩)∧ev = .int .i64 6∧Got wc wx w.heap.size p es2 es3 2 1 8 PT cs Ms.re0)
  case first=>
   have hdr:Below wc.heap.size wc wc.drew:=below_drewN (Below.refl _ _) 1
   have HK:=Lib.hid (Kn.start HKS.out hdr)
   replace HG:=Lib.hid (HG.out.below hdr)
   clear hdr
   refine Reg.any_begin (fun w'=>Blk w' g 44 (scC p.k d.x)) 15 rfl (by kernel_rfl) HG.out ?_
   refine Reg.tk 0 (v:=?vq42) rfl HG.out (fun w' hS=>?hq42) ?rq42
   case hq42=>go_simp<;>rfl
   simp only[Act.put,Reg.s0,Reg.s1,Reg.s2]
   refine Reg.tk 1 (v:=?vq43) rfl HG.out (fun w' hS=>?hq43) ?rq43
   case hq43=>go_simp<;>rfl
   simp only[Act.put,Reg.s0,Reg.s1,Reg.s2]
   refine Reg.tk 2 (v:=?vq44) rfl HG.out (fun w' hS=>?hq44) ?rq44
   case hq44=>go_simp<;>rfl
   simp only[Act.put,Reg.s0,Reg.s1,Reg.s2]
   refine Reg.tk 3 (v:=?vq45) rfl HG.out (fun w' hS=>?hq45) ?rq45
   case hq45=>have k0:=Blk.cell hS 0;go_simp<;>rfl
   simp only[Act.put,Reg.s0,Reg.s1,Reg.s2]
   refine Reg.tk 7 (v:=.agg csK) rfl HG.out (fun w' hS=>?hq46) ?rq46
   case hq46=>exact Rg.exec_build (by simp only[List.map_toArray,List.map_cons,List.map_nil];rfl) HBK.out
   simp only[Act.put,Reg.s0,Reg.s1,Reg.s2]
   refine Reg.both_all [4,12] (by kernel_rfl) (by simp) ?_
   intro j0 hj0
   have hj0:j0=4∨j0=12:=by simpa using hj0
   rcases hj0 with rfl | rfl
   ·right
    refine⟨_,_,_,_,_,_,34,#[],rfl,by rfl,(by go_simp<;>first | rfl | exact⟨rfl,rfl⟩),?_⟩
    refine Calls.mono (T3.out _) ?_
    rintro e wlq47 ⟨rfl,hb⟩
    replace HG:=Lib.hid (HG.out.below hb)
    replace HK:=Lib.hid (HK.out.below hb)
    clear hb
    refine⟨_,rfl,HG.out,?_⟩
    simp only[Act.put,Reg.s0,Reg.s1,Reg.s2]
    refine Reg.both_all [5,12] (by kernel_rfl) (by simp) ?_
    intro j0 hj0
    have hj0:j0=5∨j0=12:=by simpa using hj0
    rcases hj0 with rfl | rfl
    ·right
     refine⟨_,_,_,_,_,_,27,#[],rfl,by rfl,(by go_simp<;>first | rfl | exact⟨rfl,rfl⟩),?_⟩
     refine Calls.mono (T1.out _) ?_
     rintro e wlq48 ⟨rfl,hb⟩
     replace HG:=Lib.hid (HG.out.below hb)
     replace HK:=Lib.hid (HK.out.below hb)
     clear hb
     refine⟨_,rfl,HG.out,?_⟩
     simp only[Act.put,Reg.s0,Reg.s1,Reg.s2]
     refine Reg.tk 6 (v:=.agg cs2) rfl HG.out (fun w' hS=>?hq49) ?rq49
     case hq49=>exact Rg.exec_build (by simp only[List.map_toArray,List.map_cons,List.map_nil];rfl) HB2.out
     simp only[Act.put,Reg.s0,Reg.s1,Reg.s2]
     refine Reg.both_all [8,12] (by kernel_rfl) (by simp) ?_
     intro j0 hj0
     have hj0:j0=8∨j0=12:=by simpa using hj0
     rcases hj0 with rfl | rfl
     ·right
      refine⟨_,_,_,_,_,_,17,#[.pointer (some ⟨p.k,0,none⟩),.agg cs2,.int .i64 5,.agg csK],rfl,by rfl,(by go_simp<;>first | rfl | exact⟨rfl,rfl⟩),?_⟩
      refine Calls.mono (CA2.out _ _ HIT.out HK.out.st) ?_
      rintro e waq50 ⟨cs,es2,rfl,hre,hk⟩
      have HCS:=Lib.hid (re_cells hre)
      have hnb:=hk.blk HG.out HOG.out.no
      replace HOG:=Lib.hid (hk.off HOG.out HG.out.lt)
      replace HG:=Lib.hid hnb
      clear hnb
      have HRE:=Lib.hid hre
      have HRS:=Lib.hid HK.out.size
      replace HK:=Lib.hid (HK.out.trans hk)
      clear hk hre
      refine⟨_,rfl,HG.out,?_⟩
      simp only[Act.put,Reg.s0,Reg.s1,Reg.s2]
      refine Reg.tk 9 (v:=?vq51) rfl HG.out (fun w' hS=>?hq51) ?rq51
      case hq51=>go_simp<;>rfl
      simp only[Act.put,Reg.s0,Reg.s1,Reg.s2]
      refine Reg.tk 10 (v:=?vq52) rfl HG.out (fun w' hS=>?hq52) ?rq52
      case hq52=>go_simp<;>rfl
      simp only[Act.put,Reg.s0,Reg.s1,Reg.s2]
      refine Reg.tk 11 (v:=?vq53) rfl HG.out (fun w' hS=>?hq53) ?rq53
      case hq53=>go_simp<;>rfl
      simp only[Act.put,Reg.s0,Reg.s1,Reg.s2]
      refine Reg.both_all [12] (by kernel_rfl) (by simp) ?_
      intro j0 hj0
      obtain rfl:j0=12:=by simpa using hj0
      clear hj0
      left
      have hb:Below waq50.heap.size waq50 (waq50.alloc (.cells reZ 38)):=(Below.refl _ _).alloc (Nat.le_refl _) _
      have hnb:=Blk.new waq50 38 reZ
      have HNEHG:=Lib.hid (show g≠waq50.heap.size from Nat.ne_of_lt HG.out.lt)
      have HPT:=Lib.hid (show wc.heap.size≤waq50.heap.size from HK.out.size)
      have HOT:=Lib.hid (HK.out.st.offs (Nat.le_refl waq50.heap.size))
      refine⟨_,_,_,_,_,_,.pointer (some ⟨waq50.heap.size,0,none⟩),waq50.alloc (.cells reZ 38),rfl,by rfl,(by go_simp<;>rfl),(HG.out.below hb),?_⟩
      simp only[Act.put,Reg.s0,Reg.s1,Reg.s2]
      obtain⟨wtq54,ewtq54⟩:∃z,z=waq50.alloc (.cells reZ 38):=⟨_,rfl⟩
      rw[←ewtq54] at hb hnb⊢
      clear ewtq54
      replace HRE:=Lib.hid (re_new HRE.out HRS.out (Nat.le_refl _) hb)
      clear HRS
      have HT:=Lib.hid hnb
      clear hnb
      replace HG:=Lib.hid (HG.out.below hb)
      replace HK:=Lib.hid (HK.out.below hb)
      clear hb
      obtain⟨PT,ePT⟩:∃z,z=waq50.heap.size:=⟨_,rfl⟩
      rw[←ePT] at HT HPT HOT HNEHG HRE⊢
      clear ePT
      refine Reg.any_store_whole 13 rfl (by kernel_rfl) (by rfl) PT 38 _ cs HT.out (by rfl) (by rfl) (by rw[HCS.out.1];rfl) (by rw[HCS.out.1];exact re_info) HCS.out.2 ?_
      intro Vq55 hV hg
      have HGT:=Lib.hid (got_mk HK.out HRE.out HOT.out HPT.out hV hg)
      replace HG:=Lib.hid (HG.out.grown hg (fun e=>by injection e with e;exact HNEHG.out e.symm))
      clear hV hg HT HK HRE HOT HPT HCS
      refine⟨HG.out,?_⟩
      simp only[Act.put,Reg.s0,Reg.s1,Reg.s2]
      refine Reg.tk 14 (v:=?vq56) rfl HG.out (fun w' hS=>?hq56) ?rq56
      case hq56=>go_simp<;>rfl
      simp only[Act.put,Reg.s0,Reg.s1,Reg.s2]
      refine wpAnyH_done (by kernel_rfl) ?_ _
      go_wp2_with fail
      go_meet
      exact⟨PT,_,_,rfl,rfl,HGT.out⟩
     ·left
      have hb:Below wlq48.heap.size wlq48 (wlq48.alloc (.cells reZ 38)):=(Below.refl _ _).alloc (Nat.le_refl _) _
      have hnb:=Blk.new wlq48 38 reZ
      have HNEHG:=Lib.hid (show g≠wlq48.heap.size from Nat.ne_of_lt HG.out.lt)
      have HPT:=Lib.hid (show wc.heap.size≤wlq48.heap.size from HK.out.size)
      have HOT:=Lib.hid (HK.out.st.offs (Nat.le_refl wlq48.heap.size))
      refine⟨_,_,_,_,_,_,.pointer (some ⟨wlq48.heap.size,0,none⟩),wlq48.alloc (.cells reZ 38),rfl,by rfl,(by go_simp<;>rfl),(HG.out.below hb),?_⟩
      simp only[Act.put,Reg.s0,Reg.s1,Reg.s2]
      obtain⟨wtq57,ewtq57⟩:∃z,z=wlq48.alloc (.cells reZ 38):=⟨_,rfl⟩
      rw[←ewtq57] at hb hnb⊢
      clear ewtq57
      have HT:=Lib.hid hnb
      clear hnb
      replace HG:=Lib.hid (HG.out.below hb)
      replace HK:=Lib.hid (HK.out.below hb)
      clear hb
      obtain⟨PT,ePT⟩:∃z,z=wlq48.heap.size:=⟨_,rfl⟩
      rw[←ePT] at HT HPT HOT HNEHG⊢
      clear ePT
      refine Reg.both_all [8] (by kernel_rfl) (by simp) ?_
      intro j0 hj0
      obtain rfl:j0=8:=by simpa using hj0
      clear hj0
      right
      refine⟨_,_,_,_,_,_,17,#[.pointer (some ⟨p.k,0,none⟩),.agg cs2,.int .i64 5,.agg csK],rfl,by rfl,(by go_simp<;>first | rfl | exact⟨rfl,rfl⟩),?_⟩
      refine Calls.mono (CA2.out _ _ HIT.out HK.out.st) ?_
      rintro e waq58 ⟨cs,es2,rfl,hre,hk⟩
      have HCS:=Lib.hid (re_cells hre)
      have hnb:=hk.blk HG.out HOG.out.no
      replace HOG:=Lib.hid (hk.off HOG.out HG.out.lt)
      replace HG:=Lib.hid hnb
      clear hnb
      have HRE:=Lib.hid (re_old hre HK.out.size HT.out.lt)
      have hnb:=hk.blk HT.out HOT.out.no
      replace HOT:=Lib.hid (hk.off HOT.out HT.out.lt)
      replace HT:=Lib.hid hnb
      clear hnb
      replace HK:=Lib.hid (HK.out.trans hk)
      clear hk hre
      refine⟨_,rfl,HG.out,?_⟩
      simp only[Act.put,Reg.s0,Reg.s1,Reg.s2]
      refine Reg.tk 9 (v:=?vq59) rfl HG.out (fun w' hS=>?hq59) ?rq59
      case hq59=>go_simp<;>rfl
      simp only[Act.put,Reg.s0,Reg.s1,Reg.s2]
      refine Reg.tk 10 (v:=?vq60) rfl HG.out (fun w' hS=>?hq60) ?rq60
      case hq60=>go_simp<;>rfl
      simp only[Act.put,Reg.s0,Reg.s1,Reg.s2]
      refine Reg.tk 11 (v:=?vq61) rfl HG.out (fun w' hS=>?hq61) ?rq61
      case hq61=>go_simp<;>rfl
      simp only[Act.put,Reg.s0,Reg.s1,Reg.s2]
      refine Reg.any_store_whole 13 rfl (by kernel_rfl) (by rfl) PT 38 _ cs HT.out (by rfl) (by rfl) (by rw[HCS.out.1];rfl) (by rw[HCS.out.1];exact re_info) HCS.out.2 ?_
      intro Vq62 hV hg
      have HGT:=Lib.hid (got_mk HK.out HRE.out HOT.out HPT.out hV hg)
      replace HG:=Lib.hid (HG.out.grown hg (fun e=>by injection e with e;exact HNEHG.out e.symm))
      clear hV hg HT HK HRE HOT HPT HCS
      refine⟨HG.out,?_⟩
      simp only[Act.put,Reg.s0,Reg.s1,Reg.s2]
      refine Reg.tk 14 (v:=?vq63) rfl HG.out (fun w' hS=>?hq63) ?rq63
      case hq63=>go_simp<;>rfl
      simp only[Act.put,Reg.s0,Reg.s1,Reg.s2]
      refine wpAnyH_done (by kernel_rfl) ?_ _
      go_wp2_with fail
      go_meet
      exact⟨PT,_,_,rfl,rfl,HGT.out⟩
    ·left
     have hb:Below wlq47.heap.size wlq47 (wlq47.alloc (.cells reZ 38)):=(Below.refl _ _).alloc (Nat.le_refl _) _
     have hnb:=Blk.new wlq47 38 reZ
     have HNEHG:=Lib.hid (show g≠wlq47.heap.size from Nat.ne_of_lt HG.out.lt)
     have HPT:=Lib.hid (show wc.heap.size≤wlq47.heap.size from HK.out.size)
     have HOT:=Lib.hid (HK.out.st.offs (Nat.le_refl wlq47.heap.size))
     refine⟨_,_,_,_,_,_,.pointer (some ⟨wlq47.heap.size,0,none⟩),wlq47.alloc (.cells reZ 38),rfl,by rfl,(by go_simp<;>rfl),(HG.out.below hb),?_⟩
     simp only[Act.put,Reg.s0,Reg.s1,Reg.s2]
     obtain⟨wtq64,ewtq64⟩:∃z,z=wlq47.alloc (.cells reZ 38):=⟨_,rfl⟩
     rw[←ewtq64] at hb hnb⊢
     clear ewtq64
     have HT:=Lib.hid hnb
     clear hnb
     replace HG:=Lib.hid (HG.out.below hb)
     replace HK:=Lib.hid (HK.out.below hb)
     clear hb
     obtain⟨PT,ePT⟩:∃z,z=wlq47.heap.size:=⟨_,rfl⟩
     rw[←ePT] at HT HPT HOT HNEHG⊢
     clear ePT
     refine Reg.both_all [5] (by kernel_rfl) (by simp) ?_
     intro j0 hj0
     obtain rfl:j0=5:=by simpa using hj0
     clear hj0
     right
     refine⟨_,_,_,_,_,_,27,#[],rfl,by rfl,(by go_simp<;>first | rfl | exact⟨rfl,rfl⟩),?_⟩
     refine Calls.mono (T1.out _) ?_
     rintro e wlq65 ⟨rfl,hb⟩
     replace HG:=Lib.hid (HG.out.below hb)
     replace HK:=Lib.hid (HK.out.below hb)
     replace HT:=Lib.hid (HT.out.below hb)
     clear hb
     refine⟨_,rfl,HG.out,?_⟩
     simp only[Act.put,Reg.s0,Reg.s1,Reg.s2]
     refine Reg.tk 6 (v:=.agg cs2) rfl HG.out (fun w' hS=>?hq66) ?rq66
     case hq66=>exact Rg.exec_build (by simp only[List.map_toArray,List.map_cons,List.map_nil];rfl) HB2.out
     simp only[Act.put,Reg.s0,Reg.s1,Reg.s2]
     refine Reg.both_all [8] (by kernel_rfl) (by simp) ?_
     intro j0 hj0
     obtain rfl:j0=8:=by simpa using hj0
     clear hj0
     right
     refine⟨_,_,_,_,_,_,17,#[.pointer (some ⟨p.k,0,none⟩),.agg cs2,.int .i64 5,.agg csK],rfl,by rfl,(by go_simp<;>first | rfl | exact⟨rfl,rfl⟩),?_⟩
     refine Calls.mono (CA2.out _ _ HIT.out HK.out.st) ?_
     rintro e waq67 ⟨cs,es2,rfl,hre,hk⟩
     have HCS:=Lib.hid (re_cells hre)
     have hnb:=hk.blk HG.out HOG.out.no
     replace HOG:=Lib.hid (hk.off HOG.out HG.out.lt)
     replace HG:=Lib.hid hnb
     clear hnb
     have HRE:=Lib.hid (re_old hre HK.out.size HT.out.lt)
     have hnb:=hk.blk HT.out HOT.out.no
     replace HOT:=Lib.hid (hk.off HOT.out HT.out.lt)
     replace HT:=Lib.hid hnb
     clear hnb
     replace HK:=Lib.hid (HK.out.trans hk)
     clear hk hre
     refine⟨_,rfl,HG.out,?_⟩
     simp only[Act.put,Reg.s0,Reg.s1,Reg.s2]
     refine Reg.tk 9 (v:=?vq68) rfl HG.out (fun w' hS=>?hq68) ?rq68
     case hq68=>go_simp<;>rfl
     simp only[Act.put,Reg.s0,Reg.s1,Reg.s2]
     refine Reg.tk 10 (v:=?vq69) rfl HG.out (fun w' hS=>?hq69) ?rq69
     case hq69=>go_simp<;>rfl
     simp only[Act.put,Reg.s0,Reg.s1,Reg.s2]
     refine Reg.tk 11 (v:=?vq70) rfl HG.out (fun w' hS=>?hq70) ?rq70
     case hq70=>go_simp<;>rfl
     simp only[Act.put,Reg.s0,Reg.s1,Reg.s2]
     refine Reg.any_store_whole 13 rfl (by kernel_rfl) (by rfl) PT 38 _ cs HT.out (by rfl) (by rfl) (by rw[HCS.out.1];rfl) (by rw[HCS.out.1];exact re_info) HCS.out.2 ?_
     intro Vq71 hV hg
     have HGT:=Lib.hid (got_mk HK.out HRE.out HOT.out HPT.out hV hg)
     replace HG:=Lib.hid (HG.out.grown hg (fun e=>by injection e with e;exact HNEHG.out e.symm))
     clear hV hg HT HK HRE HOT HPT HCS
     refine⟨HG.out,?_⟩
     simp only[Act.put,Reg.s0,Reg.s1,Reg.s2]
     refine Reg.tk 14 (v:=?vq72) rfl HG.out (fun w' hS=>?hq72) ?rq72
     case hq72=>go_simp<;>rfl
     simp only[Act.put,Reg.s0,Reg.s1,Reg.s2]
     refine wpAnyH_done (by kernel_rfl) ?_ _
     go_wp2_with fail
     go_meet
     exact⟨PT,_,_,rfl,rfl,HGT.out⟩
   ·left
    have hb:Below wc.drew.heap.size wc.drew (wc.drew.alloc (.cells reZ 38)):=(Below.refl _ _).alloc (Nat.le_refl _) _
    have hnb:=Blk.new wc.drew 38 reZ
    have HNEHG:=Lib.hid (show g≠wc.drew.heap.size from Nat.ne_of_lt HG.out.lt)
    have HPT:=Lib.hid (show wc.heap.size≤wc.drew.heap.size from HK.out.size)
    have HOT:=Lib.hid (HK.out.st.offs (Nat.le_refl wc.drew.heap.size))
    refine⟨_,_,_,_,_,_,.pointer (some ⟨wc.drew.heap.size,0,none⟩),wc.drew.alloc (.cells reZ 38),rfl,by rfl,(by go_simp<;>rfl),(HG.out.below hb),?_⟩
    simp only[Act.put,Reg.s0,Reg.s1,Reg.s2]
    obtain⟨wtq73,ewtq73⟩:∃z,z=wc.drew.alloc (.cells reZ 38):=⟨_,rfl⟩
    rw[←ewtq73] at hb hnb⊢
    clear ewtq73
    have HT:=Lib.hid hnb
    clear hnb
    replace HG:=Lib.hid (HG.out.below hb)
    replace HK:=Lib.hid (HK.out.below hb)
    clear hb
    obtain⟨PT,ePT⟩:∃z,z=wc.drew.heap.size:=⟨_,rfl⟩
    rw[←ePT] at HT HPT HOT HNEHG⊢
    clear ePT
    refine Reg.both_all [4] (by kernel_rfl) (by simp) ?_
    intro j0 hj0
    obtain rfl:j0=4:=by simpa using hj0
    clear hj0
    right
    refine⟨_,_,_,_,_,_,34,#[],rfl,by rfl,(by go_simp<;>first | rfl | exact⟨rfl,rfl⟩),?_⟩
    refine Calls.mono (T3.out _) ?_
    rintro e wlq74 ⟨rfl,hb⟩
    replace HG:=Lib.hid (HG.out.below hb)
    replace HK:=Lib.hid (HK.out.below hb)
    replace HT:=Lib.hid (HT.out.below hb)
    clear hb
    refine⟨_,rfl,HG.out,?_⟩
    simp only[Act.put,Reg.s0,Reg.s1,Reg.s2]
    refine Reg.both_all [5] (by kernel_rfl) (by simp) ?_
    intro j0 hj0
    obtain rfl:j0=5:=by simpa using hj0
    clear hj0
    right
    refine⟨_,_,_,_,_,_,27,#[],rfl,by rfl,(by go_simp<;>first | rfl | exact⟨rfl,rfl⟩),?_⟩
    refine Calls.mono (T1.out _) ?_
    rintro e wlq75 ⟨rfl,hb⟩
    replace HG:=Lib.hid (HG.out.below hb)
    replace HK:=Lib.hid (HK.out.below hb)
    replace HT:=Lib.hid (HT.out.below hb)
    clear hb
    refine⟨_,rfl,HG.out,?_⟩
    simp only[Act.put,Reg.s0,Reg.s1,Reg.s2]
    refine Reg.tk 6 (v:=.agg cs2) rfl HG.out (fun w' hS=>?hq76) ?rq76
    case hq76=>exact Rg.exec_build (by simp only[List.map_toArray,List.map_cons,List.map_nil];rfl) HB2.out
    simp only[Act.put,Reg.s0,Reg.s1,Reg.s2]
    refine Reg.both_all [8] (by kernel_rfl) (by simp) ?_
    intro j0 hj0
    obtain rfl:j0=8:=by simpa using hj0
    clear hj0
    right
    refine⟨_,_,_,_,_,_,17,#[.pointer (some ⟨p.k,0,none⟩),.agg cs2,.int .i64 5,.agg csK],rfl,by rfl,(by go_simp<;>first | rfl | exact⟨rfl,rfl⟩),?_⟩
    refine Calls.mono (CA2.out _ _ HIT.out HK.out.st) ?_
    rintro e waq77 ⟨cs,es2,rfl,hre,hk⟩
    have HCS:=Lib.hid (re_cells hre)
    have hnb:=hk.blk HG.out HOG.out.no
    replace HOG:=Lib.hid (hk.off HOG.out HG.out.lt)
    replace HG:=Lib.hid hnb
    clear hnb
    have HRE:=Lib.hid (re_old hre HK.out.size HT.out.lt)
    have hnb:=hk.blk HT.out HOT.out.no
    replace HOT:=Lib.hid (hk.off HOT.out HT.out.lt)
    replace HT:=Lib.hid hnb
    clear hnb
    replace HK:=Lib.hid (HK.out.trans hk)
    clear hk hre
    refine⟨_,rfl,HG.out,?_⟩
    simp only[Act.put,Reg.s0,Reg.s1,Reg.s2]
    refine Reg.tk 9 (v:=?vq78) rfl HG.out (fun w' hS=>?hq78) ?rq78
    case hq78=>go_simp<;>rfl
    simp only[Act.put,Reg.s0,Reg.s1,Reg.s2]
    refine Reg.tk 10 (v:=?vq79) rfl HG.out (fun w' hS=>?hq79) ?rq79
    case hq79=>go_simp<;>rfl
    simp only[Act.put,Reg.s0,Reg.s1,Reg.s2]
    refine Reg.tk 11 (v:=?vq80) rfl HG.out (fun w' hS=>?hq80) ?rq80
    case hq80=>go_simp<;>rfl
    simp only[Act.put,Reg.s0,Reg.s1,Reg.s2]
    refine Reg.any_store_whole 13 rfl (by kernel_rfl) (by rfl) PT 38 _ cs HT.out (by rfl) (by rfl) (by rw[HCS.out.1];rfl) (by rw[HCS.out.1];exact re_info) HCS.out.2 ?_
    intro Vq81 hV hg
    have HGT:=Lib.hid (got_mk HK.out HRE.out HOT.out HPT.out hV hg)
    replace HG:=Lib.hid (HG.out.grown hg (fun e=>by injection e with e;exact HNEHG.out e.symm))
    clear hV hg HT HK HRE HOT HPT HCS
    refine⟨HG.out,?_⟩
    simp only[Act.put,Reg.s0,Reg.s1,Reg.s2]
    refine Reg.tk 14 (v:=?vq82) rfl HG.out (fun w' hS=>?hq82) ?rq82
    case hq82=>go_simp<;>rfl
    simp only[Act.put,Reg.s0,Reg.s1,Reg.s2]
    refine wpAnyH_done (by kernel_rfl) ?_ _
    go_wp2_with fail
    go_meet
    exact⟨PT,_,_,rfl,rfl,HGT.out⟩
  case rest=>
   obtain⟨PT2,cs2,es3,rfl,rfl,hgt⟩:=hcut
   have ht:=hgt.kn.blk HTB.out HTO.out.no
   replace HK4:=(ht.cell 4).trans ((HTB.out.cell 4).symm.trans HK4.out)
   replace HG:=Lib.hid (hgt.kn.blk HG.out HOG.out.no)
   have kg0:=HG.out.cell 0
   have CI:=Lib.hid (iss_any hgt.kn.st.k (by omega))
   have HBF:=Lib.hid (HBB.out.trans (hgt.kn.base HS1.out))
   clear hgt ht
   go_wp2_with (first
    |(go_at_call 25;refine Calls.mono CI.out ?_;rintro e wi ⟨rfl,hw⟩;clear CI;subst hw)
    |fail)
   go_ret
   exact⟨rfl,HBF.out⟩
end Go.Proofs.YtfcjeebnkigeaaaGreat.Kd
end

section
set_option linter.unusedVariables false
set_option linter.unusedSimpArgs false
namespace Go.Proofs.YtfcjeebnkigeaaaGreat.Kd
open Go.RowKit Go.Proofs.YtfcjeebnkigeaaaGreat.Mem Go.Proofs.YtfcjeebnkigeaaaGreat.Se
theorem or_0 {x:Nat} (h:x<256):bits BinOp.or IntKind.i64 0 (x:Int)=(x:Int):=by
 have:∀x:Fin 256,bits BinOp.or IntKind.i64 0 (x.val:Int)=(x.val:Int):=by decide +kernel
 exact this ⟨x,h⟩
set_option maxRecDepth 100000 in
set_option maxHeartbeats 3200000 in
theorem nonce_8 (b:UInt8) (t:List UInt8) (A:Option Addr) (m c:Nat) (B:Nat) (w:World) (hm:m=t.length+8) (hr:Rd w B A (bvs ([0,0,0,0,0,0,0,b]++t))) :
  Calls Tryz.prog 40 #[.slice A m c] w fun e w'=>e = .returned (.int .i64 (b.toNat:Int))∧w=w':=by
 obtain⟨g,o,rfl,hg,hc⟩:∃g o,A=some ⟨g,o,none⟩∧g<B∧∀i u,(bvs ([0,0,0,0,0,0,0,b]++t))[i]? = some u→w.cell? ⟨g,o+i,none⟩=some u:=by
  rcases hr with h | h
  ·simp [bvs] at h
  ·exact h
 have HC:=Lib.hid (show ∀i,i<8→w.cell? ⟨g,o+i,none⟩=some (.int .u8 ((if i=7 then b.toNat else 0:Nat):Int)) by
  intro i hi
  refine hc i _ ?_
  match i,hi with
  |0,_=>rfl
  |1,_=>rfl
  |2,_=>rfl
  |3,_=>rfl
  |4,_=>rfl
  |5,_=>rfl
  |6,_=>rfl
  |7,_=>rfl)
 have HM:=Lib.hid (show 8≤m by omega)
 have HBT:=Lib.hid (UInt8.toNat_lt b)
 clear hc hr hm hg
 go_enter Tryz.func40,Tryz.ntmps40
 go_wp2
 go_loopw [3,4] (fun nv iv wr=>∃i n:Nat,i≤8∧iv = .int .i64 (i:Int)∧nv = .int .i64 (n:Int)∧n=(if i=8 then b.toNat else 0)∧wr=w) (fun _ iv _=>8 - (intOf iv).toNat)
 case atStart=>exact⟨0,0,Nat.zero_le _,rfl,rfl,rfl,rfl⟩
 case round=>
  obtain⟨i,n,hi,rfl,rfl,hn,rfl⟩:=hrel
  by_cases hlt:i<8
  ·have e1:(i:Int)<8:=by omega
   have e2:(0:Int)≤(i:Int):=by omega
   have e3:decide ((i:Int)<(m:Int))=true:=by have:=HM.out;simp;omega
   have e4:(i:Int)<(m:Int):=by have:=HM.out;omega
   rw[if_neg (by omega)] at hn
   subst hn
   have kc:=HC.out i hlt
   obtain⟨x,ex⟩:∃x:Nat,x=(if i=7 then b.toNat else 0):=⟨_,rfl⟩
   rw[←ex] at kc
   have hx:x<256:=by have:=HBT.out;split at ex<;>omega
   have HEX:=Lib.hid ex
   clear ex hi
   go_wp2
   go_roundw
   case rel=>exact⟨i+1,x,by omega,by go_num,by rw[or_0 hx],by rw[HEX.out];congr 1;simp<;>omega,trivial⟩
   case measure=>simp [intOf];omega
  ·have hie:i=8:=by omega
   subst hie
   rw[if_pos rfl] at hn
   go_wp2
   go_ret
   exact⟨by rw[hn];rfl,rfl⟩
end Go.Proofs.YtfcjeebnkigeaaaGreat.Kd
end
