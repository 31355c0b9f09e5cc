import Derived.DeepKeys
import Derived.Laws.StructEq
import Derived.BigQuiet
import Derived.Deep.QuietTactic
import Derived.StillTailTactics
import Derived.Deep.LoopGhost
import Derived.Deep.RegionHeld3
import Derived.Lib.MinMax
import Derived.Laws.OwnMore
import Derived.Test.YtfcjeebnkigeaaaGreatZKdcUnknown1
import Derived.Test.YtfcjeebnkigeaaaGreatZKdcUnknown2
import Derived.Test.YtfcjeebnkigeaaaGreatZKdcUnknown3
import Derived.Test.YtfcjeebnkigeaaaGreatZKdcUnknown4
import Derived.Test.YtfcjeebnkigeaaaGreatZKdcUnknown5
import Derived.Test.YtfcjeebnkigeaaaGreatZKdcUnknown6
import Derived.Test.YtfcjeebnkigeaaaGreatZKdcUnknown7
import Derived.Test.YtfcjeebnkigeaaaGreatZKdcUnknown8
import Derived.Test.YtfcjeebnkigeaaaGreatZKdcUnknown9
import Derived.Test.YtfcjeebnkigeaaaGreatZKdcUnknown10
import Derived.Test.YtfcjeebnkigeaaaGreatZKdcUnknown11
import Derived.Test.YtfcjeebnkigeaaaGreatZKdcUnknown12
import Derived.Test.YtfcjeebnkigeaaaGreatZKdcUnknown13
import Derived.Test.YtfcjeebnkigeaaaGreatZKdcUnknown14
import Derived.Test.YtfcjeebnkigeaaaGreatZKdcUnknown15
import Derived.Test.YtfcjeebnkigeaaaGreatZKdcUnknown16
import Derived.Test.YtfcjeebnkigeaaaGreatZKdcUnknown17
import Derived.Test.YtfcjeebnkigeaaaGreatZKdcUnknown18
import Derived.Test.YtfcjeebnkigeaaaGreatZKdcUnknown19
import Derived.Test.YtfcjeebnkigeaaaGreatZKdcUnknown20
import Derived.Test.YtfcjeebnkigeaaaGreatZKdcUnknown21
import Derived.Test.YtfcjeebnkigeaaaGreatZKdcUnknown22
import Derived.Test.YtfcjeebnkigeaaaGreatZKdcUnknown23
import Derived.Test.YtfcjeebnkigeaaaGreatZKdcUnknown24
import Derived.Test.YtfcjeebnkigeaaaGreatZKdcUnknown25
import Derived.Test.YtfcjeebnkigeaaaGreatZKdcUnknown26
import Derived.Test.YtfcjeebnkigeaaaGreatZKdcUnknown27
import Derived.Test.YtfcjeebnkigeaaaGreatZKdcUnknown28
section
set_option linter.unusedVariables false
set_option linter.unusedSimpArgs false
namespace Go.Proofs.YtfcjeebnkigeaaaGreat.Kd
open Go.RowKit Go.Proofs.YtfcjeebnkigeaaaGreat.Mem Go.Proofs.YtfcjeebnkigeaaaGreat.Se
open Go.Proofs.YtfcjeebnkigeaaaGreat.Rg (It Ent Ring RO DRing DO Ap its)
open Go.Proofs.YtfcjeebnkigeaaaGreat.Ms (Re As Pt pSm ptB prB tmB asB)
theorem off_lo' {w:World} {B:Nat} {p:KP} {es:List Rg.Ent} {n i c g:Nat} (h:KS w B p es none n i c) (hg:g<B):Off p es none g:=fun j hj e=>by
 rcases hj with hj | ⟨z,hz,_⟩
 ·have:=h.k.ka_lo hj;omega
 ·cases hz
abbrev unX (c t:Nm.L×Nm.L):Int×Re:=asL rA itA 0 ⟨c,t,9,0⟩ 5 (kb 1)
theorem has_own {c:Nm.L×Nm.L} (h:c.1=rA) (hl:hasL itA c=true):c=pAnn∨c=pMail∨c=kr rA rA∨c=kr rA rE:=by
 unfold hasL at hl
 cases hq:Rg.lastI itA c with
 |none=>rw[hq] at hl;cases hl
 |some q=>
  obtain⟨_,x,hx,hp⟩:=Rg.lastTo_some hq
  match q,hx with
  |0,hx=>injection hx with hx;subst hx;exact .inr (.inr (.inl hp.symm))
  |1,hx=>injection hx with hx;subst hx;exact .inr (.inr (.inr hp.symm))
  |2,hx=>injection hx with hx;subst hx;exact absurd ((congrArg Prod.fst hp).trans h) (show ¬rE=rA by decide)
  |3,hx=>injection hx with hx;subst hx;exact .inl hp.symm
  |4,hx=>injection hx with hx;subst hx;exact .inr (.inl hp.symm)
  |q+5,hx=>simp [itA] at hx
theorem as_bs {c t:Nm.L×Nm.L} (h:asB ⟨c,t,0,0⟩=true):asB ⟨c,t,9,0⟩=true∧prB c=true:=by
 have h':prB c=true∧prB t=true∧tmB 0=true∧tmB 0=true:=by simpa [asB] using h
 refine⟨?_,h'.1⟩
 unfold asB
 simp only[h'.1,h'.2.1];decide
theorem un_no {c t:Nm.L×Nm.L} (h:asB ⟨c,t,0,0⟩=true) (hn:¬(c=pAnn∨c=pMail∨c=kr rA rA∨c=kr rA rE)):(unX c t).1=5:=by
 unfold unX asL
 rw[if_pos (by rw[(as_bs h).1];decide),if_neg (fun x=>hn (has_own x.1 x.2))]
theorem un_yes {c t:Nm.L×Nm.L} (h:asB ⟨c,t,0,0⟩=true) (hc:c=pAnn∨c=pMail∨c=kr rA rA∨c=kr rA rE):(unX c t).1=if t=kr rA rA then 0 else 6:=by
 have h2:c.1=rA∧hasL itA c=true∧prB c=true:=by rcases hc with rfl | rfl | rfl | rfl<;>decide +kernel
 unfold unX asL
 rw[if_pos (by rw[(as_bs h).1];decide),if_pos (show c.1=rA∧hasL itA c=true from⟨h2.1,h2.2.1⟩)]
 by_cases g:t=kr rA rA
 ·subst g
  rw[if_pos (show kr rA rA=kr rA rA∧hasL itA (kr rA rA)=true by decide +kernel),if_pos rfl,if_neg (show ¬(9:Int)<5 by omega)]
  have hp:ptB ⟨c,kb 1,[],5,min 9 (5+mxL)⟩=true:=by
   simp [ptB,h2.2.2,tmB,Ms.inB,Ms.txtB,mxL];exact⟨rfl,rfl⟩
  rw[ans_ok (kb_len 1) hp (show Ms.rpB ⟨kb 1,kr rA rA,5,9,0⟩=true by decide +kernel)]
 ·rw[if_neg (fun x=>g x.1),if_neg g]
set_option maxRecDepth 100000 in
set_option maxHeartbeats 3200000 in
theorem unk_x (c t:Nm.L×Nm.L) (w:World) (z1:c.1.length≤140737488351232) (z2:c.2.length≤140737488351232) (z3:t.1.length≤140737488351232) (z4:t.2.length≤140737488351232) (h:200<c.1.length+c.2.length+t.1.length+t.2.length):Calls Tryz.prog 12 #[prV c,prV t] w fun e w'=>e = .returned (.bool true)∧Below w.heap.size w w':=by
 obtain⟨W,eW⟩:∃W,W=(w.alloc (.cells #[.string ⟨c.1.toArray⟩,.string ⟨c.2.toArray⟩] 27)).alloc (.cells #[.string ⟨t.1.toArray⟩,.string ⟨t.2.toArray⟩] 27):=⟨_,rfl⟩
 have HB0:=Lib.hid (show Below w.heap.size w W from eW▸((Below.refl _ _).alloc (Nat.le_refl _) _).alloc (by simp) _)
 have HC:=Lib.hid (show Blk W w.heap.size 27 #[.string ⟨c.1.toArray⟩,.string ⟨c.2.toArray⟩] from eW▸(Blk.new w _ _).alloc _)
 have HT:=Lib.hid (show Blk W (w.heap.size+1) 27 #[.string ⟨t.1.toArray⟩,.string ⟨t.2.toArray⟩] by have:=Blk.new (w.alloc (.cells #[.string ⟨c.1.toArray⟩,.string ⟨c.2.toArray⟩] 27)) 27 #[.string ⟨t.1.toArray⟩,.string ⟨t.2.toArray⟩];simp only[World.size_alloc] at this;exact eW▸this)
 have kc0:W.cell? ⟨w.heap.size,0,none⟩=some (.string ⟨c.1.toArray⟩):=HC.out.cell 0
 have kc1:W.cell? ⟨w.heap.size,1,none⟩=some (.string ⟨c.2.toArray⟩):=HC.out.cell 1
 have kt0:W.cell? ⟨w.heap.size+1,0,none⟩=some (.string ⟨t.1.toArray⟩):=HT.out.cell 0
 have kt1:W.cell? ⟨w.heap.size+1,1,none⟩=some (.string ⟨t.2.toArray⟩):=HT.out.cell 1
 have y1:(c.1.length:Int)≤140737488351232:=by omega
 have y2:(c.2.length:Int)≤140737488351232:=by omega
 have y3:(t.1.length:Int)≤140737488351232:=by omega
 have y4:(t.2.length:Int)≤140737488351232:=by omega
 have t1:(200:Int)<(c.1.length:Int)+(c.2.length:Int)+(t.1.length:Int)+(t.2.length:Int):=by omega
 clear z1 z2 z3 z4 h HC HT
 go_enter Tryz.func12,Tryz.ntmps12
 go_upto_region 1 with fail
 rw[←eW]
 clear eW
 go_wp2
 go_ret
 exact⟨rfl,HB0.out⟩
set_option maxRecDepth 100000 in
set_option maxHeartbeats 3200000 in
theorem unk_n (c t:Nm.L×Nm.L) (w:World) (z1:c.1.length≤140737488351232) (z2:c.2.length≤140737488351232) (z3:t.1.length≤140737488351232) (z4:t.2.length≤140737488351232) (h:¬200<c.1.length+c.2.length+t.1.length+t.2.length) (hb:asB ⟨c,t,0,0⟩=false):Calls Tryz.prog 12 #[prV c,prV t] w fun e w'=>e = .returned (.bool true)∧Below w.heap.size w w':=by
 obtain⟨W,eW⟩:∃W,W=(w.alloc (.cells #[.string ⟨c.1.toArray⟩,.string ⟨c.2.toArray⟩] 27)).alloc (.cells #[.string ⟨t.1.toArray⟩,.string ⟨t.2.toArray⟩] 27):=⟨_,rfl⟩
 have HB0:=Lib.hid (show Below w.heap.size w W from eW▸((Below.refl _ _).alloc (Nat.le_refl _) _).alloc (by simp) _)
 have HC:=Lib.hid (show Blk W w.heap.size 27 #[.string ⟨c.1.toArray⟩,.string ⟨c.2.toArray⟩] from eW▸(Blk.new w _ _).alloc _)
 have HT:=Lib.hid (show Blk W (w.heap.size+1) 27 #[.string ⟨t.1.toArray⟩,.string ⟨t.2.toArray⟩] by have:=Blk.new (w.alloc (.cells #[.string ⟨c.1.toArray⟩,.string ⟨c.2.toArray⟩] 27)) 27 #[.string ⟨t.1.toArray⟩,.string ⟨t.2.toArray⟩];simp only[World.size_alloc] at this;exact eW▸this)
 have kc0:W.cell? ⟨w.heap.size,0,none⟩=some (.string ⟨c.1.toArray⟩):=HC.out.cell 0
 have kc1:W.cell? ⟨w.heap.size,1,none⟩=some (.string ⟨c.2.toArray⟩):=HC.out.cell 1
 have kt0:W.cell? ⟨w.heap.size+1,0,none⟩=some (.string ⟨t.1.toArray⟩):=HT.out.cell 0
 have kt1:W.cell? ⟨w.heap.size+1,1,none⟩=some (.string ⟨t.2.toArray⟩):=HT.out.cell 1
 have y1:(c.1.length:Int)≤140737488351232:=by omega
 have y2:(c.2.length:Int)≤140737488351232:=by omega
 have y3:(t.1.length:Int)≤140737488351232:=by omega
 have y4:(t.2.length:Int)≤140737488351232:=by omega
 have t1:¬(200:Int)<(c.1.length:Int)+(c.2.length:Int)+(t.1.length:Int)+(t.2.length:Int):=by omega
 have CI:=Lib.hid (fun(w1:World)=>Ms.risas_any ⟨c,t,0,0⟩ w1 ⟨by show c.1.length≤_;omega,by show c.2.length≤_;omega⟩ ⟨by show t.1.length≤_;omega,by show t.2.length≤_;omega⟩)
 rw[hb] at CI
 clear z1 z2 z3 z4 h hb
 go_enter Tryz.func12,Tryz.ntmps12
 go_upto_region 1 with fail
 rw[←eW]
 clear eW
 go_wp2_with (first
  |(go_at_call 41;refine Calls.mono (CI.out _) ?_;rintro e wi ⟨rfl,hb⟩;clear CI kc0 kc1 kt0 kt1;replace HC:=Lib.hid (HC.out.below hb);replace HT:=Lib.hid (HT.out.below hb);replace HB0:=Lib.hid (HB0.out.trans (hb.mono HB0.out.size));clear hb)
  |fail)
 go_ret
 exact⟨rfl,HB0.out⟩
set_option maxRecDepth 100000 in
set_option maxHeartbeats 3200000 in
theorem unk_y (c t:Nm.L×Nm.L) (w:World) (z1:c.1.length≤140737488351232) (z2:c.2.length≤140737488351232) (z3:t.1.length≤140737488351232) (z4:t.2.length≤140737488351232) (h:¬200<c.1.length+c.2.length+t.1.length+t.2.length) (hb:asB ⟨c,t,0,0⟩=true):Calls Tryz.prog 12 #[prV c,prV t] w fun e w'=>e = .returned (.bool true)∧Below w.heap.size w w':=by
 obtain⟨W,eW⟩:∃W,W=(w.alloc (.cells #[.string ⟨c.1.toArray⟩,.string ⟨c.2.toArray⟩] 27)).alloc (.cells #[.string ⟨t.1.toArray⟩,.string ⟨t.2.toArray⟩] 27):=⟨_,rfl⟩
 have HB0:=Lib.hid (show Below w.heap.size w W from eW▸((Below.refl _ _).alloc (Nat.le_refl _) _).alloc (by simp) _)
 have HC:=Lib.hid (show Blk W w.heap.size 27 #[.string ⟨c.1.toArray⟩,.string ⟨c.2.toArray⟩] from eW▸(Blk.new w _ _).alloc _)
 have HT:=Lib.hid (show Blk W (w.heap.size+1) 27 #[.string ⟨t.1.toArray⟩,.string ⟨t.2.toArray⟩] by have:=Blk.new (w.alloc (.cells #[.string ⟨c.1.toArray⟩,.string ⟨c.2.toArray⟩] 27)) 27 #[.string ⟨t.1.toArray⟩,.string ⟨t.2.toArray⟩];simp only[World.size_alloc] at this;exact eW▸this)
 have kc0:W.cell? ⟨w.heap.size,0,none⟩=some (.string ⟨c.1.toArray⟩):=HC.out.cell 0
 have kc1:W.cell? ⟨w.heap.size,1,none⟩=some (.string ⟨c.2.toArray⟩):=HC.out.cell 1
 have kt0:W.cell? ⟨w.heap.size+1,0,none⟩=some (.string ⟨t.1.toArray⟩):=HT.out.cell 0
 have kt1:W.cell? ⟨w.heap.size+1,1,none⟩=some (.string ⟨t.2.toArray⟩):=HT.out.cell 1
 have y1:(c.1.length:Int)≤140737488351232:=by omega
 have y2:(c.2.length:Int)≤140737488351232:=by omega
 have y3:(t.1.length:Int)≤140737488351232:=by omega
 have y4:(t.2.length:Int)≤140737488351232:=by omega
 have t1:¬(200:Int)<(c.1.length:Int)+(c.2.length:Int)+(t.1.length:Int)+(t.2.length:Int):=by omega
 have CI:=Lib.hid (fun(w1:World)=>Ms.risas_any ⟨c,t,0,0⟩ w1 ⟨by show c.1.length≤_;omega,by show c.2.length≤_;omega⟩ ⟨by show t.1.length≤_;omega,by show t.2.length≤_;omega⟩)
 rw[hb] at CI
 have LC:=Lib.hid (fun(w1:World)=>l_client w1)
 have LS:=Lib.hid (fun(w1:World)=>l_service w1)
 have LAA:=Lib.hid (fun(w1:World)=>l_tgt rA rA (by decide) w1)
 have LAE:=Lib.hid (fun(w1:World)=>l_tgt rA rE (by decide) w1)
 have KN:=Lib.hid (fun(w1:World)=>known_ok w1)
 obtain⟨c1,ec1⟩:∃z,z=key32 (kq 1):=⟨_,rfl⟩
 have K1:=Lib.hid (show ∀w1:World,Calls Tryz.prog 18 #[.int .u8 1] w1 fun e w'=>e = .returned (.agg c1)∧Below w1.heap.size w1 w' by intro w1;rw[ec1];exact l_key 1 w1)
 have KE1:=Lib.hid ec1
 clear ec1
 have LAA2:=Lib.hid (fun(w1:World)=>l_tgt rA rA (by decide) w1)
 have CB:=Lib.hid (fun(w1:World)=>begin_any false w1)
 have HBQ:=Lib.hid (built_as0 c t 9)
 obtain⟨csQ,ecQ⟩:∃z,z=asA ⟨c,t,9,0⟩:=⟨_,rfl⟩
 rw[←ecQ] at HBQ
 have HEQ:=Lib.hid ecQ
 obtain⟨rr,err⟩:∃z,z=asL rA itA 0 ⟨c,t,9,0⟩ 5 (kb 1):=⟨_,rfl⟩
 have HER:=Lib.hid err
 have HX:=Lib.hid (show rr=unX c t from err)
 have HAB:=Lib.hid hb
 have HEP:=Lib.hid (kb_keyA 1)
 have HSM:=Lib.hid (show pSm c∧pSm t from⟨⟨by omega,by omega⟩,⟨by omega,by omega⟩⟩)
 clear z1 z2 z3 z4 h hb ecQ err
 go_enter Tryz.func12,Tryz.ntmps12
 go_upto_region 1 with fail
 rw[←eW]
 clear eW
 go_upto_region 3 with(first
  |(go_at_call 41;refine Calls.mono (CI.out _) ?_;rintro e wi ⟨rfl,hb⟩;clear CI kc0 kc1 kt0 kt1;replace HC:=Lib.hid (HC.out.below hb);replace HT:=Lib.hid (HT.out.below hb);replace HB0:=Lib.hid (HB0.out.trans (hb.mono HB0.out.size));clear hb)
  |fail)
 clear y1 y2 y3 y4 t1
 obtain⟨P2,eP2⟩:∃z,z=w.heap.size:=⟨_,rfl⟩
 obtain⟨P3,eP3⟩:∃z,z=w.heap.size+1:=⟨_,rfl⟩
 have HP3:=Lib.hid (show P2<wi.heap.size∧P3<wi.heap.size∧P2≠P3 from⟨eP2▸HC.out.lt,eP3▸HT.out.lt,by omega⟩)
 rw[←eP3] at HT⊢
 rw[←eP2] at HC
 clear eP3
 have EP2:=Lib.hid eP2
 rw[←eP2]
 clear eP2
 go_upto_region 6 with(first
  |(go_at_call 16;refine Calls.mono (CB.out _) ?_;rintro e w1 ⟨g,p,es,d,rfl,hs⟩;clear CB;have HS:=Lib.hid hs;replace HC:=Lib.hid (HC.out.below hs.b);replace HT:=Lib.hid (HT.out.below hs.b);clear hs)
  |fail)
 have HKS:=Lib.hid HS.out.ks
 have HG:=Lib.hid (show Blk w1 g 44 (scC p.k d.x) from HS.out.blk)
 have HOG:=Lib.hid HS.out.gk
 have HIT:=Lib.hid (show its es=itA from HS.out.e)
 have HPR:=Lib.hid (show p.R=rA from HS.out.R)
 have HPT0:=Lib.hid HS.out.T
 have HBB:=Lib.hid (HB0.out.trans (HS.out.b.mono HB0.out.size))
 clear HS
 obtain⟨B,eB⟩:∃z,z=wi.heap.size:=⟨_,rfl⟩
 rw[←eB] at HKS
 have HOC:=Lib.hid (off_lo' HKS.out (show P2<B from eB▸HP3.out.1))
 have HOT2:=Lib.hid (off_lo' HKS.out (show P3<B from eB▸HP3.out.2.1))
 have HWB:=Lib.hid (show w.heap.size≤B from eB▸HB0.out.size)
 have HT2:=Lib.hid HT.out
 clear eB
 have CAS:=Lib.hid (fun(w2:World) (h:KS w2 B p es none 0 0 0)=>as_to9 HEQ.out (KE1.out.trans HEP.out) HPR.out HIT.out HER.out.symm h (by omega) (by omega) (by omega) (by decide) (by decide) (kb_len 1) HSM.out.1 HSM.out.2)
 have HS0:=Lib.hid HKS.out
 go_cut [6,7] from 35 to 46 (fun rv ev wx=>∃(PT:Nat) (cs:Array Value) (es2:List Ent),rv = .pointer (some ⟨PT,0,none⟩)∧ev = .int .i64 rr.1∧Got w1 wx B p es es2 (0+2*cnt rr.1) (0+cnt rr.1) (0+4) PT cs rr.2)
 case first=>
  clear HT
  have hdr:Below w1.heap.size w1 w1.drew:=below_drewN (Below.refl _ _) 1
  have HK:=Lib.hid (Kn.start HKS.out hdr)
  replace HG:=Lib.hid (HG.out.below hdr)
  replace HC:=Lib.hid (HC.out.below hdr)
  replace HT2:=Lib.hid (HT2.out.below hdr)
  clear hdr
  refine Reg.any_begin (fun w'=>Blk w' g 44 (scC p.k d.x)∧Blk w' P2 27 #[.string ⟨c.1.toArray⟩,.string ⟨c.2.toArray⟩]∧Blk w' P3 27 #[.string ⟨t.1.toArray⟩,.string ⟨t.2.toArray⟩]) 15 rfl (by kernel_rfl) ⟨HG.out,HC.out,HT2.out⟩ ?_
  refine Reg.tk 0 (v:=?va1) rfl ⟨HG.out,HC.out,HT2.out⟩ (fun w' hS=>?ha1) ?ra1
  case ha1=>go_simp<;>rfl
  simp only[Act.put,Reg.s0,Reg.s1,Reg.s2]
  refine Reg.tk 1 (v:=?va2) rfl ⟨HG.out,HC.out,HT2.out⟩ (fun w' hS=>?ha2) ?ra2
  case ha2=>go_simp<;>rfl
  simp only[Act.put,Reg.s0,Reg.s1,Reg.s2]
  refine Reg.tk 2 (v:=?va3) rfl ⟨HG.out,HC.out,HT2.out⟩ (fun w' hS=>?ha3) ?ra3
  case ha3=>go_simp<;>rfl
  simp only[Act.put,Reg.s0,Reg.s1,Reg.s2]
  refine Reg.tk 3 (v:=?va4) rfl ⟨HG.out,HC.out,HT2.out⟩ (fun w' hS=>?ha4) ?ra4
  case ha4=>have k0:=Blk.cell hS.1 0;go_simp<;>rfl
  simp only[Act.put,Reg.s0,Reg.s1,Reg.s2]
  refine Reg.tk 4 (v:=prV c) rfl ⟨HG.out,HC.out,HT2.out⟩ (fun w' hS=>?ha5) ?ra5
  case ha5=>exact Wh.exec_load (.tmp 2) rfl rfl hS.2.1 Tryz.underlying27 rfl pr_info
  simp only[Act.put,Reg.s0,Reg.s1,Reg.s2]
  refine Reg.tk 5 (v:=prV t) rfl ⟨HG.out,HC.out,HT2.out⟩ (fun w' hS=>?ha6) ?ra6
  case ha6=>exact Wh.exec_load (.tmp 3) rfl rfl hS.2.2 Tryz.underlying27 rfl pr_info
  simp only[Act.put,Reg.s0,Reg.s1,Reg.s2]
  refine Reg.tk 6 (v:=.agg csQ) rfl ⟨HG.out,HC.out,HT2.out⟩ (fun w' hS=>?ha7) ?ra7
  case ha7=>exact Rg.exec_build (by simp only[List.map_toArray,List.map_cons,List.map_nil];rfl) HBQ.out
  simp only[Act.put,Reg.s0,Reg.s1,Reg.s2]
  refine Reg.both_all [7,12] (by kernel_rfl) (by simp) ?_
  intro j0 hj0
  have hj0:j0=7∨j0=12:=by simpa using hj0
  rcases hj0 with rfl | rfl
  ·right
   refine⟨_,_,_,_,_,_,18,#[.int .u8 1],rfl,by rfl,(by go_simp<;>first | rfl | exact⟨rfl,rfl⟩),?_⟩
   refine Calls.mono (K1.out _) ?_
   rintro e wla8 ⟨rfl,hb⟩
   replace HG:=Lib.hid (HG.out.below hb)
   replace HC:=Lib.hid (HC.out.below hb)
   replace HT2:=Lib.hid (HT2.out.below hb)
   replace HK:=Lib.hid (HK.out.below hb)
   clear hb
   refine⟨_,rfl,⟨HG.out,HC.out,HT2.out⟩,?_⟩
   simp only[Act.put,Reg.s0,Reg.s1,Reg.s2]
   refine Reg.both_all [8,12] (by kernel_rfl) (by simp) ?_
   intro j0 hj0
   have hj0:j0=8∨j0=12:=by simpa using hj0
   rcases hj0 with rfl | rfl
   ·right
    refine⟨_,_,_,_,_,_,17,#[.pointer (some ⟨p.k,0,none⟩),.agg csQ,.int .i64 5,.agg c1],rfl,by rfl,(by go_simp<;>first | rfl | exact⟨rfl,rfl⟩),?_⟩
    refine Calls.mono (CAS.out _ HK.out.st) ?_
    rintro e waa9 ⟨cs,es2,rfl,hre,hk⟩
    have HCS:=Lib.hid (re_cells hre)
    have hnb:=hk.blk HG.out HOG.out.no
    replace HOG:=Lib.hid (hk.off HOG.out HG.out.lt)
    replace HG:=Lib.hid hnb
    clear hnb
    have hnb:=hk.blk HC.out HOC.out.no
    replace HOC:=Lib.hid (hk.off HOC.out HC.out.lt)
    replace HC:=Lib.hid hnb
    clear hnb
    have hnb:=hk.blk HT2.out HOT2.out.no
    replace HOT2:=Lib.hid (hk.off HOT2.out HT2.out.lt)
    replace HT2:=Lib.hid hnb
    clear hnb
    have HRE:=Lib.hid hre
    have HRS:=Lib.hid HK.out.size
    replace HK:=Lib.hid (HK.out.trans hk)
    clear hk hre
    refine⟨_,rfl,⟨HG.out,HC.out,HT2.out⟩,?_⟩
    simp only[Act.put,Reg.s0,Reg.s1,Reg.s2]
    refine Reg.tk 9 (v:=?va10) rfl ⟨HG.out,HC.out,HT2.out⟩ (fun w' hS=>?ha10) ?ra10
    case ha10=>go_simp<;>rfl
    simp only[Act.put,Reg.s0,Reg.s1,Reg.s2]
    refine Reg.tk 10 (v:=?va11) rfl ⟨HG.out,HC.out,HT2.out⟩ (fun w' hS=>?ha11) ?ra11
    case ha11=>go_simp<;>rfl
    simp only[Act.put,Reg.s0,Reg.s1,Reg.s2]
    refine Reg.tk 11 (v:=?va12) rfl ⟨HG.out,HC.out,HT2.out⟩ (fun w' hS=>?ha12) ?ra12
    case ha12=>go_simp<;>rfl
    simp only[Act.put,Reg.s0,Reg.s1,Reg.s2]
    refine Reg.both_all [12] (by kernel_rfl) (by simp) ?_
    intro j0 hj0
    obtain rfl:j0=12:=by simpa using hj0
    clear hj0
    left
    have hb:Below waa9.heap.size waa9 (waa9.alloc (.cells reZ 38)):=(Below.refl _ _).alloc (Nat.le_refl _) _
    have hnb:=Blk.new waa9 38 reZ
    have HNEHG:=Lib.hid (show g≠waa9.heap.size from Nat.ne_of_lt HG.out.lt)
    have HNEHC:=Lib.hid (show P2≠waa9.heap.size from Nat.ne_of_lt HC.out.lt)
    have HNEHT2:=Lib.hid (show P3≠waa9.heap.size from Nat.ne_of_lt HT2.out.lt)
    have HPT:=Lib.hid (show w1.heap.size≤waa9.heap.size from HK.out.size)
    have HOT:=Lib.hid (HK.out.st.offs (Nat.le_refl waa9.heap.size))
    refine⟨_,_,_,_,_,_,.pointer (some ⟨waa9.heap.size,0,none⟩),waa9.alloc (.cells reZ 38),rfl,by rfl,(by go_simp<;>rfl),⟨(HG.out.below hb),(HC.out.below hb),(HT2.out.below hb)⟩,?_⟩
    simp only[Act.put,Reg.s0,Reg.s1,Reg.s2]
    obtain⟨wta13,ewta13⟩:∃z,z=waa9.alloc (.cells reZ 38):=⟨_,rfl⟩
    rw[←ewta13] at hb hnb⊢
    clear ewta13
    replace HRE:=Lib.hid (re_new HRE.out HRS.out (Nat.le_refl _) hb)
    clear HRS
    have HT:=Lib.hid hnb
    clear hnb
    replace HG:=Lib.hid (HG.out.below hb)
    replace HC:=Lib.hid (HC.out.below hb)
    replace HT2:=Lib.hid (HT2.out.below hb)
    replace HK:=Lib.hid (HK.out.below hb)
    clear hb
    obtain⟨PT,ePT⟩:∃z,z=waa9.heap.size:=⟨_,rfl⟩
    rw[←ePT] at HT HPT HOT HNEHG HNEHC HNEHT2 HRE⊢
    clear ePT
    refine Reg.any_store_whole 13 rfl (by kernel_rfl) (by rfl) PT 38 _ cs HT.out (by rfl) (by rfl) (by rw[HCS.out.1];rfl) (by rw[HCS.out.1];exact re_info) HCS.out.2 ?_
    intro Va14 hV hg
    have HGT:=Lib.hid (got_mk HK.out HRE.out HOT.out HPT.out hV hg)
    replace HG:=Lib.hid (HG.out.grown hg (fun e=>by injection e with e;exact HNEHG.out e.symm))
    replace HC:=Lib.hid (HC.out.grown hg (fun e=>by injection e with e;exact HNEHC.out e.symm))
    replace HT2:=Lib.hid (HT2.out.grown hg (fun e=>by injection e with e;exact HNEHT2.out e.symm))
    clear hV hg HT HK HRE HOT HPT HCS
    refine⟨⟨HG.out,HC.out,HT2.out⟩,?_⟩
    simp only[Act.put,Reg.s0,Reg.s1,Reg.s2]
    refine Reg.tk 14 (v:=?va15) rfl ⟨HG.out,HC.out,HT2.out⟩ (fun w' hS=>?ha15) ?ra15
    case ha15=>go_simp<;>rfl
    simp only[Act.put,Reg.s0,Reg.s1,Reg.s2]
    refine wpAnyH_done (by kernel_rfl) ?_ _
    go_wp2_with fail
    go_meet
    exact⟨PT,_,_,rfl,rfl,HGT.out⟩
   ·left
    have hb:Below wla8.heap.size wla8 (wla8.alloc (.cells reZ 38)):=(Below.refl _ _).alloc (Nat.le_refl _) _
    have hnb:=Blk.new wla8 38 reZ
    have HNEHG:=Lib.hid (show g≠wla8.heap.size from Nat.ne_of_lt HG.out.lt)
    have HNEHC:=Lib.hid (show P2≠wla8.heap.size from Nat.ne_of_lt HC.out.lt)
    have HNEHT2:=Lib.hid (show P3≠wla8.heap.size from Nat.ne_of_lt HT2.out.lt)
    have HPT:=Lib.hid (show w1.heap.size≤wla8.heap.size from HK.out.size)
    have HOT:=Lib.hid (HK.out.st.offs (Nat.le_refl wla8.heap.size))
    refine⟨_,_,_,_,_,_,.pointer (some ⟨wla8.heap.size,0,none⟩),wla8.alloc (.cells reZ 38),rfl,by rfl,(by go_simp<;>rfl),⟨(HG.out.below hb),(HC.out.below hb),(HT2.out.below hb)⟩,?_⟩
    simp only[Act.put,Reg.s0,Reg.s1,Reg.s2]
    obtain⟨wta16,ewta16⟩:∃z,z=wla8.alloc (.cells reZ 38):=⟨_,rfl⟩
    rw[←ewta16] at hb hnb⊢
    clear ewta16
    have HT:=Lib.hid hnb
    clear hnb
    replace HG:=Lib.hid (HG.out.below hb)
    replace HC:=Lib.hid (HC.out.below hb)
    replace HT2:=Lib.hid (HT2.out.below hb)
    replace HK:=Lib.hid (HK.out.below hb)
    clear hb
    obtain⟨PT,ePT⟩:∃z,z=wla8.heap.size:=⟨_,rfl⟩
    rw[←ePT] at HT HPT HOT HNEHG HNEHC HNEHT2⊢
    clear ePT
    refine Reg.both_all [8] (by kernel_rfl) (by simp) ?_
    intro j0 hj0
    obtain rfl:j0=8:=by simpa using hj0
    clear hj0
    right
    refine⟨_,_,_,_,_,_,17,#[.pointer (some ⟨p.k,0,none⟩),.agg csQ,.int .i64 5,.agg c1],rfl,by rfl,(by go_simp<;>first | rfl | exact⟨rfl,rfl⟩),?_⟩
    refine Calls.mono (CAS.out _ HK.out.st) ?_
    rintro e waa17 ⟨cs,es2,rfl,hre,hk⟩
    have HCS:=Lib.hid (re_cells hre)
    have hnb:=hk.blk HG.out HOG.out.no
    replace HOG:=Lib.hid (hk.off HOG.out HG.out.lt)
    replace HG:=Lib.hid hnb
    clear hnb
    have hnb:=hk.blk HC.out HOC.out.no
    replace HOC:=Lib.hid (hk.off HOC.out HC.out.lt)
    replace HC:=Lib.hid hnb
    clear hnb
    have hnb:=hk.blk HT2.out HOT2.out.no
    replace HOT2:=Lib.hid (hk.off HOT2.out HT2.out.lt)
    replace HT2:=Lib.hid hnb
    clear hnb
    have HRE:=Lib.hid (re_old hre HK.out.size HT.out.lt)
    have hnb:=hk.blk HT.out HOT.out.no
    replace HOT:=Lib.hid (hk.off HOT.out HT.out.lt)
    replace HT:=Lib.hid hnb
    clear hnb
    replace HK:=Lib.hid (HK.out.trans hk)
    clear hk hre
    refine⟨_,rfl,⟨HG.out,HC.out,HT2.out⟩,?_⟩
    simp only[Act.put,Reg.s0,Reg.s1,Reg.s2]
    refine Reg.tk 9 (v:=?va18) rfl ⟨HG.out,HC.out,HT2.out⟩ (fun w' hS=>?ha18) ?ra18
    case ha18=>go_simp<;>rfl
    simp only[Act.put,Reg.s0,Reg.s1,Reg.s2]
    refine Reg.tk 10 (v:=?va19) rfl ⟨HG.out,HC.out,HT2.out⟩ (fun w' hS=>?ha19) ?ra19
    case ha19=>go_simp<;>rfl
    simp only[Act.put,Reg.s0,Reg.s1,Reg.s2]
    refine Reg.tk 11 (v:=?va20) rfl ⟨HG.out,HC.out,HT2.out⟩ (fun w' hS=>?ha20) ?ra20
    case ha20=>go_simp<;>rfl
    simp only[Act.put,Reg.s0,Reg.s1,Reg.s2]
    refine Reg.any_store_whole 13 rfl (by kernel_rfl) (by rfl) PT 38 _ cs HT.out (by rfl) (by rfl) (by rw[HCS.out.1];rfl) (by rw[HCS.out.1];exact re_info) HCS.out.2 ?_
    intro Va21 hV hg
    have HGT:=Lib.hid (got_mk HK.out HRE.out HOT.out HPT.out hV hg)
    replace HG:=Lib.hid (HG.out.grown hg (fun e=>by injection e with e;exact HNEHG.out e.symm))
    replace HC:=Lib.hid (HC.out.grown hg (fun e=>by injection e with e;exact HNEHC.out e.symm))
    replace HT2:=Lib.hid (HT2.out.grown hg (fun e=>by injection e with e;exact HNEHT2.out e.symm))
    clear hV hg HT HK HRE HOT HPT HCS
    refine⟨⟨HG.out,HC.out,HT2.out⟩,?_⟩
    simp only[Act.put,Reg.s0,Reg.s1,Reg.s2]
    refine Reg.tk 14 (v:=?va22) rfl ⟨HG.out,HC.out,HT2.out⟩ (fun w' hS=>?ha22) ?ra22
    case ha22=>go_simp<;>rfl
    simp only[Act.put,Reg.s0,Reg.s1,Reg.s2]
    refine wpAnyH_done (by kernel_rfl) ?_ _
    go_wp2_with fail
    go_meet
    exact⟨PT,_,_,rfl,rfl,HGT.out⟩
  ·left
   have hb:Below w1.drew.heap.size w1.drew (w1.drew.alloc (.cells reZ 38)):=(Below.refl _ _).alloc (Nat.le_refl _) _
   have hnb:=Blk.new w1.drew 38 reZ
   have HNEHG:=Lib.hid (show g≠w1.drew.heap.size from Nat.ne_of_lt HG.out.lt)
   have HNEHC:=Lib.hid (show P2≠w1.drew.heap.size from Nat.ne_of_lt HC.out.lt)
   have HNEHT2:=Lib.hid (show P3≠w1.drew.heap.size from Nat.ne_of_lt HT2.out.lt)
   have HPT:=Lib.hid (show w1.heap.size≤w1.drew.heap.size from HK.out.size)
   have HOT:=Lib.hid (HK.out.st.offs (Nat.le_refl w1.drew.heap.size))
   refine⟨_,_,_,_,_,_,.pointer (some ⟨w1.drew.heap.size,0,none⟩),w1.drew.alloc (.cells reZ 38),rfl,by rfl,(by go_simp<;>rfl),⟨(HG.out.below hb),(HC.out.below hb),(HT2.out.below hb)⟩,?_⟩
   simp only[Act.put,Reg.s0,Reg.s1,Reg.s2]
   obtain⟨wta23,ewta23⟩:∃z,z=w1.drew.alloc (.cells reZ 38):=⟨_,rfl⟩
   rw[←ewta23] at hb hnb⊢
   clear ewta23
   have HT:=Lib.hid hnb
   clear hnb
   replace HG:=Lib.hid (HG.out.below hb)
   replace HC:=Lib.hid (HC.out.below hb)
   replace HT2:=Lib.hid (HT2.out.below hb)
   replace HK:=Lib.hid (HK.out.below hb)
   clear hb
   obtain⟨PT,ePT⟩:∃z,z=w1.drew.heap.size:=⟨_,rfl⟩
   rw[←ePT] at HT HPT HOT HNEHG HNEHC HNEHT2⊢
   clear ePT
   refine Reg.both_all [7] (by kernel_rfl) (by simp) ?_
   intro j0 hj0
   obtain rfl:j0=7:=by simpa using hj0
   clear hj0
   right
   refine⟨_,_,_,_,_,_,18,#[.int .u8 1],rfl,by rfl,(by go_simp<;>first | rfl | exact⟨rfl,rfl⟩),?_⟩
   refine Calls.mono (K1.out _) ?_
   rintro e wla24 ⟨rfl,hb⟩
   replace HG:=Lib.hid (HG.out.below hb)
   replace HC:=Lib.hid (HC.out.below hb)
   replace HT2:=Lib.hid (HT2.out.below hb)
   replace HK:=Lib.hid (HK.out.below hb)
   replace HT:=Lib.hid (HT.out.below hb)
   clear hb
   refine⟨_,rfl,⟨HG.out,HC.out,HT2.out⟩,?_⟩
   simp only[Act.put,Reg.s0,Reg.s1,Reg.s2]
   refine Reg.both_all [8] (by kernel_rfl) (by simp) ?_
   intro j0 hj0
   obtain rfl:j0=8:=by simpa using hj0
   clear hj0
   right
   refine⟨_,_,_,_,_,_,17,#[.pointer (some ⟨p.k,0,none⟩),.agg csQ,.int .i64 5,.agg c1],rfl,by rfl,(by go_simp<;>first | rfl | exact⟨rfl,rfl⟩),?_⟩
   refine Calls.mono (CAS.out _ HK.out.st) ?_
   rintro e waa25 ⟨cs,es2,rfl,hre,hk⟩
   have HCS:=Lib.hid (re_cells hre)
   have hnb:=hk.blk HG.out HOG.out.no
   replace HOG:=Lib.hid (hk.off HOG.out HG.out.lt)
   replace HG:=Lib.hid hnb
   clear hnb
   have hnb:=hk.blk HC.out HOC.out.no
   replace HOC:=Lib.hid (hk.off HOC.out HC.out.lt)
   replace HC:=Lib.hid hnb
   clear hnb
   have hnb:=hk.blk HT2.out HOT2.out.no
   replace HOT2:=Lib.hid (hk.off HOT2.out HT2.out.lt)
   replace HT2:=Lib.hid hnb
   clear hnb
   have HRE:=Lib.hid (re_old hre HK.out.size HT.out.lt)
   have hnb:=hk.blk HT.out HOT.out.no
   replace HOT:=Lib.hid (hk.off HOT.out HT.out.lt)
   replace HT:=Lib.hid hnb
   clear hnb
   replace HK:=Lib.hid (HK.out.trans hk)
   clear hk hre
   refine⟨_,rfl,⟨HG.out,HC.out,HT2.out⟩,?_⟩
   simp only[Act.put,Reg.s0,Reg.s1,Reg.s2]
   refine Reg.tk 9 (v:=?va26) rfl ⟨HG.out,HC.out,HT2.out⟩ (fun w' hS=>?ha26) ?ra26
   case ha26=>go_simp<;>rfl
   simp only[Act.put,Reg.s0,Reg.s1,Reg.s2]
   refine Reg.tk 10 (v:=?va27) rfl ⟨HG.out,HC.out,HT2.out⟩ (fun w' hS=>?ha27) ?ra27
   case ha27=>go_simp<;>rfl
   simp only[Act.put,Reg.s0,Reg.s1,Reg.s2]
   refine Reg.tk 11 (v:=?va28) rfl ⟨HG.out,HC.out,HT2.out⟩ (fun w' hS=>?ha28) ?ra28
   case ha28=>go_simp<;>rfl
   simp only[Act.put,Reg.s0,Reg.s1,Reg.s2]
   refine Reg.any_store_whole 13 rfl (by kernel_rfl) (by rfl) PT 38 _ cs HT.out (by rfl) (by rfl) (by rw[HCS.out.1];rfl) (by rw[HCS.out.1];exact re_info) HCS.out.2 ?_
   intro Va29 hV hg
   have HGT:=Lib.hid (got_mk HK.out HRE.out HOT.out HPT.out hV hg)
   replace HG:=Lib.hid (HG.out.grown hg (fun e=>by injection e with e;exact HNEHG.out e.symm))
   replace HC:=Lib.hid (HC.out.grown hg (fun e=>by injection e with e;exact HNEHC.out e.symm))
   replace HT2:=Lib.hid (HT2.out.grown hg (fun e=>by injection e with e;exact HNEHT2.out e.symm))
   clear hV hg HT HK HRE HOT HPT HCS
   refine⟨⟨HG.out,HC.out,HT2.out⟩,?_⟩
   simp only[Act.put,Reg.s0,Reg.s1,Reg.s2]
   refine Reg.tk 14 (v:=?va30) rfl ⟨HG.out,HC.out,HT2.out⟩ (fun w' hS=>?ha30) ?ra30
   case ha30=>go_simp<;>rfl
   simp only[Act.put,Reg.s0,Reg.s1,Reg.s2]
   refine wpAnyH_done (by kernel_rfl) ?_ _
   go_wp2_with fail
   go_meet
   exact⟨PT,_,_,rfl,rfl,HGT.out⟩
 case rest=>
  obtain⟨PT,cs,es2,rfl,rfl,hgt⟩:=hcut
  replace HBB:=Lib.hid (HBB.out.trans ((hgt.kn.base HS0.out).mono HWB.out))
  replace HC:=Lib.hid (hgt.kn.blk HC.out HOC.out.no)
  replace HT:=Lib.hid (hgt.kn.blk HT.out HOT2.out.no)
  clear hgt HKS HG HOG HS0 CAS HT2 HOT2 HBQ HEQ HER HIT HPR HPT0 HWB HEP HP3
  by_cases hh:c=pAnn∨c=pMail∨c=kr rA rA∨c=kr rA rE
  ·have hv:=un_yes HAB.out hh
   rw[←HX.out] at hv
   have HVV:=Lib.hid hv
   have QR:=Lib.hid (show(c.1==([65,46,69,68,85]:Nm.L))=true by rcases hh with rfl | rfl | rfl | rfl<;>decide)
   clear hv
   go_upto_region 7 with fail
   go_cut [8] from 47 to 69 (fun hv wx=>hv = .bool true∧Blk wx P3 27 #[.string ⟨t.1.toArray⟩,.string ⟨t.2.toArray⟩]∧Below w.heap.size w wx)
   case first=>
    rcases hh with hh | hh | hh | hh
    ·have Q0:=Lib.hid (Rg.eql_pr_yes hh)
     clear hh
     have hdr:Below wc.heap.size wc wc.drew:=below_drewN (Below.refl _ _) 1
     replace HC:=Lib.hid (HC.out.below hdr)
     replace HT:=Lib.hid (HT.out.below hdr)
     replace HBB:=Lib.hid (HBB.out.trans (hdr.mono HBB.out.size))
     clear hdr
     refine Reg.any_begin (fun w'=>Blk w' P2 27 #[.string ⟨c.1.toArray⟩,.string ⟨c.2.toArray⟩]) 24 rfl (by kernel_rfl) HC.out ?_
     refine Reg.tk 0 (v:=?vg31) rfl HC.out (fun w' hS=>?hg31) ?rg31
     case hg31=>go_simp<;>rfl
     simp only[Act.put,Reg.s0,Reg.s1,Reg.s2]
     refine Reg.tk 1 (v:=.string ⟨c.1.toArray⟩) rfl HC.out (fun w' hS=>?hg32) ?rg32
     case hg32=>have k0:=Blk.cell hS 0;go_simp<;>rfl
     simp only[Act.put,Reg.s0,Reg.s1,Reg.s2]
     refine Reg.tk 2 (v:=.bool true) rfl HC.out (fun w' hS=>?hg33) ?rg33
     case hg33=>have h1:=QR.out;go_simp<;>rfl
     simp only[Act.put,Reg.s0,Reg.s1,Reg.s2]
     refine Reg.tk 3 (v:=?vg34) rfl HC.out (fun w' hS=>?hg34) ?rg34
     case hg34=>go_simp<;>rfl
     simp only[Act.put,Reg.s0,Reg.s1,Reg.s2]
     refine Reg.tk 4 (v:=prV c) rfl HC.out (fun w' hS=>?hg35) ?rg35
     case hg35=>exact Wh.exec_load (.tmp 2) rfl rfl hS Tryz.underlying27 rfl pr_info
     simp only[Act.put,Reg.s0,Reg.s1,Reg.s2]
     refine Reg.both_all [5] (by kernel_rfl) (by simp) ?_
     intro j0 hj0
     obtain rfl:j0=5:=by simpa using hj0
     clear hj0
     right
     refine⟨_,_,_,_,_,_,27,#[],rfl,by rfl,(by go_simp<;>first | rfl | exact⟨rfl,rfl⟩),?_⟩
     refine Calls.mono (LC.out _) ?_
     rintro e wlg36 ⟨rfl,hb⟩
     replace HC:=Lib.hid (HC.out.below hb)
     replace HT:=Lib.hid (HT.out.below hb)
     replace HBB:=Lib.hid (HBB.out.trans (hb.mono HBB.out.size))
     clear hb
     refine⟨_,rfl,HC.out,?_⟩
     simp only[Act.put,Reg.s0,Reg.s1,Reg.s2]
     refine Reg.tk 6 (v:=.bool true) rfl HC.out (fun w' hS=>?hg37) ?rg37
     case hg37=>have h1:=Q0.out;go_simp<;>rfl
     simp only[Act.put,Reg.s0,Reg.s1,Reg.s2]
     refine Reg.tk 7 (v:=?vg38) rfl HC.out (fun w' hS=>?hg38) ?rg38
     case hg38=>go_simp<;>rfl
     simp only[Act.put,Reg.s0,Reg.s1,Reg.s2]
     refine Reg.any_skip 8 rfl (by kernel_rfl) (by kernel_rfl) (by kernel_rfl) (fun _ _ _ h=>h) HC.out (by rfl) ?_
     simp only[Act.put,Reg.s0,Reg.s1,Reg.s2]
     refine Reg.any_skip 9 rfl (by kernel_rfl) (by kernel_rfl) (by kernel_rfl) (fun _ _ _ h=>h) HC.out (by rfl) ?_
     simp only[Act.put,Reg.s0,Reg.s1,Reg.s2]
     refine Reg.any_skip 10 rfl (by kernel_rfl) (by kernel_rfl) (by kernel_rfl) (fun _ _ _ h=>h) HC.out (by rfl) ?_
     simp only[Act.put,Reg.s0,Reg.s1,Reg.s2]
     refine Reg.tk 11 (v:=?vg39) rfl HC.out (fun w' hS=>?hg39) ?rg39
     case hg39=>go_simp<;>rfl
     simp only[Act.put,Reg.s0,Reg.s1,Reg.s2]
     refine Reg.tk 12 (v:=?vg40) rfl HC.out (fun w' hS=>?hg40) ?rg40
     case hg40=>go_simp<;>rfl
     simp only[Act.put,Reg.s0,Reg.s1,Reg.s2]
     refine Reg.any_skip 13 rfl (by kernel_rfl) (by kernel_rfl) (by kernel_rfl) (fun _ _ _ h=>h) HC.out (by rfl) ?_
     simp only[Act.put,Reg.s0,Reg.s1,Reg.s2]
     refine Reg.any_skip 14 rfl (by kernel_rfl) (by kernel_rfl) (by kernel_rfl) (fun _ _ _ h=>h) HC.out (by rfl) ?_
     simp only[Act.put,Reg.s0,Reg.s1,Reg.s2]
     refine Reg.any_skip 15 rfl (by kernel_rfl) (by kernel_rfl) (by kernel_rfl) (fun _ _ _ h=>h) HC.out (by rfl) ?_
     simp only[Act.put,Reg.s0,Reg.s1,Reg.s2]
     refine Reg.tk 16 (v:=?vg41) rfl HC.out (fun w' hS=>?hg41) ?rg41
     case hg41=>go_simp<;>rfl
     simp only[Act.put,Reg.s0,Reg.s1,Reg.s2]
     refine Reg.tk 17 (v:=?vg42) rfl HC.out (fun w' hS=>?hg42) ?rg42
     case hg42=>go_simp<;>rfl
     simp only[Act.put,Reg.s0,Reg.s1,Reg.s2]
     refine Reg.any_skip 18 rfl (by kernel_rfl) (by kernel_rfl) (by kernel_rfl) (fun _ _ _ h=>h) HC.out (by rfl) ?_
     simp only[Act.put,Reg.s0,Reg.s1,Reg.s2]
     refine Reg.any_skip 19 rfl (by kernel_rfl) (by kernel_rfl) (by kernel_rfl) (fun _ _ _ h=>h) HC.out (by rfl) ?_
     simp only[Act.put,Reg.s0,Reg.s1,Reg.s2]
     refine Reg.any_skip 20 rfl (by kernel_rfl) (by kernel_rfl) (by kernel_rfl) (fun _ _ _ h=>h) HC.out (by rfl) ?_
     simp only[Act.put,Reg.s0,Reg.s1,Reg.s2]
     refine Reg.tk 21 (v:=?vg43) rfl HC.out (fun w' hS=>?hg43) ?rg43
     case hg43=>go_simp<;>rfl
     simp only[Act.put,Reg.s0,Reg.s1,Reg.s2]
     refine Reg.tk 22 (v:=?vg44) rfl HC.out (fun w' hS=>?hg44) ?rg44
     case hg44=>go_simp<;>rfl
     simp only[Act.put,Reg.s0,Reg.s1,Reg.s2]
     refine Reg.tk 23 (v:=?vg45) rfl HC.out (fun w' hS=>?hg45) ?rg45
     case hg45=>go_simp<;>rfl
     simp only[Act.put,Reg.s0,Reg.s1,Reg.s2]
     refine wpAnyH_done (by kernel_rfl) ?_ _
     skip
     go_wp2_with fail
     go_meet
     exact⟨rfl,HT.out,HBB.out⟩
    ·have Q0:=Lib.hid (Rg.eql_pr_no (x:=c) (y:=pAnn) (by rw[hh];decide +kernel))
     have Q1:=Lib.hid (Rg.eql_pr_yes hh)
     clear hh
     have hdr:Below wc.heap.size wc wc.drew:=below_drewN (Below.refl _ _) 1
     replace HC:=Lib.hid (HC.out.below hdr)
     replace HT:=Lib.hid (HT.out.below hdr)
     replace HBB:=Lib.hid (HBB.out.trans (hdr.mono HBB.out.size))
     clear hdr
     refine Reg.any_begin (fun w'=>Blk w' P2 27 #[.string ⟨c.1.toArray⟩,.string ⟨c.2.toArray⟩]) 24 rfl (by kernel_rfl) HC.out ?_
     refine Reg.tk 0 (v:=?vg46) rfl HC.out (fun w' hS=>?hg46) ?rg46
     case hg46=>go_simp<;>rfl
     simp only[Act.put,Reg.s0,Reg.s1,Reg.s2]
     refine Reg.tk 1 (v:=.string ⟨c.1.toArray⟩) rfl HC.out (fun w' hS=>?hg47) ?rg47
     case hg47=>have k0:=Blk.cell hS 0;go_simp<;>rfl
     simp only[Act.put,Reg.s0,Reg.s1,Reg.s2]
     refine Reg.tk 2 (v:=.bool true) rfl HC.out (fun w' hS=>?hg48) ?rg48
     case hg48=>have h1:=QR.out;go_simp<;>rfl
     simp only[Act.put,Reg.s0,Reg.s1,Reg.s2]
     refine Reg.tk 3 (v:=?vg49) rfl HC.out (fun w' hS=>?hg49) ?rg49
     case hg49=>go_simp<;>rfl
     simp only[Act.put,Reg.s0,Reg.s1,Reg.s2]
     refine Reg.tk 4 (v:=prV c) rfl HC.out (fun w' hS=>?hg50) ?rg50
     case hg50=>exact Wh.exec_load (.tmp 2) rfl rfl hS Tryz.underlying27 rfl pr_info
     simp only[Act.put,Reg.s0,Reg.s1,Reg.s2]
     refine Reg.both_all [5] (by kernel_rfl) (by simp) ?_
     intro j0 hj0
     obtain rfl:j0=5:=by simpa using hj0
     clear hj0
     right
     refine⟨_,_,_,_,_,_,27,#[],rfl,by rfl,(by go_simp<;>first | rfl | exact⟨rfl,rfl⟩),?_⟩
     refine Calls.mono (LC.out _) ?_
     rintro e wlg51 ⟨rfl,hb⟩
     replace HC:=Lib.hid (HC.out.below hb)
     replace HT:=Lib.hid (HT.out.below hb)
     replace HBB:=Lib.hid (HBB.out.trans (hb.mono HBB.out.size))
     clear hb
     refine⟨_,rfl,HC.out,?_⟩
     simp only[Act.put,Reg.s0,Reg.s1,Reg.s2]
     refine Reg.tk 6 (v:=.bool false) rfl HC.out (fun w' hS=>?hg52) ?rg52
     case hg52=>have h1:=Q0.out;go_simp<;>rfl
     simp only[Act.put,Reg.s0,Reg.s1,Reg.s2]
     refine Reg.tk 7 (v:=?vg53) rfl HC.out (fun w' hS=>?hg53) ?rg53
     case hg53=>go_simp<;>rfl
     simp only[Act.put,Reg.s0,Reg.s1,Reg.s2]
     refine Reg.tk 8 (v:=prV c) rfl HC.out (fun w' hS=>?hg54) ?rg54
     case hg54=>exact Wh.exec_load (.tmp 2) rfl rfl hS Tryz.underlying27 rfl pr_info
     simp only[Act.put,Reg.s0,Reg.s1,Reg.s2]
     refine Reg.both_all [9] (by kernel_rfl) (by simp) ?_
     intro j0 hj0
     obtain rfl:j0=9:=by simpa using hj0
     clear hj0
     right
     refine⟨_,_,_,_,_,_,34,#[],rfl,by rfl,(by go_simp<;>first | rfl | exact⟨rfl,rfl⟩),?_⟩
     refine Calls.mono (LS.out _) ?_
     rintro e wlg55 ⟨rfl,hb⟩
     replace HC:=Lib.hid (HC.out.below hb)
     replace HT:=Lib.hid (HT.out.below hb)
     replace HBB:=Lib.hid (HBB.out.trans (hb.mono HBB.out.size))
     clear hb
     refine⟨_,rfl,HC.out,?_⟩
     simp only[Act.put,Reg.s0,Reg.s1,Reg.s2]
     refine Reg.tk 10 (v:=.bool true) rfl HC.out (fun w' hS=>?hg56) ?rg56
     case hg56=>have h1:=Q1.out;go_simp<;>rfl
     simp only[Act.put,Reg.s0,Reg.s1,Reg.s2]
     refine Reg.tk 11 (v:=?vg57) rfl HC.out (fun w' hS=>?hg57) ?rg57
     case hg57=>go_simp<;>rfl
     simp only[Act.put,Reg.s0,Reg.s1,Reg.s2]
     refine Reg.tk 12 (v:=?vg58) rfl HC.out (fun w' hS=>?hg58) ?rg58
     case hg58=>go_simp<;>rfl
     simp only[Act.put,Reg.s0,Reg.s1,Reg.s2]
     refine Reg.any_skip 13 rfl (by kernel_rfl) (by kernel_rfl) (by kernel_rfl) (fun _ _ _ h=>h) HC.out (by rfl) ?_
     simp only[Act.put,Reg.s0,Reg.s1,Reg.s2]
     refine Reg.any_skip 14 rfl (by kernel_rfl) (by kernel_rfl) (by kernel_rfl) (fun _ _ _ h=>h) HC.out (by rfl) ?_
     simp only[Act.put,Reg.s0,Reg.s1,Reg.s2]
     refine Reg.any_skip 15 rfl (by kernel_rfl) (by kernel_rfl) (by kernel_rfl) (fun _ _ _ h=>h) HC.out (by rfl) ?_
     simp only[Act.put,Reg.s0,Reg.s1,Reg.s2]
     refine Reg.tk 16 (v:=?vg59) rfl HC.out (fun w' hS=>?hg59) ?rg59
     case hg59=>go_simp<;>rfl
     simp only[Act.put,Reg.s0,Reg.s1,Reg.s2]
     refine Reg.tk 17 (v:=?vg60) rfl HC.out (fun w' hS=>?hg60) ?rg60
     case hg60=>go_simp<;>rfl
     simp only[Act.put,Reg.s0,Reg.s1,Reg.s2]
     refine Reg.any_skip 18 rfl (by kernel_rfl) (by kernel_rfl) (by kernel_rfl) (fun _ _ _ h=>h) HC.out (by rfl) ?_
     simp only[Act.put,Reg.s0,Reg.s1,Reg.s2]
     refine Reg.any_skip 19 rfl (by kernel_rfl) (by kernel_rfl) (by kernel_rfl) (fun _ _ _ h=>h) HC.out (by rfl) ?_
     simp only[Act.put,Reg.s0,Reg.s1,Reg.s2]
     refine Reg.any_skip 20 rfl (by kernel_rfl) (by kernel_rfl) (by kernel_rfl) (fun _ _ _ h=>h) HC.out (by rfl) ?_
     simp only[Act.put,Reg.s0,Reg.s1,Reg.s2]
     refine Reg.tk 21 (v:=?vg61) rfl HC.out (fun w' hS=>?hg61) ?rg61
     case hg61=>go_simp<;>rfl
     simp only[Act.put,Reg.s0,Reg.s1,Reg.s2]
     refine Reg.tk 22 (v:=?vg62) rfl HC.out (fun w' hS=>?hg62) ?rg62
     case hg62=>go_simp<;>rfl
     simp only[Act.put,Reg.s0,Reg.s1,Reg.s2]
     refine Reg.tk 23 (v:=?vg63) rfl HC.out (fun w' hS=>?hg63) ?rg63
     case hg63=>go_simp<;>rfl
     simp only[Act.put,Reg.s0,Reg.s1,Reg.s2]
     refine wpAnyH_done (by kernel_rfl) ?_ _
     skip
     go_wp2_with fail
     go_meet
     exact⟨rfl,HT.out,HBB.out⟩
    ·have Q0:=Lib.hid (Rg.eql_pr_no (x:=c) (y:=pAnn) (by rw[hh];decide +kernel))
     have Q1:=Lib.hid (Rg.eql_pr_no (x:=c) (y:=pMail) (by rw[hh];decide +kernel))
     have Q2:=Lib.hid (Rg.eql_pr_yes hh)
     clear hh
     have hdr:Below wc.heap.size wc wc.drew:=below_drewN (Below.refl _ _) 1
     replace HC:=Lib.hid (HC.out.below hdr)
     replace HT:=Lib.hid (HT.out.below hdr)
     replace HBB:=Lib.hid (HBB.out.trans (hdr.mono HBB.out.size))
     clear hdr
     refine Reg.any_begin (fun w'=>Blk w' P2 27 #[.string ⟨c.1.toArray⟩,.string ⟨c.2.toArray⟩]) 24 rfl (by kernel_rfl) HC.out ?_
     refine Reg.tk 0 (v:=?vg64) rfl HC.out (fun w' hS=>?hg64) ?rg64
     case hg64=>go_simp<;>rfl
     simp only[Act.put,Reg.s0,Reg.s1,Reg.s2]
     refine Reg.tk 1 (v:=.string ⟨c.1.toArray⟩) rfl HC.out (fun w' hS=>?hg65) ?rg65
     case hg65=>have k0:=Blk.cell hS 0;go_simp<;>rfl
     simp only[Act.put,Reg.s0,Reg.s1,Reg.s2]
     refine Reg.tk 2 (v:=.bool true) rfl HC.out (fun w' hS=>?hg66) ?rg66
     case hg66=>have h1:=QR.out;go_simp<;>rfl
     simp only[Act.put,Reg.s0,Reg.s1,Reg.s2]
     refine Reg.tk 3 (v:=?vg67) rfl HC.out (fun w' hS=>?hg67) ?rg67
     case hg67=>go_simp<;>rfl
     simp only[Act.put,Reg.s0,Reg.s1,Reg.s2]
     refine Reg.tk 4 (v:=prV c) rfl HC.out (fun w' hS=>?hg68) ?rg68
     case hg68=>exact Wh.exec_load (.tmp 2) rfl rfl hS Tryz.underlying27 rfl pr_info
     simp only[Act.put,Reg.s0,Reg.s1,Reg.s2]
     refine Reg.both_all [5] (by kernel_rfl) (by simp) ?_
     intro j0 hj0
     obtain rfl:j0=5:=by simpa using hj0
     clear hj0
     right
     refine⟨_,_,_,_,_,_,27,#[],rfl,by rfl,(by go_simp<;>first | rfl | exact⟨rfl,rfl⟩),?_⟩
     refine Calls.mono (LC.out _) ?_
     rintro e wlg69 ⟨rfl,hb⟩
     replace HC:=Lib.hid (HC.out.below hb)
     replace HT:=Lib.hid (HT.out.below hb)
     replace HBB:=Lib.hid (HBB.out.trans (hb.mono HBB.out.size))
     clear hb
     refine⟨_,rfl,HC.out,?_⟩
     simp only[Act.put,Reg.s0,Reg.s1,Reg.s2]
     refine Reg.tk 6 (v:=.bool false) rfl HC.out (fun w' hS=>?hg70) ?rg70
     case hg70=>have h1:=Q0.out;go_simp<;>rfl
     simp only[Act.put,Reg.s0,Reg.s1,Reg.s2]
     refine Reg.tk 7 (v:=?vg71) rfl HC.out (fun w' hS=>?hg71) ?rg71
     case hg71=>go_simp<;>rfl
     simp only[Act.put,Reg.s0,Reg.s1,Reg.s2]
     refine Reg.tk 8 (v:=prV c) rfl HC.out (fun w' hS=>?hg72) ?rg72
     case hg72=>exact Wh.exec_load (.tmp 2) rfl rfl hS Tryz.underlying27 rfl pr_info
     simp only[Act.put,Reg.s0,Reg.s1,Reg.s2]
     refine Reg.both_all [9] (by kernel_rfl) (by simp) ?_
     intro j0 hj0
     obtain rfl:j0=9:=by simpa using hj0
     clear hj0
     right
     refine⟨_,_,_,_,_,_,34,#[],rfl,by rfl,(by go_simp<;>first | rfl | exact⟨rfl,rfl⟩),?_⟩
     refine Calls.mono (LS.out _) ?_
     rintro e wlg73 ⟨rfl,hb⟩
     replace HC:=Lib.hid (HC.out.below hb)
     replace HT:=Lib.hid (HT.out.below hb)
     replace HBB:=Lib.hid (HBB.out.trans (hb.mono HBB.out.size))
     clear hb
     refine⟨_,rfl,HC.out,?_⟩
     simp only[Act.put,Reg.s0,Reg.s1,Reg.s2]
     refine Reg.tk 10 (v:=.bool false) rfl HC.out (fun w' hS=>?hg74) ?rg74
     case hg74=>have h1:=Q1.out;go_simp<;>rfl
     simp only[Act.put,Reg.s0,Reg.s1,Reg.s2]
     refine Reg.tk 11 (v:=?vg75) rfl HC.out (fun w' hS=>?hg75) ?rg75
     case hg75=>go_simp<;>rfl
     simp only[Act.put,Reg.s0,Reg.s1,Reg.s2]
     refine Reg.tk 12 (v:=?vg76) rfl HC.out (fun w' hS=>?hg76) ?rg76
     case hg76=>go_simp<;>rfl
     simp only[Act.put,Reg.s0,Reg.s1,Reg.s2]
     refine Reg.tk 13 (v:=prV c) rfl HC.out (fun w' hS=>?hg77) ?rg77
     case hg77=>exact Wh.exec_load (.tmp 2) rfl rfl hS Tryz.underlying27 rfl pr_info
     simp only[Act.put,Reg.s0,Reg.s1,Reg.s2]
     refine Reg.both_all [14] (by kernel_rfl) (by simp) ?_
     intro j0 hj0
     obtain rfl:j0=14:=by simpa using hj0
     clear hj0
     right
     refine⟨_,_,_,_,_,_,28,#[.string ⟨rA.toArray⟩,.string ⟨rA.toArray⟩],rfl,by rfl,(by go_simp<;>first | rfl | exact⟨rfl,rfl⟩),?_⟩
     refine Calls.mono (LAA.out _) ?_
     rintro e wlg78 ⟨rfl,hb⟩
     replace HC:=Lib.hid (HC.out.below hb)
     replace HT:=Lib.hid (HT.out.below hb)
     replace HBB:=Lib.hid (HBB.out.trans (hb.mono HBB.out.size))
     clear hb
     refine⟨_,rfl,HC.out,?_⟩
     simp only[Act.put,Reg.s0,Reg.s1,Reg.s2]
     refine Reg.tk 15 (v:=.bool true) rfl HC.out (fun w' hS=>?hg79) ?rg79
     case hg79=>have h1:=Q2.out;go_simp<;>rfl
     simp only[Act.put,Reg.s0,Reg.s1,Reg.s2]
     refine Reg.tk 16 (v:=?vg80) rfl HC.out (fun w' hS=>?hg80) ?rg80
     case hg80=>go_simp<;>rfl
     simp only[Act.put,Reg.s0,Reg.s1,Reg.s2]
     refine Reg.tk 17 (v:=?vg81) rfl HC.out (fun w' hS=>?hg81) ?rg81
     case hg81=>go_simp<;>rfl
     simp only[Act.put,Reg.s0,Reg.s1,Reg.s2]
     refine Reg.any_skip 18 rfl (by kernel_rfl) (by kernel_rfl) (by kernel_rfl) (fun _ _ _ h=>h) HC.out (by rfl) ?_
     simp only[Act.put,Reg.s0,Reg.s1,Reg.s2]
     refine Reg.any_skip 19 rfl (by kernel_rfl) (by kernel_rfl) (by kernel_rfl) (fun _ _ _ h=>h) HC.out (by rfl) ?_
     simp only[Act.put,Reg.s0,Reg.s1,Reg.s2]
     refine Reg.any_skip 20 rfl (by kernel_rfl) (by kernel_rfl) (by kernel_rfl) (fun _ _ _ h=>h) HC.out (by rfl) ?_
     simp only[Act.put,Reg.s0,Reg.s1,Reg.s2]
     refine Reg.tk 21 (v:=?vg82) rfl HC.out (fun w' hS=>?hg82) ?rg82
     case hg82=>go_simp<;>rfl
     simp only[Act.put,Reg.s0,Reg.s1,Reg.s2]
     refine Reg.tk 22 (v:=?vg83) rfl HC.out (fun w' hS=>?hg83) ?rg83
     case hg83=>go_simp<;>rfl
     simp only[Act.put,Reg.s0,Reg.s1,Reg.s2]
     refine Reg.tk 23 (v:=?vg84) rfl HC.out (fun w' hS=>?hg84) ?rg84
     case hg84=>go_simp<;>rfl
     simp only[Act.put,Reg.s0,Reg.s1,Reg.s2]
     refine wpAnyH_done (by kernel_rfl) ?_ _
     skip
     go_wp2_with fail
     go_meet
     exact⟨rfl,HT.out,HBB.out⟩
    ·have Q0:=Lib.hid (Rg.eql_pr_no (x:=c) (y:=pAnn) (by rw[hh];decide +kernel))
     have Q1:=Lib.hid (Rg.eql_pr_no (x:=c) (y:=pMail) (by rw[hh];decide +kernel))
     have Q2:=Lib.hid (Rg.eql_pr_no (x:=c) (y:=kr rA rA) (by rw[hh];decide +kernel))
     have Q3:=Lib.hid (Rg.eql_pr_yes hh)
     clear hh
     have hdr:Below wc.heap.size wc wc.drew:=below_drewN (Below.refl _ _) 1
     replace HC:=Lib.hid (HC.out.below hdr)
     replace HT:=Lib.hid (HT.out.below hdr)
     replace HBB:=Lib.hid (HBB.out.trans (hdr.mono HBB.out.size))
     clear hdr
     refine Reg.any_begin (fun w'=>Blk w' P2 27 #[.string ⟨c.1.toArray⟩,.string ⟨c.2.toArray⟩]) 24 rfl (by kernel_rfl) HC.out ?_
     refine Reg.tk 0 (v:=?vg85) rfl HC.out (fun w' hS=>?hg85) ?rg85
     case hg85=>go_simp<;>rfl
     simp only[Act.put,Reg.s0,Reg.s1,Reg.s2]
     refine Reg.tk 1 (v:=.string ⟨c.1.toArray⟩) rfl HC.out (fun w' hS=>?hg86) ?rg86
     case hg86=>have k0:=Blk.cell hS 0;go_simp<;>rfl
     simp only[Act.put,Reg.s0,Reg.s1,Reg.s2]
     refine Reg.tk 2 (v:=.bool true) rfl HC.out (fun w' hS=>?hg87) ?rg87
     case hg87=>have h1:=QR.out;go_simp<;>rfl
     simp only[Act.put,Reg.s0,Reg.s1,Reg.s2]
     refine Reg.tk 3 (v:=?vg88) rfl HC.out (fun w' hS=>?hg88) ?rg88
     case hg88=>go_simp<;>rfl
     simp only[Act.put,Reg.s0,Reg.s1,Reg.s2]
     refine Reg.tk 4 (v:=prV c) rfl HC.out (fun w' hS=>?hg89) ?rg89
     case hg89=>exact Wh.exec_load (.tmp 2) rfl rfl hS Tryz.underlying27 rfl pr_info
     simp only[Act.put,Reg.s0,Reg.s1,Reg.s2]
     refine Reg.both_all [5] (by kernel_rfl) (by simp) ?_
     intro j0 hj0
     obtain rfl:j0=5:=by simpa using hj0
     clear hj0
     right
     refine⟨_,_,_,_,_,_,27,#[],rfl,by rfl,(by go_simp<;>first | rfl | exact⟨rfl,rfl⟩),?_⟩
     refine Calls.mono (LC.out _) ?_
     rintro e wlg90 ⟨rfl,hb⟩
     replace HC:=Lib.hid (HC.out.below hb)
     replace HT:=Lib.hid (HT.out.below hb)
     replace HBB:=Lib.hid (HBB.out.trans (hb.mono HBB.out.size))
     clear hb
     refine⟨_,rfl,HC.out,?_⟩
     simp only[Act.put,Reg.s0,Reg.s1,Reg.s2]
     refine Reg.tk 6 (v:=.bool false) rfl HC.out (fun w' hS=>?hg91) ?rg91
     case hg91=>have h1:=Q0.out;go_simp<;>rfl
     simp only[Act.put,Reg.s0,Reg.s1,Reg.s2]
     refine Reg.tk 7 (v:=?vg92) rfl HC.out (fun w' hS=>?hg92) ?rg92
     case hg92=>go_simp<;>rfl
     simp only[Act.put,Reg.s0,Reg.s1,Reg.s2]
     refine Reg.tk 8 (v:=prV c) rfl HC.out (fun w' hS=>?hg93) ?rg93
     case hg93=>exact Wh.exec_load (.tmp 2) rfl rfl hS Tryz.underlying27 rfl pr_info
     simp only[Act.put,Reg.s0,Reg.s1,Reg.s2]
     refine Reg.both_all [9] (by kernel_rfl) (by simp) ?_
     intro j0 hj0
     obtain rfl:j0=9:=by simpa using hj0
     clear hj0
     right
     refine⟨_,_,_,_,_,_,34,#[],rfl,by rfl,(by go_simp<;>first | rfl | exact⟨rfl,rfl⟩),?_⟩
     refine Calls.mono (LS.out _) ?_
     rintro e wlg94 ⟨rfl,hb⟩
     replace HC:=Lib.hid (HC.out.below hb)
     replace HT:=Lib.hid (HT.out.below hb)
     replace HBB:=Lib.hid (HBB.out.trans (hb.mono HBB.out.size))
     clear hb
     refine⟨_,rfl,HC.out,?_⟩
     simp only[Act.put,Reg.s0,Reg.s1,Reg.s2]
     refine Reg.tk 10 (v:=.bool false) rfl HC.out (fun w' hS=>?hg95) ?rg95
     case hg95=>have h1:=Q1.out;go_simp<;>rfl
     simp only[Act.put,Reg.s0,Reg.s1,Reg.s2]
     refine Reg.tk 11 (v:=?vg96) rfl HC.out (fun w' hS=>?hg96) ?rg96
     case hg96=>go_simp<;>rfl
     simp only[Act.put,Reg.s0,Reg.s1,Reg.s2]
     refine Reg.tk 12 (v:=?vg97) rfl HC.out (fun w' hS=>?hg97) ?rg97
     case hg97=>go_simp<;>rfl
     simp only[Act.put,Reg.s0,Reg.s1,Reg.s2]
     refine Reg.tk 13 (v:=prV c) rfl HC.out (fun w' hS=>?hg98) ?rg98
     case hg98=>exact Wh.exec_load (.tmp 2) rfl rfl hS Tryz.underlying27 rfl pr_info
     simp only[Act.put,Reg.s0,Reg.s1,Reg.s2]
     refine Reg.both_all [14] (by kernel_rfl) (by simp) ?_
     intro j0 hj0
     obtain rfl:j0=14:=by simpa using hj0
     clear hj0
     right
     refine⟨_,_,_,_,_,_,28,#[.string ⟨rA.toArray⟩,.string ⟨rA.toArray⟩],rfl,by rfl,(by go_simp<;>first | rfl | exact⟨rfl,rfl⟩),?_⟩
     refine Calls.mono (LAA.out _) ?_
     rintro e wlg99 ⟨rfl,hb⟩
     replace HC:=Lib.hid (HC.out.below hb)
     replace HT:=Lib.hid (HT.out.below hb)
     replace HBB:=Lib.hid (HBB.out.trans (hb.mono HBB.out.size))
     clear hb
     refine⟨_,rfl,HC.out,?_⟩
     simp only[Act.put,Reg.s0,Reg.s1,Reg.s2]
     refine Reg.tk 15 (v:=.bool false) rfl HC.out (fun w' hS=>?hg100) ?rg100
     case hg100=>have h1:=Q2.out;go_simp<;>rfl
     simp only[Act.put,Reg.s0,Reg.s1,Reg.s2]
     refine Reg.tk 16 (v:=?vg101) rfl HC.out (fun w' hS=>?hg101) ?rg101
     case hg101=>go_simp<;>rfl
     simp only[Act.put,Reg.s0,Reg.s1,Reg.s2]
     refine Reg.tk 17 (v:=?vg102) rfl HC.out (fun w' hS=>?hg102) ?rg102
     case hg102=>go_simp<;>rfl
     simp only[Act.put,Reg.s0,Reg.s1,Reg.s2]
     refine Reg.tk 18 (v:=prV c) rfl HC.out (fun w' hS=>?hg103) ?rg103
     case hg103=>exact Wh.exec_load (.tmp 2) rfl rfl hS Tryz.underlying27 rfl pr_info
     simp only[Act.put,Reg.s0,Reg.s1,Reg.s2]
     refine Reg.both_all [19] (by kernel_rfl) (by simp) ?_
     intro j0 hj0
     obtain rfl:j0=19:=by simpa using hj0
     clear hj0
     right
     refine⟨_,_,_,_,_,_,28,#[.string ⟨rA.toArray⟩,.string ⟨rE.toArray⟩],rfl,by rfl,(by go_simp<;>first | rfl | exact⟨rfl,rfl⟩),?_⟩
     refine Calls.mono (LAE.out _) ?_
     rintro e wlg104 ⟨rfl,hb⟩
     replace HC:=Lib.hid (HC.out.below hb)
     replace HT:=Lib.hid (HT.out.below hb)
     replace HBB:=Lib.hid (HBB.out.trans (hb.mono HBB.out.size))
     clear hb
     refine⟨_,rfl,HC.out,?_⟩
     simp only[Act.put,Reg.s0,Reg.s1,Reg.s2]
     refine Reg.tk 20 (v:=.bool true) rfl HC.out (fun w' hS=>?hg105) ?rg105
     case hg105=>have h1:=Q3.out;go_simp<;>rfl
     simp only[Act.put,Reg.s0,Reg.s1,Reg.s2]
     refine Reg.tk 21 (v:=?vg106) rfl HC.out (fun w' hS=>?hg106) ?rg106
     case hg106=>go_simp<;>rfl
     simp only[Act.put,Reg.s0,Reg.s1,Reg.s2]
     refine Reg.tk 22 (v:=?vg107) rfl HC.out (fun w' hS=>?hg107) ?rg107
     case hg107=>go_simp<;>rfl
     simp only[Act.put,Reg.s0,Reg.s1,Reg.s2]
     refine Reg.tk 23 (v:=?vg108) rfl HC.out (fun w' hS=>?hg108) ?rg108
     case hg108=>go_simp<;>rfl
     simp only[Act.put,Reg.s0,Reg.s1,Reg.s2]
     refine wpAnyH_done (by kernel_rfl) ?_ _
     skip
     go_wp2_with fail
     go_meet
     exact⟨rfl,HT.out,HBB.out⟩
   case rest=>
    obtain⟨rfl,ht,hb⟩:=hcut
    replace HT:=Lib.hid ht;replace HBB:=Lib.hid hb
    have HOT:=Lib.hid True.intro
    clear ht hb hh HC HOC QR
    go_upto_region 10 with fail
    by_cases g:t=kr rA rA
    ·have hv:=HVV.out
     rw[if_pos g] at hv
     rw[hv]
     have QT:=Lib.hid (Rg.eql_pr_yes g)
     clear hv HVV HX g
     have hdr:Below wc.heap.size wc wc.drew:=below_drewN (Below.refl _ _) 1
     replace HT:=Lib.hid (HT.out.below hdr)
     replace HBB:=Lib.hid (HBB.out.trans (hdr.mono HBB.out.size))
     clear hdr
     refine Reg.any_begin (fun w'=>Blk w' P3 27 #[.string ⟨t.1.toArray⟩,.string ⟨t.2.toArray⟩]) 3 rfl (by kernel_rfl) HT.out ?_
     refine Reg.tk 0 (v:=prV t) rfl HT.out (fun w' hS=>?hh109) ?rh109
     case hh109=>exact Wh.exec_load (.tmp 3) rfl rfl hS Tryz.underlying27 rfl pr_info
     simp only[Act.put,Reg.s0,Reg.s1,Reg.s2]
     refine Reg.both_all [1] (by kernel_rfl) (by simp) ?_
     intro j0 hj0
     obtain rfl:j0=1:=by simpa using hj0
     clear hj0
     right
     refine⟨_,_,_,_,_,_,28,#[.string ⟨rA.toArray⟩,.string ⟨rA.toArray⟩],rfl,by rfl,(by go_simp<;>first | rfl | exact⟨rfl,rfl⟩),?_⟩
     refine Calls.mono (LAA2.out _) ?_
     rintro e wlh110 ⟨rfl,hb⟩
     replace HT:=Lib.hid (HT.out.below hb)
     replace HBB:=Lib.hid (HBB.out.trans (hb.mono HBB.out.size))
     clear hb
     refine⟨_,rfl,HT.out,?_⟩
     simp only[Act.put,Reg.s0,Reg.s1,Reg.s2]
     refine Reg.tk 2 (v:=.bool false) rfl HT.out (fun w' hS=>?hh111) ?rh111
     case hh111=>have h1:=QT.out;go_simp<;>rfl
     simp only[Act.put,Reg.s0,Reg.s1,Reg.s2]
     refine wpAnyH_done (by kernel_rfl) ?_ _
     skip
     go_wp2_with (first
      |(go_at_call 26;refine Calls.mono (KN.out _) ?_;rintro e wk ⟨rfl,hb⟩;clear KN;replace HBB:=Lib.hid (HBB.out.trans (hb.mono HBB.out.size));clear hb)
      |fail)
     go_ret
     exact⟨rfl,HBB.out⟩
    ·have hv:=HVV.out
     rw[if_neg g] at hv
     rw[hv]
     have QT:=Lib.hid (Rg.eql_pr_no g)
     clear hv HVV HX g
     have hdr:Below wc.heap.size wc wc.drew:=below_drewN (Below.refl _ _) 1
     replace HT:=Lib.hid (HT.out.below hdr)
     replace HBB:=Lib.hid (HBB.out.trans (hdr.mono HBB.out.size))
     clear hdr
     refine Reg.any_begin (fun w'=>Blk w' P3 27 #[.string ⟨t.1.toArray⟩,.string ⟨t.2.toArray⟩]) 3 rfl (by kernel_rfl) HT.out ?_
     refine Reg.tk 0 (v:=prV t) rfl HT.out (fun w' hS=>?hh112) ?rh112
     case hh112=>exact Wh.exec_load (.tmp 3) rfl rfl hS Tryz.underlying27 rfl pr_info
     simp only[Act.put,Reg.s0,Reg.s1,Reg.s2]
     refine Reg.both_all [1] (by kernel_rfl) (by simp) ?_
     intro j0 hj0
     obtain rfl:j0=1:=by simpa using hj0
     clear hj0
     right
     refine⟨_,_,_,_,_,_,28,#[.string ⟨rA.toArray⟩,.string ⟨rA.toArray⟩],rfl,by rfl,(by go_simp<;>first | rfl | exact⟨rfl,rfl⟩),?_⟩
     refine Calls.mono (LAA2.out _) ?_
     rintro e wlh113 ⟨rfl,hb⟩
     replace HT:=Lib.hid (HT.out.below hb)
     replace HBB:=Lib.hid (HBB.out.trans (hb.mono HBB.out.size))
     clear hb
     refine⟨_,rfl,HT.out,?_⟩
     simp only[Act.put,Reg.s0,Reg.s1,Reg.s2]
     refine Reg.tk 2 (v:=.bool true) rfl HT.out (fun w' hS=>?hh114) ?rh114
     case hh114=>have h1:=QT.out;go_simp<;>rfl
     simp only[Act.put,Reg.s0,Reg.s1,Reg.s2]
     refine wpAnyH_done (by kernel_rfl) ?_ _
     skip
     go_wp2_with (first
      |(go_at_call 26;refine Calls.mono (KN.out _) ?_;rintro e wk ⟨rfl,hb⟩;clear KN;replace HBB:=Lib.hid (HBB.out.trans (hb.mono HBB.out.size));clear hb)
      |fail)
     go_ret
     exact⟨rfl,HBB.out⟩
  ·have hv:=un_no HAB.out hh
   rw[←HX.out] at hv
   rw[hv]
   clear hv HX
   go_upto_region 7 with fail
   by_cases hc:c.1=rA
   ·have QR:=Lib.hid (show(c.1==([65,46,69,68,85]:Nm.L))=true by rw[hc];decide)
    have Q0:=Lib.hid (Rg.eql_pr_no (x:=c) (y:=pAnn) (fun e=>hh (.inl e)))
    have Q1:=Lib.hid (Rg.eql_pr_no (x:=c) (y:=pMail) (fun e=>hh (.inr (.inl e))))
    have Q2:=Lib.hid (Rg.eql_pr_no (x:=c) (y:=kr rA rA) (fun e=>hh (.inr (.inr (.inl e)))))
    have Q3:=Lib.hid (Rg.eql_pr_no (x:=c) (y:=kr rA rE) (fun e=>hh (.inr (.inr (.inr (e))))))
    clear hc hh
    have hdr:Below wc.heap.size wc wc.drew:=below_drewN (Below.refl _ _) 1
    replace HC:=Lib.hid (HC.out.below hdr)
    replace HT:=Lib.hid (HT.out.below hdr)
    replace HBB:=Lib.hid (HBB.out.trans (hdr.mono HBB.out.size))
    clear hdr
    refine Reg.any_begin (fun w'=>Blk w' P2 27 #[.string ⟨c.1.toArray⟩,.string ⟨c.2.toArray⟩]) 24 rfl (by kernel_rfl) HC.out ?_
    refine Reg.tk 0 (v:=?vg115) rfl HC.out (fun w' hS=>?hg115) ?rg115
    case hg115=>go_simp<;>rfl
    simp only[Act.put,Reg.s0,Reg.s1,Reg.s2]
    refine Reg.tk 1 (v:=.string ⟨c.1.toArray⟩) rfl HC.out (fun w' hS=>?hg116) ?rg116
    case hg116=>have k0:=Blk.cell hS 0;go_simp<;>rfl
    simp only[Act.put,Reg.s0,Reg.s1,Reg.s2]
    refine Reg.tk 2 (v:=.bool true) rfl HC.out (fun w' hS=>?hg117) ?rg117
    case hg117=>have h1:=QR.out;go_simp<;>rfl
    simp only[Act.put,Reg.s0,Reg.s1,Reg.s2]
    refine Reg.tk 3 (v:=?vg118) rfl HC.out (fun w' hS=>?hg118) ?rg118
    case hg118=>go_simp<;>rfl
    simp only[Act.put,Reg.s0,Reg.s1,Reg.s2]
    refine Reg.tk 4 (v:=prV c) rfl HC.out (fun w' hS=>?hg119) ?rg119
    case hg119=>exact Wh.exec_load (.tmp 2) rfl rfl hS Tryz.underlying27 rfl pr_info
    simp only[Act.put,Reg.s0,Reg.s1,Reg.s2]
    refine Reg.both_all [5] (by kernel_rfl) (by simp) ?_
    intro j0 hj0
    obtain rfl:j0=5:=by simpa using hj0
    clear hj0
    right
    refine⟨_,_,_,_,_,_,27,#[],rfl,by rfl,(by go_simp<;>first | rfl | exact⟨rfl,rfl⟩),?_⟩
    refine Calls.mono (LC.out _) ?_
    rintro e wlg120 ⟨rfl,hb⟩
    replace HC:=Lib.hid (HC.out.below hb)
    replace HT:=Lib.hid (HT.out.below hb)
    replace HBB:=Lib.hid (HBB.out.trans (hb.mono HBB.out.size))
    clear hb
    refine⟨_,rfl,HC.out,?_⟩
    simp only[Act.put,Reg.s0,Reg.s1,Reg.s2]
    refine Reg.tk 6 (v:=.bool false) rfl HC.out (fun w' hS=>?hg121) ?rg121
    case hg121=>have h1:=Q0.out;go_simp<;>rfl
    simp only[Act.put,Reg.s0,Reg.s1,Reg.s2]
    refine Reg.tk 7 (v:=?vg122) rfl HC.out (fun w' hS=>?hg122) ?rg122
    case hg122=>go_simp<;>rfl
    simp only[Act.put,Reg.s0,Reg.s1,Reg.s2]
    refine Reg.tk 8 (v:=prV c) rfl HC.out (fun w' hS=>?hg123) ?rg123
    case hg123=>exact Wh.exec_load (.tmp 2) rfl rfl hS Tryz.underlying27 rfl pr_info
    simp only[Act.put,Reg.s0,Reg.s1,Reg.s2]
    refine Reg.both_all [9] (by kernel_rfl) (by simp) ?_
    intro j0 hj0
    obtain rfl:j0=9:=by simpa using hj0
    clear hj0
    right
    refine⟨_,_,_,_,_,_,34,#[],rfl,by rfl,(by go_simp<;>first | rfl | exact⟨rfl,rfl⟩),?_⟩
    refine Calls.mono (LS.out _) ?_
    rintro e wlg124 ⟨rfl,hb⟩
    replace HC:=Lib.hid (HC.out.below hb)
    replace HT:=Lib.hid (HT.out.below hb)
    replace HBB:=Lib.hid (HBB.out.trans (hb.mono HBB.out.size))
    clear hb
    refine⟨_,rfl,HC.out,?_⟩
    simp only[Act.put,Reg.s0,Reg.s1,Reg.s2]
    refine Reg.tk 10 (v:=.bool false) rfl HC.out (fun w' hS=>?hg125) ?rg125
    case hg125=>have h1:=Q1.out;go_simp<;>rfl
    simp only[Act.put,Reg.s0,Reg.s1,Reg.s2]
    refine Reg.tk 11 (v:=?vg126) rfl HC.out (fun w' hS=>?hg126) ?rg126
    case hg126=>go_simp<;>rfl
    simp only[Act.put,Reg.s0,Reg.s1,Reg.s2]
    refine Reg.tk 12 (v:=?vg127) rfl HC.out (fun w' hS=>?hg127) ?rg127
    case hg127=>go_simp<;>rfl
    simp only[Act.put,Reg.s0,Reg.s1,Reg.s2]
    refine Reg.tk 13 (v:=prV c) rfl HC.out (fun w' hS=>?hg128) ?rg128
    case hg128=>exact Wh.exec_load (.tmp 2) rfl rfl hS Tryz.underlying27 rfl pr_info
    simp only[Act.put,Reg.s0,Reg.s1,Reg.s2]
    refine Reg.both_all [14] (by kernel_rfl) (by simp) ?_
    intro j0 hj0
    obtain rfl:j0=14:=by simpa using hj0
    clear hj0
    right
    refine⟨_,_,_,_,_,_,28,#[.string ⟨rA.toArray⟩,.string ⟨rA.toArray⟩],rfl,by rfl,(by go_simp<;>first | rfl | exact⟨rfl,rfl⟩),?_⟩
    refine Calls.mono (LAA.out _) ?_
    rintro e wlg129 ⟨rfl,hb⟩
    replace HC:=Lib.hid (HC.out.below hb)
    replace HT:=Lib.hid (HT.out.below hb)
    replace HBB:=Lib.hid (HBB.out.trans (hb.mono HBB.out.size))
    clear hb
    refine⟨_,rfl,HC.out,?_⟩
    simp only[Act.put,Reg.s0,Reg.s1,Reg.s2]
    refine Reg.tk 15 (v:=.bool false) rfl HC.out (fun w' hS=>?hg130) ?rg130
    case hg130=>have h1:=Q2.out;go_simp<;>rfl
    simp only[Act.put,Reg.s0,Reg.s1,Reg.s2]
    refine Reg.tk 16 (v:=?vg131) rfl HC.out (fun w' hS=>?hg131) ?rg131
    case hg131=>go_simp<;>rfl
    simp only[Act.put,Reg.s0,Reg.s1,Reg.s2]
    refine Reg.tk 17 (v:=?vg132) rfl HC.out (fun w' hS=>?hg132) ?rg132
    case hg132=>go_simp<;>rfl
    simp only[Act.put,Reg.s0,Reg.s1,Reg.s2]
    refine Reg.tk 18 (v:=prV c) rfl HC.out (fun w' hS=>?hg133) ?rg133
    case hg133=>exact Wh.exec_load (.tmp 2) rfl rfl hS Tryz.underlying27 rfl pr_info
    simp only[Act.put,Reg.s0,Reg.s1,Reg.s2]
    refine Reg.both_all [19] (by kernel_rfl) (by simp) ?_
    intro j0 hj0
    obtain rfl:j0=19:=by simpa using hj0
    clear hj0
    right
    refine⟨_,_,_,_,_,_,28,#[.string ⟨rA.toArray⟩,.string ⟨rE.toArray⟩],rfl,by rfl,(by go_simp<;>first | rfl | exact⟨rfl,rfl⟩),?_⟩
    refine Calls.mono (LAE.out _) ?_
    rintro e wlg134 ⟨rfl,hb⟩
    replace HC:=Lib.hid (HC.out.below hb)
    replace HT:=Lib.hid (HT.out.below hb)
    replace HBB:=Lib.hid (HBB.out.trans (hb.mono HBB.out.size))
    clear hb
    refine⟨_,rfl,HC.out,?_⟩
    simp only[Act.put,Reg.s0,Reg.s1,Reg.s2]
    refine Reg.tk 20 (v:=.bool false) rfl HC.out (fun w' hS=>?hg135) ?rg135
    case hg135=>have h1:=Q3.out;go_simp<;>rfl
    simp only[Act.put,Reg.s0,Reg.s1,Reg.s2]
    refine Reg.tk 21 (v:=?vg136) rfl HC.out (fun w' hS=>?hg136) ?rg136
    case hg136=>go_simp<;>rfl
    simp only[Act.put,Reg.s0,Reg.s1,Reg.s2]
    refine Reg.tk 22 (v:=?vg137) rfl HC.out (fun w' hS=>?hg137) ?rg137
    case hg137=>go_simp<;>rfl
    simp only[Act.put,Reg.s0,Reg.s1,Reg.s2]
    refine Reg.tk 23 (v:=?vg138) rfl HC.out (fun w' hS=>?hg138) ?rg138
    case hg138=>go_simp<;>rfl
    simp only[Act.put,Reg.s0,Reg.s1,Reg.s2]
    refine wpAnyH_done (by kernel_rfl) ?_ _
    skip
    go_wp2_with (first
     |(go_at_call 26;refine Calls.mono (KN.out _) ?_;rintro e wk ⟨rfl,hb⟩;clear KN;replace HBB:=Lib.hid (HBB.out.trans (hb.mono HBB.out.size));clear hb)
     |fail)
    go_ret
    exact⟨rfl,HBB.out⟩
   ·have QR:=Lib.hid (show(c.1==([65,46,69,68,85]:Nm.L))=false from beq_eq_false_iff_ne.2 hc)
    clear hc hh
    have hdr:Below wc.heap.size wc wc.drew:=below_drewN (Below.refl _ _) 1
    replace HC:=Lib.hid (HC.out.below hdr)
    replace HT:=Lib.hid (HT.out.below hdr)
    replace HBB:=Lib.hid (HBB.out.trans (hdr.mono HBB.out.size))
    clear hdr
    refine Reg.any_begin (fun w'=>Blk w' P2 27 #[.string ⟨c.1.toArray⟩,.string ⟨c.2.toArray⟩]) 24 rfl (by kernel_rfl) HC.out ?_
    refine Reg.tk 0 (v:=?vg139) rfl HC.out (fun w' hS=>?hg139) ?rg139
    case hg139=>go_simp<;>rfl
    simp only[Act.put,Reg.s0,Reg.s1,Reg.s2]
    refine Reg.tk 1 (v:=.string ⟨c.1.toArray⟩) rfl HC.out (fun w' hS=>?hg140) ?rg140
    case hg140=>have k0:=Blk.cell hS 0;go_simp<;>rfl
    simp only[Act.put,Reg.s0,Reg.s1,Reg.s2]
    refine Reg.tk 2 (v:=.bool false) rfl HC.out (fun w' hS=>?hg141) ?rg141
    case hg141=>have h1:=QR.out;go_simp<;>rfl
    simp only[Act.put,Reg.s0,Reg.s1,Reg.s2]
    refine Reg.tk 3 (v:=?vg142) rfl HC.out (fun w' hS=>?hg142) ?rg142
    case hg142=>go_simp<;>rfl
    simp only[Act.put,Reg.s0,Reg.s1,Reg.s2]
    refine Reg.any_skip 4 rfl (by kernel_rfl) (by kernel_rfl) (by kernel_rfl) (fun _ _ _ h=>h) HC.out (by rfl) ?_
    simp only[Act.put,Reg.s0,Reg.s1,Reg.s2]
    refine Reg.any_skip 5 rfl (by kernel_rfl) (by kernel_rfl) (by kernel_rfl) (fun _ _ _ h=>h) HC.out (by rfl) ?_
    simp only[Act.put,Reg.s0,Reg.s1,Reg.s2]
    refine Reg.any_skip 6 rfl (by kernel_rfl) (by kernel_rfl) (by kernel_rfl) (fun _ _ _ h=>h) HC.out (by rfl) ?_
    simp only[Act.put,Reg.s0,Reg.s1,Reg.s2]
    refine Reg.any_skip 7 rfl (by kernel_rfl) (by kernel_rfl) (by kernel_rfl) (fun _ _ _ h=>h) HC.out (by rfl) ?_
    simp only[Act.put,Reg.s0,Reg.s1,Reg.s2]
    refine Reg.any_skip 8 rfl (by kernel_rfl) (by kernel_rfl) (by kernel_rfl) (fun _ _ _ h=>h) HC.out (by rfl) ?_
    simp only[Act.put,Reg.s0,Reg.s1,Reg.s2]
    refine Reg.any_skip 9 rfl (by kernel_rfl) (by kernel_rfl) (by kernel_rfl) (fun _ _ _ h=>h) HC.out (by rfl) ?_
    simp only[Act.put,Reg.s0,Reg.s1,Reg.s2]
    refine Reg.any_skip 10 rfl (by kernel_rfl) (by kernel_rfl) (by kernel_rfl) (fun _ _ _ h=>h) HC.out (by rfl) ?_
    simp only[Act.put,Reg.s0,Reg.s1,Reg.s2]
    refine Reg.any_skip 11 rfl (by kernel_rfl) (by kernel_rfl) (by kernel_rfl) (fun _ _ _ h=>h) HC.out (by rfl) ?_
    simp only[Act.put,Reg.s0,Reg.s1,Reg.s2]
    refine Reg.any_skip 12 rfl (by kernel_rfl) (by kernel_rfl) (by kernel_rfl) (fun _ _ _ h=>h) HC.out (by rfl) ?_
    simp only[Act.put,Reg.s0,Reg.s1,Reg.s2]
    refine Reg.any_skip 13 rfl (by kernel_rfl) (by kernel_rfl) (by kernel_rfl) (fun _ _ _ h=>h) HC.out (by rfl) ?_
    simp only[Act.put,Reg.s0,Reg.s1,Reg.s2]
    refine Reg.any_skip 14 rfl (by kernel_rfl) (by kernel_rfl) (by kernel_rfl) (fun _ _ _ h=>h) HC.out (by rfl) ?_
    simp only[Act.put,Reg.s0,Reg.s1,Reg.s2]
    refine Reg.any_skip 15 rfl (by kernel_rfl) (by kernel_rfl) (by kernel_rfl) (fun _ _ _ h=>h) HC.out (by rfl) ?_
    simp only[Act.put,Reg.s0,Reg.s1,Reg.s2]
    refine Reg.any_skip 16 rfl (by kernel_rfl) (by kernel_rfl) (by kernel_rfl) (fun _ _ _ h=>h) HC.out (by rfl) ?_
    simp only[Act.put,Reg.s0,Reg.s1,Reg.s2]
    refine Reg.any_skip 17 rfl (by kernel_rfl) (by kernel_rfl) (by kernel_rfl) (fun _ _ _ h=>h) HC.out (by rfl) ?_
    simp only[Act.put,Reg.s0,Reg.s1,Reg.s2]
    refine Reg.any_skip 18 rfl (by kernel_rfl) (by kernel_rfl) (by kernel_rfl) (fun _ _ _ h=>h) HC.out (by rfl) ?_
    simp only[Act.put,Reg.s0,Reg.s1,Reg.s2]
    refine Reg.any_skip 19 rfl (by kernel_rfl) (by kernel_rfl) (by kernel_rfl) (fun _ _ _ h=>h) HC.out (by rfl) ?_
    simp only[Act.put,Reg.s0,Reg.s1,Reg.s2]
    refine Reg.any_skip 20 rfl (by kernel_rfl) (by kernel_rfl) (by kernel_rfl) (fun _ _ _ h=>h) HC.out (by rfl) ?_
    simp only[Act.put,Reg.s0,Reg.s1,Reg.s2]
    refine Reg.any_skip 21 rfl (by kernel_rfl) (by kernel_rfl) (by kernel_rfl) (fun _ _ _ h=>h) HC.out (by rfl) ?_
    simp only[Act.put,Reg.s0,Reg.s1,Reg.s2]
    refine Reg.tk 22 (v:=?vg143) rfl HC.out (fun w' hS=>?hg143) ?rg143
    case hg143=>go_simp<;>rfl
    simp only[Act.put,Reg.s0,Reg.s1,Reg.s2]
    refine Reg.tk 23 (v:=?vg144) rfl HC.out (fun w' hS=>?hg144) ?rg144
    case hg144=>go_simp<;>rfl
    simp only[Act.put,Reg.s0,Reg.s1,Reg.s2]
    refine wpAnyH_done (by kernel_rfl) ?_ _
    skip
    go_wp2_with (first
     |(go_at_call 26;refine Calls.mono (KN.out _) ?_;rintro e wk ⟨rfl,hb⟩;clear KN;replace HBB:=Lib.hid (HBB.out.trans (hb.mono HBB.out.size));clear hb)
     |fail)
    go_ret
    exact⟨rfl,HBB.out⟩
theorem unk (c t:Nm.L×Nm.L) (w:World) (z1:c.1.length≤140737488351232) (z2:c.2.length≤140737488351232) (z3:t.1.length≤140737488351232) (z4:t.2.length≤140737488351232):Calls Tryz.prog 12 #[prV c,prV t] w fun e w'=>e = .returned (.bool true)∧Below w.heap.size w w':=by
 by_cases h:200<c.1.length+c.2.length+t.1.length+t.2.length
 ·exact unk_x c t w z1 z2 z3 z4 h
 ·cases hb:asB ⟨c,t,0,0⟩ with
  |false=>exact unk_n c t w z1 z2 z3 z4 h hb
  |true=>exact unk_y c t w z1 z2 z3 z4 h hb
end Go.Proofs.YtfcjeebnkigeaaaGreat.Kd
end
