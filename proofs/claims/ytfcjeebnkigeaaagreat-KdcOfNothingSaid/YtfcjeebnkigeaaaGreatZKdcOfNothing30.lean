/-
  The statement of KdcOfNothing: the walk's contract carried to the row: for every input the call answers true, and each argument reads as it did.
-/
import Derived.StillTailTactics
import Derived.Deep.LoopGhost
import Derived.SizedLaws
import Derived.Test.YtfcjeebnkigeaaaGreatRows
import Derived.Lib.SmallJoins
import Derived.Deep.Strs
import Derived.ChangeSame
import Derived.Deep.RegionHeld3
import Derived.BigQuiet
import Derived.Deep.QuietTactic
import Derived.DeepKeys
import Derived.Laws.StructEq
import Derived.Laws.OwnMore
import Derived.Lib.MinMax
import Derived.WalkKit
import Derived.ProofKit
import Derived.OpenShut
import Derived.ShutString
import Derived.ChangeOld
import Derived.Below
import Derived.Test.YtfcjeebnkigeaaaGreatZKdcOfNothing1
import Derived.Test.YtfcjeebnkigeaaaGreatZKdcOfNothing2
import Derived.Test.YtfcjeebnkigeaaaGreatZKdcOfNothing3
import Derived.Test.YtfcjeebnkigeaaaGreatZKdcOfNothing4
import Derived.Test.YtfcjeebnkigeaaaGreatZKdcOfNothing5
import Derived.Test.YtfcjeebnkigeaaaGreatZKdcOfNothing6
import Derived.Test.YtfcjeebnkigeaaaGreatZKdcOfNothing7
import Derived.Test.YtfcjeebnkigeaaaGreatZKdcOfNothing8
import Derived.Test.YtfcjeebnkigeaaaGreatZKdcOfNothing9
import Derived.Test.YtfcjeebnkigeaaaGreatZKdcOfNothing10
import Derived.Test.YtfcjeebnkigeaaaGreatZKdcOfNothing11
import Derived.Test.YtfcjeebnkigeaaaGreatZKdcOfNothing12
import Derived.Test.YtfcjeebnkigeaaaGreatZKdcOfNothing13
import Derived.Test.YtfcjeebnkigeaaaGreatZKdcOfNothing14
import Derived.Test.YtfcjeebnkigeaaaGreatZKdcOfNothing15
import Derived.Test.YtfcjeebnkigeaaaGreatZKdcOfNothing16
import Derived.Test.YtfcjeebnkigeaaaGreatZKdcOfNothing17
import Derived.Test.YtfcjeebnkigeaaaGreatZKdcOfNothing18
import Derived.Test.YtfcjeebnkigeaaaGreatZKdcOfNothing19
import Derived.Test.YtfcjeebnkigeaaaGreatZKdcOfNothing20
import Derived.Test.YtfcjeebnkigeaaaGreatZKdcOfNothing21
import Derived.Test.YtfcjeebnkigeaaaGreatZKdcOfNothing22
import Derived.Test.YtfcjeebnkigeaaaGreatZKdcOfNothing23
import Derived.Test.YtfcjeebnkigeaaaGreatZKdcOfNothing24
import Derived.Test.YtfcjeebnkigeaaaGreatZKdcOfNothing25
import Derived.Test.YtfcjeebnkigeaaaGreatZKdcOfNothing26
import Derived.Test.YtfcjeebnkigeaaaGreatZKdcOfNothing27
import Derived.Test.YtfcjeebnkigeaaaGreatZKdcOfNothing28
import Derived.Test.YtfcjeebnkigeaaaGreatZKdcOfNothing29
section
set_option linter.unusedVariables false
set_option linter.unusedSimpArgs false
namespace Go.Proofs.YtfcjeebnkigeaaaGreat.Kd
open Go.RowKit Go.Proofs.YtfcjeebnkigeaaaGreat.Mem Go.Proofs.YtfcjeebnkigeaaaGreat.Se
open Go.Proofs.YtfcjeebnkigeaaaGreat.Rg (It Ent Ring RO DRing DO Ap its)
open Go.Proofs.YtfcjeebnkigeaaaGreat.Ms (Re As Tg Pt Rp pSm reC ptB prB tmB)
set_option maxRecDepth 100000 in
set_option maxHeartbeats 3200000 in
theorem nth_x (l:Nm.L) (A:Option Addr) (m c:Nat) (w:World) (h:60<l.length∨500<m):Calls Tryz.prog 10 #[.string ⟨l.toArray⟩,.slice A m c] w fun e w'=>e = .returned (.bool true)∧Below w.heap.size w w':=by
 by_cases g:60<l.length
 ·have t1:decide ((60:Int)<(l.length:Int))=true:=decide_eq_true (by omega)
  clear g h
  go_enter Tryz.func10,Tryz.ntmps10
  go_wp2
  go_ret
  exact⟨rfl,Below.refl _ _⟩
 ·have t1:decide ((60:Int)<(l.length:Int))=false:=decide_eq_false (by omega)
  have t2:decide ((500:Int)<(m:Int))=true:=decide_eq_true (by omega)
  clear g h
  go_enter Tryz.func10,Tryz.ntmps10
  go_wp2
  go_ret
  exact⟨rfl,Below.refl _ _⟩
set_option maxRecDepth 100000 in
set_option maxHeartbeats 3200000 in
theorem nth_rE (l:Nm.L) (A:Option Addr) (m c:Nat) (w:World) (hl:l=rE) (h1:¬60<l.length) (h2:¬500<m):Calls Tryz.prog 10 #[.string ⟨l.toArray⟩,.slice A m c] w fun e w'=>e = .returned (.bool true)∧Below w.heap.size w w':=by
 have AN:=Lib.hid (fun(a b:Array Value) (w1:World)=>as_nil a b 1 w1)
 have TN:=Lib.hid (fun(a b:Array Value) (w1:World)=>tgs_nil a b 1 w1)
 have HN:=Lib.hid (fun(v:Value) (b:Array Value) (w1:World)=>han_no v b 1 w1)
 have IN:=Lib.hid (fun(w1:World)=>iss_no w1)
 have KN:=Lib.hid (fun(w1:World)=>known_ok w1)
 have TR1:=Lib.hid (fun(w1:World)=>l_tree w1)
 have TR2:=Lib.hid (fun(w1:World)=>l_tree w1)
 have RN:=Lib.hid (fun(w1:World)=>Rg.ring_new w1.heap.size w1 (Nat.le_refl _))
 have NC:=Lib.hid (fun(w1:World) (v1 v2:Value) (K:Nat→Prop) (hK:∀b,K b→b<w1.heap.size) (ht:TpK K w1 v1 v2 (.slice none 0 0) tT)=>new_c (R:=rE) tT_sm rfl tT_kt tT_is (by decide) (ht.r.slv hK) (ht.k.slp hK) (by decide))
 have NA:=Lib.hid (fun(w1:World) (v1 v2:Value) (K:Nat→Prop) (hK:∀b,K b→b<w1.heap.size) (ht:TpK K w1 v1 v2 (.slice none 0 0) tT) (B r:Nat) (hr:Ring w1 B r (.slice none 0 0) []) (hB:B≤w1.heap.size)=>new_a (R:=l) tT_sm rfl tT_kt tT_is (by rw[hl];decide) (ht.r.slv hK) (ht.k.slp hK) (by rw[hl];decide) hr hB)
 have t1:decide ((60:Int)<(l.length:Int))=false:=decide_eq_false (by omega)
 have t2:decide ((500:Int)<(m:Int))=false:=decide_eq_false (by omega)
 have q0:(l==([69,68,85]:Nm.L))=true:=by rw[hl];decide
 clear h1 h2 hl
 go_enter Tryz.func10,Tryz.ntmps10
 go_upto_region 5 with(first
  |(go_at_call 17;refine Calls.mono (AN.out _ _ _) ?_;rintro e w1 ⟨rfl,hb⟩;clear AN;have HB:=Lib.hid (hb.alloc hb.size (.cells reZ 38));clear hb)
  |fail)
 obtain⟨W5,eW5⟩:∃z,z=w1.alloc (.cells reZ 38):=⟨_,rfl⟩
 rw[←eW5] at HB⊢
 clear eW5
 go_upto_region 6 with(first
  |(go_at_call 21;refine Calls.mono (TN.out _ _ _) ?_;rintro e w2 ⟨rfl,hb⟩;clear TN;replace HB:=Lib.hid (HB.out.trans ((hb.alloc hb.size (.cells reZ 38)).mono HB.out.size));clear hb)
  |fail)
 obtain⟨W6,eW6⟩:∃z,z=w2.alloc (.cells reZ 38):=⟨_,rfl⟩
 rw[←eW6] at HB⊢
 clear eW6
 go_upto_region 7 with(first
  |(go_at_call 38;refine Calls.mono (TR1.out _) ?_;rintro e w3 ⟨v1,v2,rfl,ht,hb⟩;clear TR1;have HT1:=Lib.hid ht;replace HB:=Lib.hid (HB.out.trans (hb.mono HB.out.size));clear hb ht)
  |(go_at_call 37;refine Calls.mono (NC.out _ _ _ _ (fun b x=>x.2) HT1.out) ?_;rintro e w4 ⟨rfl,hb⟩;clear NC HT1;replace HB:=Lib.hid (HB.out.trans (hb.mono HB.out.size));clear hb)
  |fail)
 go_upto_region 8 with(first
  |(go_at_call 38;refine Calls.mono (TR2.out _) ?_;rintro e w5 ⟨v3,v4,rfl,ht,hb⟩;clear TR2;have HT2:=Lib.hid ht;replace HB:=Lib.hid (HB.out.trans (hb.mono HB.out.size));clear hb ht)
  |(go_at_call 39;refine Calls.mono (RN.out _) ?_;rintro e w6 ⟨r,rfl,hr1,hr2,hb⟩;clear RN;have HRG:=Lib.hid hr2;have HRB:=Lib.hid hb.size;have HR2:=Lib.hid hb.size;replace HT2:=Lib.hid (HT2.out.keep (fun b o hb2=>World.cell?_of_block (a:=⟨b,o,none⟩) (hb.block b hb2.2)) (fun _ x=>x));replace HB:=Lib.hid (HB.out.trans (hb.mono HB.out.size));clear hb hr1 hr2)
  |(go_at_call 37;refine Calls.mono (NA.out _ _ _ _ (fun b x=>Nat.lt_of_lt_of_le x.2 HR2.out) HT2.out _ _ HRG.out HRB.out) ?_;rintro e w7 ⟨k,lo,hi,u1,u2,rfl,_,_,_,hb⟩;clear NA HT2 HRG HRB HR2;replace HB:=Lib.hid (HB.out.trans (hb.mono HB.out.size));clear hb)
  |fail)
 go_wp2_with (first
  |(go_at_call 23;refine Calls.mono (HN.out _ _ _) ?_;rintro e w8 ⟨rfl,hb⟩;clear HN;replace HB:=Lib.hid (HB.out.trans (hb.mono HB.out.size));clear hb)
  |(go_at_call 25;refine Calls.mono (IN.out _) ?_;rintro e w9 ⟨rfl,hw⟩;clear IN;subst hw)
  |(go_at_call 26;refine Calls.mono (KN.out _) ?_;rintro e wk ⟨rfl,hb⟩;clear KN;replace HB:=Lib.hid (HB.out.trans (hb.mono HB.out.size));clear hb)
  |fail)
 go_ret
 exact⟨rfl,HB.out⟩
set_option maxRecDepth 100000 in
set_option maxHeartbeats 3200000 in
theorem nth_rA (l:Nm.L) (A:Option Addr) (m c:Nat) (w:World) (hl:l=rA) (h1:¬60<l.length) (h2:¬500<m):Calls Tryz.prog 10 #[.string ⟨l.toArray⟩,.slice A m c] w fun e w'=>e = .returned (.bool true)∧Below w.heap.size w w':=by
 have AN:=Lib.hid (fun(a b:Array Value) (w1:World)=>as_nil a b 1 w1)
 have TN:=Lib.hid (fun(a b:Array Value) (w1:World)=>tgs_nil a b 1 w1)
 have HN:=Lib.hid (fun(v:Value) (b:Array Value) (w1:World)=>han_no v b 1 w1)
 have IN:=Lib.hid (fun(w1:World)=>iss_no w1)
 have KN:=Lib.hid (fun(w1:World)=>known_ok w1)
 have TR1:=Lib.hid (fun(w1:World)=>l_tree w1)
 have TR2:=Lib.hid (fun(w1:World)=>l_tree w1)
 have RN:=Lib.hid (fun(w1:World)=>Rg.ring_new w1.heap.size w1 (Nat.le_refl _))
 have NC:=Lib.hid (fun(w1:World) (v1 v2:Value) (K:Nat→Prop) (hK:∀b,K b→b<w1.heap.size) (ht:TpK K w1 v1 v2 (.slice none 0 0) tT)=>new_c (R:=rE) tT_sm rfl tT_kt tT_is (by decide) (ht.r.slv hK) (ht.k.slp hK) (by decide))
 have NA:=Lib.hid (fun(w1:World) (v1 v2:Value) (K:Nat→Prop) (hK:∀b,K b→b<w1.heap.size) (ht:TpK K w1 v1 v2 (.slice none 0 0) tT) (B r:Nat) (hr:Ring w1 B r (.slice none 0 0) []) (hB:B≤w1.heap.size)=>new_a (R:=l) tT_sm rfl tT_kt tT_is (by rw[hl];decide) (ht.r.slv hK) (ht.k.slp hK) (by rw[hl];decide) hr hB)
 have t1:decide ((60:Int)<(l.length:Int))=false:=decide_eq_false (by omega)
 have t2:decide ((500:Int)<(m:Int))=false:=decide_eq_false (by omega)
 have q0:(l==([69,68,85]:Nm.L))=false:=by rw[hl];decide
 have q1:(l==([65,46,69,68,85]:Nm.L))=true:=by rw[hl];decide
 clear h1 h2 hl
 go_enter Tryz.func10,Tryz.ntmps10
 go_upto_region 5 with(first
  |(go_at_call 17;refine Calls.mono (AN.out _ _ _) ?_;rintro e w1 ⟨rfl,hb⟩;clear AN;have HB:=Lib.hid (hb.alloc hb.size (.cells reZ 38));clear hb)
  |fail)
 obtain⟨W5,eW5⟩:∃z,z=w1.alloc (.cells reZ 38):=⟨_,rfl⟩
 rw[←eW5] at HB⊢
 clear eW5
 go_upto_region 6 with(first
  |(go_at_call 21;refine Calls.mono (TN.out _ _ _) ?_;rintro e w2 ⟨rfl,hb⟩;clear TN;replace HB:=Lib.hid (HB.out.trans ((hb.alloc hb.size (.cells reZ 38)).mono HB.out.size));clear hb)
  |fail)
 obtain⟨W6,eW6⟩:∃z,z=w2.alloc (.cells reZ 38):=⟨_,rfl⟩
 rw[←eW6] at HB⊢
 clear eW6
 go_upto_region 7 with(first
  |(go_at_call 38;refine Calls.mono (TR1.out _) ?_;rintro e w3 ⟨v1,v2,rfl,ht,hb⟩;clear TR1;have HT1:=Lib.hid ht;replace HB:=Lib.hid (HB.out.trans (hb.mono HB.out.size));clear hb ht)
  |(go_at_call 37;refine Calls.mono (NC.out _ _ _ _ (fun b x=>x.2) HT1.out) ?_;rintro e w4 ⟨rfl,hb⟩;clear NC HT1;replace HB:=Lib.hid (HB.out.trans (hb.mono HB.out.size));clear hb)
  |fail)
 go_upto_region 8 with(first
  |(go_at_call 38;refine Calls.mono (TR2.out _) ?_;rintro e w5 ⟨v3,v4,rfl,ht,hb⟩;clear TR2;have HT2:=Lib.hid ht;replace HB:=Lib.hid (HB.out.trans (hb.mono HB.out.size));clear hb ht)
  |(go_at_call 39;refine Calls.mono (RN.out _) ?_;rintro e w6 ⟨r,rfl,hr1,hr2,hb⟩;clear RN;have HRG:=Lib.hid hr2;have HRB:=Lib.hid hb.size;have HR2:=Lib.hid hb.size;replace HT2:=Lib.hid (HT2.out.keep (fun b o hb2=>World.cell?_of_block (a:=⟨b,o,none⟩) (hb.block b hb2.2)) (fun _ x=>x));replace HB:=Lib.hid (HB.out.trans (hb.mono HB.out.size));clear hb hr1 hr2)
  |(go_at_call 37;refine Calls.mono (NA.out _ _ _ _ (fun b x=>Nat.lt_of_lt_of_le x.2 HR2.out) HT2.out _ _ HRG.out HRB.out) ?_;rintro e w7 ⟨k,lo,hi,u1,u2,rfl,_,_,_,hb⟩;clear NA HT2 HRG HRB HR2;replace HB:=Lib.hid (HB.out.trans (hb.mono HB.out.size));clear hb)
  |fail)
 go_wp2_with (first
  |(go_at_call 23;refine Calls.mono (HN.out _ _ _) ?_;rintro e w8 ⟨rfl,hb⟩;clear HN;replace HB:=Lib.hid (HB.out.trans (hb.mono HB.out.size));clear hb)
  |(go_at_call 25;refine Calls.mono (IN.out _) ?_;rintro e w9 ⟨rfl,hw⟩;clear IN;subst hw)
  |(go_at_call 26;refine Calls.mono (KN.out _) ?_;rintro e wk ⟨rfl,hb⟩;clear KN;replace HB:=Lib.hid (HB.out.trans (hb.mono HB.out.size));clear hb)
  |fail)
 go_ret
 exact⟨rfl,HB.out⟩
set_option maxRecDepth 100000 in
set_option maxHeartbeats 3200000 in
theorem nth_rB (l:Nm.L) (A:Option Addr) (m c:Nat) (w:World) (hl:l=rB) (h1:¬60<l.length) (h2:¬500<m):Calls Tryz.prog 10 #[.string ⟨l.toArray⟩,.slice A m c] w fun e w'=>e = .returned (.bool true)∧Below w.heap.size w w':=by
 have AN:=Lib.hid (fun(a b:Array Value) (w1:World)=>as_nil a b 1 w1)
 have TN:=Lib.hid (fun(a b:Array Value) (w1:World)=>tgs_nil a b 1 w1)
 have HN:=Lib.hid (fun(v:Value) (b:Array Value) (w1:World)=>han_no v b 1 w1)
 have IN:=Lib.hid (fun(w1:World)=>iss_no w1)
 have KN:=Lib.hid (fun(w1:World)=>known_ok w1)
 have TR1:=Lib.hid (fun(w1:World)=>l_tree w1)
 have TR2:=Lib.hid (fun(w1:World)=>l_tree w1)
 have RN:=Lib.hid (fun(w1:World)=>Rg.ring_new w1.heap.size w1 (Nat.le_refl _))
 have NC:=Lib.hid (fun(w1:World) (v1 v2:Value) (K:Nat→Prop) (hK:∀b,K b→b<w1.heap.size) (ht:TpK K w1 v1 v2 (.slice none 0 0) tT)=>new_c (R:=rE) tT_sm rfl tT_kt tT_is (by decide) (ht.r.slv hK) (ht.k.slp hK) (by decide))
 have NA:=Lib.hid (fun(w1:World) (v1 v2:Value) (K:Nat→Prop) (hK:∀b,K b→b<w1.heap.size) (ht:TpK K w1 v1 v2 (.slice none 0 0) tT) (B r:Nat) (hr:Ring w1 B r (.slice none 0 0) []) (hB:B≤w1.heap.size)=>new_a (R:=l) tT_sm rfl tT_kt tT_is (by rw[hl];decide) (ht.r.slv hK) (ht.k.slp hK) (by rw[hl];decide) hr hB)
 have t1:decide ((60:Int)<(l.length:Int))=false:=decide_eq_false (by omega)
 have t2:decide ((500:Int)<(m:Int))=false:=decide_eq_false (by omega)
 have q0:(l==([69,68,85]:Nm.L))=false:=by rw[hl];decide
 have q1:(l==([65,46,69,68,85]:Nm.L))=false:=by rw[hl];decide
 have q2:(l==([66,46,69,68,85]:Nm.L))=true:=by rw[hl];decide
 clear h1 h2 hl
 go_enter Tryz.func10,Tryz.ntmps10
 go_upto_region 5 with(first
  |(go_at_call 17;refine Calls.mono (AN.out _ _ _) ?_;rintro e w1 ⟨rfl,hb⟩;clear AN;have HB:=Lib.hid (hb.alloc hb.size (.cells reZ 38));clear hb)
  |fail)
 obtain⟨W5,eW5⟩:∃z,z=w1.alloc (.cells reZ 38):=⟨_,rfl⟩
 rw[←eW5] at HB⊢
 clear eW5
 go_upto_region 6 with(first
  |(go_at_call 21;refine Calls.mono (TN.out _ _ _) ?_;rintro e w2 ⟨rfl,hb⟩;clear TN;replace HB:=Lib.hid (HB.out.trans ((hb.alloc hb.size (.cells reZ 38)).mono HB.out.size));clear hb)
  |fail)
 obtain⟨W6,eW6⟩:∃z,z=w2.alloc (.cells reZ 38):=⟨_,rfl⟩
 rw[←eW6] at HB⊢
 clear eW6
 go_upto_region 7 with(first
  |(go_at_call 38;refine Calls.mono (TR1.out _) ?_;rintro e w3 ⟨v1,v2,rfl,ht,hb⟩;clear TR1;have HT1:=Lib.hid ht;replace HB:=Lib.hid (HB.out.trans (hb.mono HB.out.size));clear hb ht)
  |(go_at_call 37;refine Calls.mono (NC.out _ _ _ _ (fun b x=>x.2) HT1.out) ?_;rintro e w4 ⟨rfl,hb⟩;clear NC HT1;replace HB:=Lib.hid (HB.out.trans (hb.mono HB.out.size));clear hb)
  |fail)
 go_upto_region 8 with(first
  |(go_at_call 38;refine Calls.mono (TR2.out _) ?_;rintro e w5 ⟨v3,v4,rfl,ht,hb⟩;clear TR2;have HT2:=Lib.hid ht;replace HB:=Lib.hid (HB.out.trans (hb.mono HB.out.size));clear hb ht)
  |(go_at_call 39;refine Calls.mono (RN.out _) ?_;rintro e w6 ⟨r,rfl,hr1,hr2,hb⟩;clear RN;have HRG:=Lib.hid hr2;have HRB:=Lib.hid hb.size;have HR2:=Lib.hid hb.size;replace HT2:=Lib.hid (HT2.out.keep (fun b o hb2=>World.cell?_of_block (a:=⟨b,o,none⟩) (hb.block b hb2.2)) (fun _ x=>x));replace HB:=Lib.hid (HB.out.trans (hb.mono HB.out.size));clear hb hr1 hr2)
  |(go_at_call 37;refine Calls.mono (NA.out _ _ _ _ (fun b x=>Nat.lt_of_lt_of_le x.2 HR2.out) HT2.out _ _ HRG.out HRB.out) ?_;rintro e w7 ⟨k,lo,hi,u1,u2,rfl,_,_,_,hb⟩;clear NA HT2 HRG HRB HR2;replace HB:=Lib.hid (HB.out.trans (hb.mono HB.out.size));clear hb)
  |fail)
 go_wp2_with (first
  |(go_at_call 23;refine Calls.mono (HN.out _ _ _) ?_;rintro e w8 ⟨rfl,hb⟩;clear HN;replace HB:=Lib.hid (HB.out.trans (hb.mono HB.out.size));clear hb)
  |(go_at_call 25;refine Calls.mono (IN.out _) ?_;rintro e w9 ⟨rfl,hw⟩;clear IN;subst hw)
  |(go_at_call 26;refine Calls.mono (KN.out _) ?_;rintro e wk ⟨rfl,hb⟩;clear KN;replace HB:=Lib.hid (HB.out.trans (hb.mono HB.out.size));clear hb)
  |fail)
 go_ret
 exact⟨rfl,HB.out⟩
set_option maxRecDepth 100000 in
set_option maxHeartbeats 3200000 in
theorem nth_no (l:Nm.L) (A:Option Addr) (m c:Nat) (w:World) (hn:l∉tT.R) (h1:¬60<l.length) (h2:¬500<m):Calls Tryz.prog 10 #[.string ⟨l.toArray⟩,.slice A m c] w fun e w'=>e = .returned (.bool true)∧Below w.heap.size w w':=by
 have AN:=Lib.hid (fun(a b:Array Value) (w1:World)=>as_nil a b 1 w1)
 have TN:=Lib.hid (fun(a b:Array Value) (w1:World)=>tgs_nil a b 1 w1)
 have HN:=Lib.hid (fun(v:Value) (b:Array Value) (w1:World)=>han_no v b 1 w1)
 have IN:=Lib.hid (fun(w1:World)=>iss_no w1)
 have KN:=Lib.hid (fun(w1:World)=>known_ok w1)
 have TR1:=Lib.hid (fun(w1:World)=>l_tree w1)
 have TR2:=Lib.hid (fun(w1:World)=>l_tree w1)
 have RN:=Lib.hid (fun(w1:World)=>Rg.ring_new w1.heap.size w1 (Nat.le_refl _))
 have NC:=Lib.hid (fun(w1:World) (v1 v2:Value) (K:Nat→Prop) (hK:∀b,K b→b<w1.heap.size) (ht:TpK K w1 v1 v2 (.slice none 0 0) tT)=>new_c (R:=rE) tT_sm rfl tT_kt tT_is (by decide) (ht.r.slv hK) (ht.k.slp hK) (by decide))
 have NA:=Lib.hid (fun(w1:World) (v1 v2:Value) (K:Nat→Prop) (hK:∀b,K b→b<w1.heap.size) (ht:TpK K w1 v1 v2 (.slice none 0 0) tT) (q:Option Addr)=>new_b (R:=l) tT_sm rfl tT_kt tT_is (by omega) (ht.r.slv hK) (ht.k.slp hK) hn q)
 have t1:decide ((60:Int)<(l.length:Int))=false:=decide_eq_false (by omega)
 have t2:decide ((500:Int)<(m:Int))=false:=decide_eq_false (by omega)
 have q0:(l==([69,68,85]:Nm.L))=false:=beq_eq_false_iff_ne.2 (fun e=>hn (by rw[e];decide))
 have q1:(l==([65,46,69,68,85]:Nm.L))=false:=beq_eq_false_iff_ne.2 (fun e=>hn (by rw[e];decide))
 have q2:(l==([66,46,69,68,85]:Nm.L))=false:=beq_eq_false_iff_ne.2 (fun e=>hn (by rw[e];decide))
 clear h1 h2 hn
 go_enter Tryz.func10,Tryz.ntmps10
 go_upto_region 5 with(first
  |(go_at_call 17;refine Calls.mono (AN.out _ _ _) ?_;rintro e w1 ⟨rfl,hb⟩;clear AN;have HB:=Lib.hid (hb.alloc hb.size (.cells reZ 38));clear hb)
  |fail)
 obtain⟨W5,eW5⟩:∃z,z=w1.alloc (.cells reZ 38):=⟨_,rfl⟩
 rw[←eW5] at HB⊢
 clear eW5
 go_upto_region 6 with(first
  |(go_at_call 21;refine Calls.mono (TN.out _ _ _) ?_;rintro e w2 ⟨rfl,hb⟩;clear TN;replace HB:=Lib.hid (HB.out.trans ((hb.alloc hb.size (.cells reZ 38)).mono HB.out.size));clear hb)
  |fail)
 obtain⟨W6,eW6⟩:∃z,z=w2.alloc (.cells reZ 38):=⟨_,rfl⟩
 rw[←eW6] at HB⊢
 clear eW6
 go_upto_region 7 with(first
  |(go_at_call 38;refine Calls.mono (TR1.out _) ?_;rintro e w3 ⟨v1,v2,rfl,ht,hb⟩;clear TR1;have HT1:=Lib.hid ht;replace HB:=Lib.hid (HB.out.trans (hb.mono HB.out.size));clear hb ht)
  |(go_at_call 37;refine Calls.mono (NC.out _ _ _ _ (fun b x=>x.2) HT1.out) ?_;rintro e w4 ⟨rfl,hb⟩;clear NC HT1;replace HB:=Lib.hid (HB.out.trans (hb.mono HB.out.size));clear hb)
  |fail)
 go_upto_region 8 with(first
  |(go_at_call 38;refine Calls.mono (TR2.out _) ?_;rintro e w5 ⟨v3,v4,rfl,ht,hb⟩;clear TR2;have HT2:=Lib.hid ht;replace HB:=Lib.hid (HB.out.trans (hb.mono HB.out.size));clear hb ht)
  |(go_at_call 39;refine Calls.mono (RN.out _) ?_;rintro e w6 ⟨r,rfl,hr1,hr2,hb⟩;clear RN;have HRG:=Lib.hid hr2;have HRB:=Lib.hid hb.size;have HR2:=Lib.hid hb.size;replace HT2:=Lib.hid (HT2.out.keep (fun b o hb2=>World.cell?_of_block (a:=⟨b,o,none⟩) (hb.block b hb2.2)) (fun _ x=>x));replace HB:=Lib.hid (HB.out.trans (hb.mono HB.out.size));clear hb hr1 hr2)
  |(go_at_call 37;refine Calls.mono (NA.out _ _ _ _ (fun b x=>Nat.lt_of_lt_of_le x.2 HR2.out) HT2.out _) ?_;rintro e w7 ⟨rfl,hb⟩;clear NA HT2 HRG HRB HR2;replace HB:=Lib.hid (HB.out.trans (hb.mono HB.out.size));clear hb)
  |fail)
 go_wp2_with (first
  |(go_at_call 23;refine Calls.mono (HN.out _ _ _) ?_;rintro e w8 ⟨rfl,hb⟩;clear HN;replace HB:=Lib.hid (HB.out.trans (hb.mono HB.out.size));clear hb)
  |(go_at_call 25;refine Calls.mono (IN.out _) ?_;rintro e w9 ⟨rfl,hw⟩;clear IN;subst hw)
  |(go_at_call 26;refine Calls.mono (KN.out _) ?_;rintro e wk ⟨rfl,hb⟩;clear KN;replace HB:=Lib.hid (HB.out.trans (hb.mono HB.out.size));clear hb)
  |fail)
 go_ret
 exact⟨rfl,HB.out⟩
theorem nth (l:Nm.L) (A:Option Addr) (m c:Nat) (w:World)  : Calls Tryz.prog 10 #[.string ⟨l.toArray⟩,.slice A m c] w fun e w'=>e = .returned (.bool true)∧Below w.heap.size w w':=by
 by_cases h:60<l.length∨500<m
 ·exact nth_x l A m c w h
 ·by_cases e1:l=rE
  ·exact nth_rE l A m c w e1 (by omega) (by omega)
  ·by_cases e2:l=rA
   ·exact nth_rA l A m c w e2 (by omega) (by omega)
   ·by_cases e3:l=rB
    ·exact nth_rB l A m c w e3 (by omega) (by omega)
    ·exact nth_no l A m c w (by simp [tT,e1,e2,e3]) (by omega) (by omega)
theorem nthW (s:ByteArray) (A:Option Addr) (l:List UInt8) (c:Nat) (w:World) {P1 P2 P3 P4:Prop} (_:P1) (_:P2) (_:P3) (_:P4):Calls Tryz.prog 10 #[.string s,.slice A l.length c] w fun e w'=>e = .returned (.bool true)∧Below w.heap.size w w':=by
 rw[bytes_eta s]
 exact nth _ A l.length c w
end Go.Proofs.YtfcjeebnkigeaaaGreat.Kd
end

section
namespace Go.Proofs.YtfcjeebnkigeaaaGreat.kdcOfNothing
open Go.ChangeShapes Go.WideShapes Go.ChangeAt Go.RowKit
open Go.ChangeMaps (open_string shut_string)
theorem own:ownKnob Tryz.prog.godebug=none:=by kernel_rfl
theorem laidOut:laidOutB Tryz.prog=true:=by kernel_rfl
set_option maxRecDepth 100000 in
theorem lifted (os:Os) (started:os.Started) (H:Type) (enc:TypeId×Value→H) :
  ReturnsInHanded {} Tryz.checked os 10 .any (Rows.kdcOfNothingSpec.pre6 enc Tryz.prog Tryz.f10 Rows.kdcOfNothingRow.domain false) (Rows.kdcOfNothingSpec.post enc Tryz.prog Tryz.f10 false true false false):=by
 refine returnsInHanded_of_change_sized (C:=Tryz.checked) own started (by kernel_rfl) Tryz.func10
  (ChangeSpec.witness6 (enc:=enc) (C:=Tryz.checked) false ⟨#[],#[.string ⟨#[]⟩,.slice none 0 0],[]⟩ 8 (by kernel_rfl) (by kernel_rfl) (by kernel_rfl) (by kernel_rfl)) ?_
 intro W base args ds gs before hval0 hW hcnd hsz _
 have hval:∀(j:Nat) t v,Tryz.f10.params[j]? = some t→args[j]? = some v→Value.okWide Tryz.prog W .any base t v:=hval0
 have hW':=hW
 obtain⟨p,q,hA0,hV,rfl,hfz,hnd⟩:=hW
 have hA:DataW.TrodAll enc Tryz.prog W 0 (fun _=>true) true Tryz.f10.params.toList args.toList ds p:=hA0
 rw[Tryz.params10] at hA hval
 obtain⟨v0,vs0,d0,ds0,p0,q0,hargs,rfl,rfl,h0,r0⟩:=trodAll_cons hA
 obtain⟨v1,vs1,d1,ds1,p1,q1,rfl,rfl,rfl,h1,r1⟩:=trodAll_cons r0
 obtain⟨rfl,rfl,rfl⟩:=trodAll_nil r1
 obtain rfl:args=#[v0,v1]:=by cases args;simp_all
 obtain⟨rfl,rfl⟩:=trodVars_none hV
 obtain⟨a0,rfl,rfl,rfl,w0⟩:=open_string Tryz.underlying9 (hval 0 9 v0 rfl rfl) h0
 have k1:=h1
 have lt1:∀x∈p1,x.block<W.heap.size:=by obtain⟨m,hm⟩:=k1;exact DataW.trod_lt m _ _ _ hm
 obtain⟨A1,l1,c1,rfl,w1,x1,y1⟩:=Open.open_bytes Tryz.underlying30 Tryz.underlying5 (by kernel_rfl) (okWide_slice Tryz.underlying30 (hval 1 30 v1 rfl rfl)) h1
 have z0:a0.data.toList.length≤reachBytes:=by have:=List.all_eq_true.1 hsz a0.data.toList.length (DataW.weights_mem_each (j:=0) (t:=9) (d:=.lit (.string a0.data.toList)) (by rw[Tryz.params10];rfl) rfl _ (by simp [DataW.weights]));simpa using this
 clear hA0 hval0
 refine(Kd.nthW a0 A1 l1 c1 W z0 w1 x1 y1).mono fun e W' ⟨he,bel⟩=>?_
 subst he
 exact⟨_,rfl,_,_,_,[],_,[],hW',trodAll_mk1 (shut_bool Tryz.underlying4 _),(trodAll_cons_mk (shut_string Tryz.underlying9 w0) (trodAll_cons_mk (Below.trod laidOut (by kernel_rfl) (of_decide_eq_true (by kernel_rfl)) k1 bel lt1) trodAll_mk0)),rfl,bel.frame _,fun h=>by cases h⟩
set_option maxRecDepth 100000 in
set_option maxHeartbeats 6400000 in
theorem joined:joinedFacts Tryz.pinned.checked.prog 10 Tryz.f10 Rows.kdcOfNothingSpec Rows.kdcOfNothingRow=true:=by
 simp only[joinedFacts,Bool.and_eq_true]
 repeat' apply And.intro
 all_goals as_aux_lemma=>kernel_rfl
theorem over:Rows.kdcOfNothingRow.holds Tryz.pinned (OpenSpec.ofChange Rows.kdcOfNothingSpec):=
 OpenClaim.holds_of_wide 10 Tryz.f10 rfl rfl rfl rfl rfl rfl rfl ⟨rfl,rfl,rfl,rfl,rfl⟩ rfl rfl rfl rfl rfl (by kernel_rfl) Tryz.func10 joined
  (of_decide_eq_true (by kernel_rfl)) (by unfold Func.isWrapper;first | (rw[if_pos (by decide +kernel)];kernel_rfl) | (rw[if_neg (by decide +kernel)];exact⟨rfl,rfl⟩))
  (fun os started H enc _=>lifted os started H enc)
theorem proved:Rows.KdcOfNothingSaid:=over
end Go.Proofs.YtfcjeebnkigeaaaGreat.kdcOfNothing
end
