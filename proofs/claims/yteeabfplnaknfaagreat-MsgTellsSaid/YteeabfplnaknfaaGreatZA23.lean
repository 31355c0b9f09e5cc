import Derived.Deep.LoopGhost
import Derived.Deep.MidRow
import Derived.Deep.RegionHeld3
import Derived.Laws.IdiomCopy
import Derived.Test.YteeabfplnaknfaaGreatZA1
import Derived.Test.YteeabfplnaknfaaGreatZA2
import Derived.Test.YteeabfplnaknfaaGreatZA3
import Derived.Test.YteeabfplnaknfaaGreatZA4
import Derived.Test.YteeabfplnaknfaaGreatZA5
import Derived.Test.YteeabfplnaknfaaGreatZA6
import Derived.Test.YteeabfplnaknfaaGreatZA7
import Derived.Test.YteeabfplnaknfaaGreatZA8
import Derived.Test.YteeabfplnaknfaaGreatZA9
import Derived.Test.YteeabfplnaknfaaGreatZA10
import Derived.Test.YteeabfplnaknfaaGreatZA11
import Derived.Test.YteeabfplnaknfaaGreatZA12
import Derived.Test.YteeabfplnaknfaaGreatZA13
import Derived.Test.YteeabfplnaknfaaGreatZA14
import Derived.Test.YteeabfplnaknfaaGreatZA15
import Derived.Test.YteeabfplnaknfaaGreatZA16
import Derived.Test.YteeabfplnaknfaaGreatZA17
import Derived.Test.YteeabfplnaknfaaGreatZA18
section
set_option linter.unusedVariables false
set_option linter.unusedSimpArgs false
namespace Go.Proofs.YteeabfplnaknfaaGreat.Mc
open Go.RowKit Go.Proofs.YteeabfplnaknfaaGreat.Mem Go.Proofs.YteeabfplnaknfaaGreat.DerP Go.Proofs.YteeabfplnaknfaaGreat.DerR Go.Proofs.YteeabfplnaknfaaGreat.Ms

set_option maxHeartbeats 25600000 in
set_option maxRecDepth 10000 in
theorem rdec8_f (t : UInt8) (r : L) (A : Option Addr) (c : Nat) (w : World) (hr : Rd w w.heap.size A (bvs (t :: r))) (hc : (t :: r).length ≤ c) (hl : (t :: r).length ≤ 5000) (m5 : t = 126) (m1 : ¬ t = 106) (m2 : ¬ t = 108) (m3 : ¬ t = 107) (m4 : ¬ t = 110) :
    Calls Tryz.prog 12 #[.slice A (t :: r).length c] w fun e w' => ∃ ds, e = .returned (.tuple #[.agg ds, .int .i64 (mgI (t :: r))]) ∧ MgV w' w.heap.size ds (mgG (t :: r)) ∧ Below w.heap.size w w' := by
  obtain ⟨zz, ezz⟩ : ∃ z : Array Value, z = #[.int .i64 0, .string ⟨#[]⟩, .string ⟨#[]⟩, .string ⟨#[]⟩, .string ⟨#[]⟩, .int .i64 0, .int .i64 0, .string ⟨#[]⟩, .string ⟨#[]⟩, .int .i64 0, .slice none 0 0, .slice none 0 0, .string ⟨#[]⟩, .string ⟨#[]⟩, .int .i64 0, .int .i64 0, .string ⟨#[]⟩, .string ⟨#[]⟩, .string ⟨#[]⟩, .string ⟨#[]⟩, .int .i64 0, .slice none 0 0, .slice none 0 0, .string ⟨#[]⟩, .string ⟨#[]⟩, .int .i64 0, .slice none 0 0, .slice none 0 0, .int .i64 0, .int .i64 0] := ⟨_, rfl⟩
  have ez0 : zz = mgA 0 zA zT zR zP zF := by rw [ezz]; rfl
  have hz : ∀ (w1 : World) (B : Nat), MgV w1 B zz mg0 := fun w1 B => by rw [ez0]; exact ⟨_, _, _, _, _, rfl, zM_v w1 B 0⟩
  have hzs : zz.size = 30 := by rw [ez0]; exact (zM_v w 0 0).size 0
  have HZS := Lib.hid hzs
  have HZM := Lib.hid hz
  have HZO := Lib.hid (show zz.all (·.oneCell') = true by rw [ez0]; exact (zM_v w 0 0).one 0)
  have HZI := Lib.hid (show (Tryz.prog.info? 39).map (·.size) = some zz.size by rw [hzs]; exact mg_info)
  have HZB := Lib.hid (show Tryz.prog.built 39 [] = some zz by rw [ez0]; exact built_none)
  have EZ := Lib.hid ezz
  obtain ⟨W, eW⟩ : ∃ W, W = w.alloc (.cells zz 39) := ⟨_, rfl⟩
  have HWS := Lib.hid (show W.heap.size = w.heap.size + 1 by rw [eW]; simp)
  have HR := Lib.hid (show Blk W w.heap.size 39 zz by rw [eW]; exact Blk.new _ _ _)
  have HG := Lib.hid (show Below w.heap.size w W by rw [eW]; exact (Below.refl _ _).alloc (Nat.le_refl _) _)
  have HRD := Lib.hid (fun w1 (h : Below w.heap.size w w1) => hr.below h)
  have ED := Lib.hid (show mgD (t :: r) = if mgO (mgP (t :: r)) = some (t :: r) then some (mgP (t :: r)) else none from rfl)
  clear ez0 hzs hz
  obtain ⟨bb, oo, rfl, hbb, hcell⟩ : ∃ bb oo, A = some ⟨bb, oo, none⟩ ∧ bb < w.heap.size ∧ w.cell? ⟨bb, oo, none⟩ = some (.int .u8 (t.toNat : Int)) := by
    obtain ⟨bb, oo, rfl, h1, h2⟩ := hr.at_ (i := 0) (u := bv t) rfl
    exact ⟨bb, oo, rfl, h1, h2⟩
  have HRC := Lib.hid (fun w1 (h1 : Below w.heap.size w w1) => show w1.cell? ⟨bb, oo, none⟩ = some (.int .u8 (t.toNat : Int)) from (h1.cell (p := ⟨bb, oo, none⟩) hbb).trans hcell)
  have hu := u8_le t
  have HLC := Lib.hid (show (t :: r).length ≤ c from hc)
  have hl0 : ((some (t :: r) : Option L).getD []).length ≤ 100000 := by show (t :: r).length ≤ 100000; omega
  have c1 := Lib.hid (fun g w1 h h1 h2 => rinto_any t w.heap.size g (some (t :: r)) w1 h h1 h2 hl0)
  have hs0 := bd_len t hl0
  have d1 : ((t.toNat : Int) == 106) = false := by simp; intro e; exact m1 (UInt8.toNat_inj.1 (by rw [show (106 : UInt8).toNat = 106 from rfl]; omega))
  have d2 : ((t.toNat : Int) == 108) = false := by simp; intro e; exact m2 (UInt8.toNat_inj.1 (by rw [show (108 : UInt8).toNat = 108 from rfl]; omega))
  have d3 : ((t.toNat : Int) == 107) = false := by simp; intro e; exact m3 (UInt8.toNat_inj.1 (by rw [show (107 : UInt8).toNat = 107 from rfl]; omega))
  have d4 : ((t.toNat : Int) == 110) = false := by simp; intro e; exact m4 (UInt8.toNat_inj.1 (by rw [show (110 : UInt8).toNat = 110 from rfl]; omega))
  have d5 : ((t.toNat : Int) == 126) = true := by rw [m5]; rfl
  have EQ : mgP (t :: r) = ⟨5, as0, tg0, re0, ap0, (faP (bodyC t (some (t :: r)))).1⟩ := by subst m5; rfl
  obtain ⟨s0, es0⟩ : ∃ s, s = bodyC t (some (t :: r)) := ⟨_, rfl⟩
  rw [← es0] at c1 hs0 EQ
  have hs1 : (((intC s0).2).getD []).length ≤ 100000 := it_len hs0
  have T1 := Lib.hid (fun g w1 h h1 h2 => rint_any w.heap.size g s0 w1 h h1 h2 hs0)
  unfold Ints at T1
  obtain ⟨v1, ev1⟩ : ∃ x : Int, x = ((intC s0).1 : Int) := ⟨_, rfl⟩
  obtain ⟨s1, es1⟩ : ∃ s, s = (intC s0).2 := ⟨_, rfl⟩
  rw [← ev1, ← es1] at T1
  rw [← es1] at hs1
  have hs2 : (((intC s1).2).getD []).length ≤ 100000 := it_len hs1
  have T2 := Lib.hid (fun g w1 h h1 h2 => rint_any w.heap.size g s1 w1 h h1 h2 hs1)
  unfold Ints at T2
  obtain ⟨v2, ev2⟩ : ∃ x : Int, x = ((intC s1).1 : Int) := ⟨_, rfl⟩
  obtain ⟨s2, es2⟩ : ∃ s, s = (intC s1).2 := ⟨_, rfl⟩
  rw [← ev2, ← es2] at T2
  rw [← es2] at hs2
  have FQ : (faP s0).1 = ⟨v1, v2⟩ := by rw [ev1, ev2, es1]; rfl
  have FV : mgP (t :: r) = ⟨5, as0, tg0, re0, ap0, ⟨v1, v2⟩⟩ := by rw [EQ, FQ]
  have hsm : mSm (⟨5, as0, tg0, re0, ap0, ⟨v1, v2⟩⟩ : Mg) := ⟨⟨pr0_sm, pr0_sm⟩, ⟨pr0_sm, pr0_sm⟩, ⟨pr0_sm, pr0_sm⟩, pr0_sm⟩
  have EN := Lib.hid (fun w1 cs h => renc8_v cs (⟨5, as0, tg0, re0, ap0, ⟨v1, v2⟩⟩ : Mg) w1 h hsm)
  rw [FV] at ED
  clear EQ FQ FV hsm hr hc hl hcell hu hl0 es0 m1 m2 m3 m4 m5 hs0 hs1 hs2 ev1 es1 ev2 es2 
  cases ho : mgO (⟨5, as0, tg0, re0, ap0, ⟨v1, v2⟩⟩ : Mg) with
  | none =>
    rw [ho] at EN
    have hD : mgD (t :: r) = none := by rw [ED.out, ho]; rfl
    have GE := Lib.hid (show mgG (t :: r) = mg0 by rw [mgG, hD]; rfl)
    have IE := Lib.hid (show mgI (t :: r) = 2 by rw [mgI, hD]; rfl)
    clear ED hD ho
    go_enter Tryz.func12, Tryz.ntmps12
    go_upto_region 1 with fail
    rw [← ezz, ← eW]
    clear ezz eW
    go_wp2_with (first
      | (refine wpList_built (by rfl) 39 #[] (by rfl) zz (by simp; exact HZB.out) ?_)
      | (refine wpList_store_mid (by rfl) 39 (.tmp 4) (.tmp 9) (by rfl) W.heap.size 0 zz (by rfl) (by rfl) (there_blk (Blk.new W 39 #[.int .i64 0, .string ⟨#[]⟩, .string ⟨#[]⟩, .string ⟨#[]⟩, .string ⟨#[]⟩, .int .i64 0, .int .i64 0, .string ⟨#[]⟩, .string ⟨#[]⟩, .int .i64 0, .slice none 0 0, .slice none 0 0, .string ⟨#[]⟩, .string ⟨#[]⟩, .int .i64 0, .int .i64 0, .string ⟨#[]⟩, .string ⟨#[]⟩, .string ⟨#[]⟩, .string ⟨#[]⟩, .int .i64 0, .slice none 0 0, .slice none 0 0, .string ⟨#[]⟩, .string ⟨#[]⟩, .int .i64 0, .slice none 0 0, .slice none 0 0, .int .i64 0, .int .i64 0]) _ (by have := HZS.out; simp; omega)) HZI.out HZO.out ?_; have hV := stored_new W 39 #[.int .i64 0, .string ⟨#[]⟩, .string ⟨#[]⟩, .string ⟨#[]⟩, .string ⟨#[]⟩, .int .i64 0, .int .i64 0, .string ⟨#[]⟩, .string ⟨#[]⟩, .int .i64 0, .slice none 0 0, .slice none 0 0, .string ⟨#[]⟩, .string ⟨#[]⟩, .int .i64 0, .int .i64 0, .string ⟨#[]⟩, .string ⟨#[]⟩, .string ⟨#[]⟩, .string ⟨#[]⟩, .int .i64 0, .slice none 0 0, .slice none 0 0, .string ⟨#[]⟩, .string ⟨#[]⟩, .int .i64 0, .slice none 0 0, .slice none 0 0, .int .i64 0, .int .i64 0] zz (by have := HZS.out; simp; omega); generalize ((W.alloc (.cells #[.int .i64 0, .string ⟨#[]⟩, .string ⟨#[]⟩, .string ⟨#[]⟩, .string ⟨#[]⟩, .int .i64 0, .int .i64 0, .string ⟨#[]⟩, .string ⟨#[]⟩, .int .i64 0, .slice none 0 0, .slice none 0 0, .string ⟨#[]⟩, .string ⟨#[]⟩, .int .i64 0, .int .i64 0, .string ⟨#[]⟩, .string ⟨#[]⟩, .string ⟨#[]⟩, .string ⟨#[]⟩, .int .i64 0, .slice none 0 0, .slice none 0 0, .string ⟨#[]⟩, .string ⟨#[]⟩, .int .i64 0, .slice none 0 0, .slice none 0 0, .int .i64 0, .int .i64 0] 39)).setCells W.heap.size 0 zz.toList) = V at hV ⊢; have HPB := Lib.hid (show Blk V W.heap.size 39 #[.int .i64 0, .string ⟨#[]⟩, .string ⟨#[]⟩, .string ⟨#[]⟩, .string ⟨#[]⟩, .int .i64 0, .int .i64 0, .string ⟨#[]⟩, .string ⟨#[]⟩, .int .i64 0, .slice none 0 0, .slice none 0 0, .string ⟨#[]⟩, .string ⟨#[]⟩, .int .i64 0, .int .i64 0, .string ⟨#[]⟩, .string ⟨#[]⟩, .string ⟨#[]⟩, .string ⟨#[]⟩, .int .i64 0, .slice none 0 0, .slice none 0 0, .string ⟨#[]⟩, .string ⟨#[]⟩, .int .i64 0, .slice none 0 0, .slice none 0 0, .int .i64 0, .int .i64 0] from EZ.out ▸ hV.1); have HPZ := Lib.hid hV.1; have HVS := Lib.hid (show W.heap.size < V.heap.size from hV.1.lt); replace HR := Lib.hid (HR.out.below hV.2); replace HG := Lib.hid (HG.out.trans (hV.2.mono HG.out.size)); clear hV; have q1 := HRC.out _ (HG.out.alloc HG.out.size (.cells #[.slice (some ⟨bb, oo, none⟩) (r.length + 1) c, .bool false] 100)); have HG0 := Lib.hid HG.out.size)
      | (go_at_call 45; have hcb := Blk.new V 100 #[.slice (some ⟨bb, oo, none⟩) (r.length + 1) c, .bool false]; have HC := Lib.hid (show RC (V.alloc (.cells #[.slice (some ⟨bb, oo, none⟩) (r.length + 1) c, .bool false] 100)) w.heap.size V.heap.size (some (t :: r)) from ⟨_, _, c, false, hcb, rfl, rfl, HLC.out, HRD.out _ (HG.out.alloc HG.out.size _)⟩); replace HG := Lib.hid (HG.out.alloc HG.out.size (.cells #[.slice (some ⟨bb, oo, none⟩) (r.length + 1) c, .bool false] 100)); replace HR := Lib.hid (HR.out.alloc (.cells #[.slice (some ⟨bb, oo, none⟩) (r.length + 1) c, .bool false] 100)); replace HPB := Lib.hid (HPB.out.alloc (.cells #[.slice (some ⟨bb, oo, none⟩) (r.length + 1) c, .bool false] 100)); replace HPZ := Lib.hid (HPZ.out.alloc (.cells #[.slice (some ⟨bb, oo, none⟩) (r.length + 1) c, .bool false] 100)); clear hcb; refine Calls.mono (c1.out _ _ HC.out HG.out.size HG0.out) ?_; rintro e w2 ⟨⟨gd, rfl, hgd, hd⟩, hc2, hg2⟩; clear c1 HC; have HD := Lib.hid hd; have HGD := Lib.hid (show V.heap.size + 1 ≤ gd by simpa using hgd); have HDL := Lib.hid (rc_lt hd); replace HPB := Lib.hid (HPB.out.grown hg2 (by intro e; injection e with e; have := HVS.out; omega)); replace HPZ := Lib.hid (HPZ.out.grown hg2 (by intro e; injection e with e; have := HVS.out; omega)); replace HR := Lib.hid (HR.out.grown hg2 (by intro e; injection e with e; have := HVS.out; have := HWS.out; omega)); replace HG := Lib.hid (below_g HG.out hg2 HG.out.size HG0.out); clear hgd hd hc2 hg2; have q0 := HRC.out _ HG.out; have k9 : w2.cell? ⟨W.heap.size, 0, none⟩ = some (.int .i64 0) := HPB.out.cell 0; have f9 := HPB.out.frozen 0)
      | (go_at_call 47; have hp0 : w2.grownBy (w2.setCell ⟨W.heap.size, 0, none⟩ (.int .i64 5)) (some W.heap.size) := (g_set (World.grownBy.refl w2 (some W.heap.size)) (p := ⟨W.heap.size, 0, none⟩) (.inl rfl) (.int .i64 5)); replace HPB := Lib.hid (show Blk (w2.setCell ⟨W.heap.size, 0, none⟩ (.int .i64 5)) W.heap.size 39 #[.int .i64 5, .string ⟨#[]⟩, .string ⟨#[]⟩, .string ⟨#[]⟩, .string ⟨#[]⟩, .int .i64 0, .int .i64 0, .string ⟨#[]⟩, .string ⟨#[]⟩, .int .i64 0, .slice none 0 0, .slice none 0 0, .string ⟨#[]⟩, .string ⟨#[]⟩, .int .i64 0, .int .i64 0, .string ⟨#[]⟩, .string ⟨#[]⟩, .string ⟨#[]⟩, .string ⟨#[]⟩, .int .i64 0, .slice none 0 0, .slice none 0 0, .string ⟨#[]⟩, .string ⟨#[]⟩, .int .i64 0, .slice none 0 0, .slice none 0 0, .int .i64 0, .int .i64 0] from (HPB.out.set 0 (.int .i64 5))); replace HD := Lib.hid (rc_far HD.out hp0 (by have := HVS.out; have := HGD.out; omega) HG.out.size (by have := HWS.out; omega)); replace HR := Lib.hid (HR.out.grown hp0 (by intro e; injection e with e; have := HWS.out; omega)); replace HG := Lib.hid (below_g HG.out hp0 HG.out.size (by have := HWS.out; omega)); clear hp0 k9 f9; (try clear k8 f8); (try clear k7 f7); (try clear k6 f6); (with_reducible refine Calls.mono (T1.out gd _ HD.out HG.out.size (by have := HGD.out; have := HG0.out; omega)) ?_); rintro e x1 ⟨rfl, hd, hg3⟩; clear T1; replace HD := Lib.hid hd; replace HPB := Lib.hid (HPB.out.grown hg3 (by intro e; injection e with e; have := HGD.out; have := HVS.out; omega)); replace HR := Lib.hid (HR.out.grown hg3 (by intro e; injection e with e; have := HGD.out; have := HVS.out; have := HWS.out; omega)); replace HG := Lib.hid (below_g HG.out hg3 HG.out.size (by have := HGD.out; have := HG0.out; omega)); clear hd hg3; have k9 : x1.cell? ⟨W.heap.size, 28, none⟩ = some (.int .i64 0) := HPB.out.cell 28; have f9 := HPB.out.frozen 28)
      | (go_at_call 47; have hp0 : x1.grownBy (x1.setCell ⟨W.heap.size, 28, none⟩ (.int .i64 v1)) (some W.heap.size) := (g_set (World.grownBy.refl x1 (some W.heap.size)) (p := ⟨W.heap.size, 28, none⟩) (.inl rfl) (.int .i64 v1)); replace HPB := Lib.hid (show Blk (x1.setCell ⟨W.heap.size, 28, none⟩ (.int .i64 v1)) W.heap.size 39 #[.int .i64 5, .string ⟨#[]⟩, .string ⟨#[]⟩, .string ⟨#[]⟩, .string ⟨#[]⟩, .int .i64 0, .int .i64 0, .string ⟨#[]⟩, .string ⟨#[]⟩, .int .i64 0, .slice none 0 0, .slice none 0 0, .string ⟨#[]⟩, .string ⟨#[]⟩, .int .i64 0, .int .i64 0, .string ⟨#[]⟩, .string ⟨#[]⟩, .string ⟨#[]⟩, .string ⟨#[]⟩, .int .i64 0, .slice none 0 0, .slice none 0 0, .string ⟨#[]⟩, .string ⟨#[]⟩, .int .i64 0, .slice none 0 0, .slice none 0 0, .int .i64 v1, .int .i64 0] from (HPB.out.set 28 (.int .i64 v1))); replace HD := Lib.hid (rc_far HD.out hp0 (by have := HVS.out; have := HGD.out; omega) HG.out.size (by have := HWS.out; omega)); replace HR := Lib.hid (HR.out.grown hp0 (by intro e; injection e with e; have := HWS.out; omega)); replace HG := Lib.hid (below_g HG.out hp0 HG.out.size (by have := HWS.out; omega)); clear hp0 k9 f9; (try clear k8 f8); (try clear k7 f7); (try clear k6 f6); (with_reducible refine Calls.mono (T2.out gd _ HD.out HG.out.size (by have := HGD.out; have := HG0.out; omega)) ?_); rintro e x2 ⟨rfl, hd, hg3⟩; clear T2; replace HD := Lib.hid hd; replace HPB := Lib.hid (HPB.out.grown hg3 (by intro e; injection e with e; have := HGD.out; have := HVS.out; omega)); replace HR := Lib.hid (HR.out.grown hg3 (by intro e; injection e with e; have := HGD.out; have := HVS.out; have := HWS.out; omega)); replace HG := Lib.hid (below_g HG.out hg3 HG.out.size (by have := HGD.out; have := HG0.out; omega)); clear hd hg3; have k9 : x2.cell? ⟨W.heap.size, 29, none⟩ = some (.int .i64 0) := HPB.out.cell 29; have f9 := HPB.out.frozen 29)
      | (have hp0 : x2.grownBy (x2.setCell ⟨W.heap.size, 29, none⟩ (.int .i64 v2)) (some W.heap.size) := (g_set (World.grownBy.refl x2 (some W.heap.size)) (p := ⟨W.heap.size, 29, none⟩) (.inl rfl) (.int .i64 v2)); replace HPB := Lib.hid (show Blk (x2.setCell ⟨W.heap.size, 29, none⟩ (.int .i64 v2)) W.heap.size 39 #[.int .i64 5, .string ⟨#[]⟩, .string ⟨#[]⟩, .string ⟨#[]⟩, .string ⟨#[]⟩, .int .i64 0, .int .i64 0, .string ⟨#[]⟩, .string ⟨#[]⟩, .int .i64 0, .slice none 0 0, .slice none 0 0, .string ⟨#[]⟩, .string ⟨#[]⟩, .int .i64 0, .int .i64 0, .string ⟨#[]⟩, .string ⟨#[]⟩, .string ⟨#[]⟩, .string ⟨#[]⟩, .int .i64 0, .slice none 0 0, .slice none 0 0, .string ⟨#[]⟩, .string ⟨#[]⟩, .int .i64 0, .slice none 0 0, .slice none 0 0, .int .i64 v1, .int .i64 v2] from (HPB.out.set 29 (.int .i64 v2))); replace HD := Lib.hid (rc_far HD.out hp0 (by have := HVS.out; have := HGD.out; omega) HG.out.size (by have := HWS.out; omega)); replace HR := Lib.hid (HR.out.grown hp0 (by intro e; injection e with e; have := HWS.out; omega)); replace HG := Lib.hid (below_g HG.out hp0 HG.out.size (by have := HWS.out; omega)); clear hp0 k9 f9; (try clear k8 f8); (try clear k7 f7); (try clear k6 f6); have hmv : MgV (x2.setCell ⟨W.heap.size, 29, none⟩ (.int .i64 v2)) w.heap.size #[.int .i64 5, .string ⟨#[]⟩, .string ⟨#[]⟩, .string ⟨#[]⟩, .string ⟨#[]⟩, .int .i64 0, .int .i64 0, .string ⟨#[]⟩, .string ⟨#[]⟩, .int .i64 0, .slice none 0 0, .slice none 0 0, .string ⟨#[]⟩, .string ⟨#[]⟩, .int .i64 0, .int .i64 0, .string ⟨#[]⟩, .string ⟨#[]⟩, .string ⟨#[]⟩, .string ⟨#[]⟩, .int .i64 0, .slice none 0 0, .slice none 0 0, .string ⟨#[]⟩, .string ⟨#[]⟩, .int .i64 0, .slice none 0 0, .slice none 0 0, .int .i64 v1, .int .i64 v2] ⟨5, as0, tg0, re0, ap0, ⟨v1, v2⟩⟩ := ⟨zA, zT, zR, zP, (faC ⟨v1, v2⟩).toArray, rfl, ⟨zA_v, zT_v _ _, zR_v _ _, zP_v _ _, rfl⟩⟩; obtain ⟨cs, ecs⟩ : ∃ cs : Array Value, cs = #[.int .i64 5, .string ⟨#[]⟩, .string ⟨#[]⟩, .string ⟨#[]⟩, .string ⟨#[]⟩, .int .i64 0, .int .i64 0, .string ⟨#[]⟩, .string ⟨#[]⟩, .int .i64 0, .slice none 0 0, .slice none 0 0, .string ⟨#[]⟩, .string ⟨#[]⟩, .int .i64 0, .int .i64 0, .string ⟨#[]⟩, .string ⟨#[]⟩, .string ⟨#[]⟩, .string ⟨#[]⟩, .int .i64 0, .slice none 0 0, .slice none 0 0, .string ⟨#[]⟩, .string ⟨#[]⟩, .int .i64 0, .slice none 0 0, .slice none 0 0, .int .i64 v1, .int .i64 v2] := ⟨_, rfl⟩; rw [← ecs] at HPB hmv; clear ecs; have HMV := Lib.hid hmv; clear hmv; have hcs : cs.size = 30 := (by obtain ⟨pa, pt, pr, pp, pf, hc, hp⟩ := HMV.out; rw [hc]; exact hp.size _); have HCS := Lib.hid hcs; have HCO := Lib.hid (show cs.all (·.oneCell') = true by obtain ⟨pa, pt, pr, pp, pf, hc, hp⟩ := HMV.out; rw [hc]; exact hp.one _); have HCI := Lib.hid (show (Tryz.prog.info? 39).map (·.size) = some cs.size by rw [hcs]; exact mg_info); clear hcs; refine load_cells (by rfl) 39 (.tmp 4) (by rfl) W.heap.size 0 (by rfl) cs _ (range_blk HPB.out) Tryz.underlying39 (by rfl) HCI.out ?_; generalize (x2.setCell ⟨W.heap.size, 29, none⟩ (.int .i64 v2)) = V9 at HPB HD HR HG HMV  ⊢)
      | (go_at_call 10; refine Calls.mono (EN.out _ _ (HMV.out.more HG.out.size)) ?_; rintro e we ⟨⟨v, i, rfl, hn, hsm⟩, hb⟩; obtain ⟨rfl, rfl⟩ := hn rfl; clear EN; replace HPB := Lib.hid (HPB.out.below hb); replace HR := Lib.hid (HR.out.below hb); replace HMV := Lib.hid (HMV.out.keep (hb.mono HG.out.size)); replace HG := Lib.hid (HG.out.trans (hb.mono HG.out.size)); clear hb hn hsm)
      | (refine wpList_store_mid (by rfl) 39 (.tmp 2) (.tmp 119) (by rfl) w.heap.size 0 zz (by rfl) (by rfl) (there_blk HR.out _ (Nat.le_refl _)) HZI.out HZO.out ?_)
      | fail)
    have hE := blk_cells (ds := zz) HR.out rfl
    have hp := put_cells we w.heap.size zz.toList
    have hq := load_blk (P := Tryz.prog) hE Tryz.underlying39 rfl HZI.out
    refine bodyPost_ret (v := .tuple #[.agg zz, .int .i64 2]) ?_ ?_ ?_
    · exact results_pair (v := .agg zz) 2 3 39 ⟨w.heap.size, 0, none⟩ Tryz.results12 rfl hq rfl
    · rfl
    have hB := below_g HG.out hp HG.out.size (Nat.le_refl _)
    refine ⟨_, by rw [IE.out], ?_, hB⟩
    rw [GE.out]
    exact HZM.out _ _
  | some l =>
    rw [ho] at EN
    by_cases hlb : l = t :: r
    · have tb : (l == t :: r) = true := by simpa using hlb
      have tb2 : (l != t :: r) = false := by simpa using hlb
      have hD : mgD (t :: r) = some ⟨5, as0, tg0, re0, ap0, ⟨v1, v2⟩⟩ := by rw [ED.out, ho, if_pos (by rw [hlb])]
      have GE := Lib.hid (show mgG (t :: r) = ⟨5, as0, tg0, re0, ap0, ⟨v1, v2⟩⟩ by rw [mgG, hD]; rfl)
      have IE := Lib.hid (show mgI (t :: r) = 0 by rw [mgI, hD]; rfl)
      clear ED hD ho hlb
      go_enter Tryz.func12, Tryz.ntmps12
      go_upto_region 1 with fail
      rw [← ezz, ← eW]
      clear ezz eW
      go_wp2_with (first
        | (refine wpList_built (by rfl) 39 #[] (by rfl) zz (by simp; exact HZB.out) ?_)
        | (refine wpList_store_mid (by rfl) 39 (.tmp 4) (.tmp 9) (by rfl) W.heap.size 0 zz (by rfl) (by rfl) (there_blk (Blk.new W 39 #[.int .i64 0, .string ⟨#[]⟩, .string ⟨#[]⟩, .string ⟨#[]⟩, .string ⟨#[]⟩, .int .i64 0, .int .i64 0, .string ⟨#[]⟩, .string ⟨#[]⟩, .int .i64 0, .slice none 0 0, .slice none 0 0, .string ⟨#[]⟩, .string ⟨#[]⟩, .int .i64 0, .int .i64 0, .string ⟨#[]⟩, .string ⟨#[]⟩, .string ⟨#[]⟩, .string ⟨#[]⟩, .int .i64 0, .slice none 0 0, .slice none 0 0, .string ⟨#[]⟩, .string ⟨#[]⟩, .int .i64 0, .slice none 0 0, .slice none 0 0, .int .i64 0, .int .i64 0]) _ (by have := HZS.out; simp; omega)) HZI.out HZO.out ?_; have hV := stored_new W 39 #[.int .i64 0, .string ⟨#[]⟩, .string ⟨#[]⟩, .string ⟨#[]⟩, .string ⟨#[]⟩, .int .i64 0, .int .i64 0, .string ⟨#[]⟩, .string ⟨#[]⟩, .int .i64 0, .slice none 0 0, .slice none 0 0, .string ⟨#[]⟩, .string ⟨#[]⟩, .int .i64 0, .int .i64 0, .string ⟨#[]⟩, .string ⟨#[]⟩, .string ⟨#[]⟩, .string ⟨#[]⟩, .int .i64 0, .slice none 0 0, .slice none 0 0, .string ⟨#[]⟩, .string ⟨#[]⟩, .int .i64 0, .slice none 0 0, .slice none 0 0, .int .i64 0, .int .i64 0] zz (by have := HZS.out; simp; omega); generalize ((W.alloc (.cells #[.int .i64 0, .string ⟨#[]⟩, .string ⟨#[]⟩, .string ⟨#[]⟩, .string ⟨#[]⟩, .int .i64 0, .int .i64 0, .string ⟨#[]⟩, .string ⟨#[]⟩, .int .i64 0, .slice none 0 0, .slice none 0 0, .string ⟨#[]⟩, .string ⟨#[]⟩, .int .i64 0, .int .i64 0, .string ⟨#[]⟩, .string ⟨#[]⟩, .string ⟨#[]⟩, .string ⟨#[]⟩, .int .i64 0, .slice none 0 0, .slice none 0 0, .string ⟨#[]⟩, .string ⟨#[]⟩, .int .i64 0, .slice none 0 0, .slice none 0 0, .int .i64 0, .int .i64 0] 39)).setCells W.heap.size 0 zz.toList) = V at hV ⊢; have HPB := Lib.hid (show Blk V W.heap.size 39 #[.int .i64 0, .string ⟨#[]⟩, .string ⟨#[]⟩, .string ⟨#[]⟩, .string ⟨#[]⟩, .int .i64 0, .int .i64 0, .string ⟨#[]⟩, .string ⟨#[]⟩, .int .i64 0, .slice none 0 0, .slice none 0 0, .string ⟨#[]⟩, .string ⟨#[]⟩, .int .i64 0, .int .i64 0, .string ⟨#[]⟩, .string ⟨#[]⟩, .string ⟨#[]⟩, .string ⟨#[]⟩, .int .i64 0, .slice none 0 0, .slice none 0 0, .string ⟨#[]⟩, .string ⟨#[]⟩, .int .i64 0, .slice none 0 0, .slice none 0 0, .int .i64 0, .int .i64 0] from EZ.out ▸ hV.1); have HPZ := Lib.hid hV.1; have HVS := Lib.hid (show W.heap.size < V.heap.size from hV.1.lt); replace HR := Lib.hid (HR.out.below hV.2); replace HG := Lib.hid (HG.out.trans (hV.2.mono HG.out.size)); clear hV; have q1 := HRC.out _ (HG.out.alloc HG.out.size (.cells #[.slice (some ⟨bb, oo, none⟩) (r.length + 1) c, .bool false] 100)); have HG0 := Lib.hid HG.out.size)
        | (go_at_call 45; have hcb := Blk.new V 100 #[.slice (some ⟨bb, oo, none⟩) (r.length + 1) c, .bool false]; have HC := Lib.hid (show RC (V.alloc (.cells #[.slice (some ⟨bb, oo, none⟩) (r.length + 1) c, .bool false] 100)) w.heap.size V.heap.size (some (t :: r)) from ⟨_, _, c, false, hcb, rfl, rfl, HLC.out, HRD.out _ (HG.out.alloc HG.out.size _)⟩); replace HG := Lib.hid (HG.out.alloc HG.out.size (.cells #[.slice (some ⟨bb, oo, none⟩) (r.length + 1) c, .bool false] 100)); replace HR := Lib.hid (HR.out.alloc (.cells #[.slice (some ⟨bb, oo, none⟩) (r.length + 1) c, .bool false] 100)); replace HPB := Lib.hid (HPB.out.alloc (.cells #[.slice (some ⟨bb, oo, none⟩) (r.length + 1) c, .bool false] 100)); replace HPZ := Lib.hid (HPZ.out.alloc (.cells #[.slice (some ⟨bb, oo, none⟩) (r.length + 1) c, .bool false] 100)); clear hcb; refine Calls.mono (c1.out _ _ HC.out HG.out.size HG0.out) ?_; rintro e w2 ⟨⟨gd, rfl, hgd, hd⟩, hc2, hg2⟩; clear c1 HC; have HD := Lib.hid hd; have HGD := Lib.hid (show V.heap.size + 1 ≤ gd by simpa using hgd); have HDL := Lib.hid (rc_lt hd); replace HPB := Lib.hid (HPB.out.grown hg2 (by intro e; injection e with e; have := HVS.out; omega)); replace HPZ := Lib.hid (HPZ.out.grown hg2 (by intro e; injection e with e; have := HVS.out; omega)); replace HR := Lib.hid (HR.out.grown hg2 (by intro e; injection e with e; have := HVS.out; have := HWS.out; omega)); replace HG := Lib.hid (below_g HG.out hg2 HG.out.size HG0.out); clear hgd hd hc2 hg2; have q0 := HRC.out _ HG.out; have k9 : w2.cell? ⟨W.heap.size, 0, none⟩ = some (.int .i64 0) := HPB.out.cell 0; have f9 := HPB.out.frozen 0)
        | (go_at_call 47; have hp0 : w2.grownBy (w2.setCell ⟨W.heap.size, 0, none⟩ (.int .i64 5)) (some W.heap.size) := (g_set (World.grownBy.refl w2 (some W.heap.size)) (p := ⟨W.heap.size, 0, none⟩) (.inl rfl) (.int .i64 5)); replace HPB := Lib.hid (show Blk (w2.setCell ⟨W.heap.size, 0, none⟩ (.int .i64 5)) W.heap.size 39 #[.int .i64 5, .string ⟨#[]⟩, .string ⟨#[]⟩, .string ⟨#[]⟩, .string ⟨#[]⟩, .int .i64 0, .int .i64 0, .string ⟨#[]⟩, .string ⟨#[]⟩, .int .i64 0, .slice none 0 0, .slice none 0 0, .string ⟨#[]⟩, .string ⟨#[]⟩, .int .i64 0, .int .i64 0, .string ⟨#[]⟩, .string ⟨#[]⟩, .string ⟨#[]⟩, .string ⟨#[]⟩, .int .i64 0, .slice none 0 0, .slice none 0 0, .string ⟨#[]⟩, .string ⟨#[]⟩, .int .i64 0, .slice none 0 0, .slice none 0 0, .int .i64 0, .int .i64 0] from (HPB.out.set 0 (.int .i64 5))); replace HD := Lib.hid (rc_far HD.out hp0 (by have := HVS.out; have := HGD.out; omega) HG.out.size (by have := HWS.out; omega)); replace HR := Lib.hid (HR.out.grown hp0 (by intro e; injection e with e; have := HWS.out; omega)); replace HG := Lib.hid (below_g HG.out hp0 HG.out.size (by have := HWS.out; omega)); clear hp0 k9 f9; (try clear k8 f8); (try clear k7 f7); (try clear k6 f6); (with_reducible refine Calls.mono (T1.out gd _ HD.out HG.out.size (by have := HGD.out; have := HG0.out; omega)) ?_); rintro e x1 ⟨rfl, hd, hg3⟩; clear T1; replace HD := Lib.hid hd; replace HPB := Lib.hid (HPB.out.grown hg3 (by intro e; injection e with e; have := HGD.out; have := HVS.out; omega)); replace HR := Lib.hid (HR.out.grown hg3 (by intro e; injection e with e; have := HGD.out; have := HVS.out; have := HWS.out; omega)); replace HG := Lib.hid (below_g HG.out hg3 HG.out.size (by have := HGD.out; have := HG0.out; omega)); clear hd hg3; have k9 : x1.cell? ⟨W.heap.size, 28, none⟩ = some (.int .i64 0) := HPB.out.cell 28; have f9 := HPB.out.frozen 28)
        | (go_at_call 47; have hp0 : x1.grownBy (x1.setCell ⟨W.heap.size, 28, none⟩ (.int .i64 v1)) (some W.heap.size) := (g_set (World.grownBy.refl x1 (some W.heap.size)) (p := ⟨W.heap.size, 28, none⟩) (.inl rfl) (.int .i64 v1)); replace HPB := Lib.hid (show Blk (x1.setCell ⟨W.heap.size, 28, none⟩ (.int .i64 v1)) W.heap.size 39 #[.int .i64 5, .string ⟨#[]⟩, .string ⟨#[]⟩, .string ⟨#[]⟩, .string ⟨#[]⟩, .int .i64 0, .int .i64 0, .string ⟨#[]⟩, .string ⟨#[]⟩, .int .i64 0, .slice none 0 0, .slice none 0 0, .string ⟨#[]⟩, .string ⟨#[]⟩, .int .i64 0, .int .i64 0, .string ⟨#[]⟩, .string ⟨#[]⟩, .string ⟨#[]⟩, .string ⟨#[]⟩, .int .i64 0, .slice none 0 0, .slice none 0 0, .string ⟨#[]⟩, .string ⟨#[]⟩, .int .i64 0, .slice none 0 0, .slice none 0 0, .int .i64 v1, .int .i64 0] from (HPB.out.set 28 (.int .i64 v1))); replace HD := Lib.hid (rc_far HD.out hp0 (by have := HVS.out; have := HGD.out; omega) HG.out.size (by have := HWS.out; omega)); replace HR := Lib.hid (HR.out.grown hp0 (by intro e; injection e with e; have := HWS.out; omega)); replace HG := Lib.hid (below_g HG.out hp0 HG.out.size (by have := HWS.out; omega)); clear hp0 k9 f9; (try clear k8 f8); (try clear k7 f7); (try clear k6 f6); (with_reducible refine Calls.mono (T2.out gd _ HD.out HG.out.size (by have := HGD.out; have := HG0.out; omega)) ?_); rintro e x2 ⟨rfl, hd, hg3⟩; clear T2; replace HD := Lib.hid hd; replace HPB := Lib.hid (HPB.out.grown hg3 (by intro e; injection e with e; have := HGD.out; have := HVS.out; omega)); replace HR := Lib.hid (HR.out.grown hg3 (by intro e; injection e with e; have := HGD.out; have := HVS.out; have := HWS.out; omega)); replace HG := Lib.hid (below_g HG.out hg3 HG.out.size (by have := HGD.out; have := HG0.out; omega)); clear hd hg3; have k9 : x2.cell? ⟨W.heap.size, 29, none⟩ = some (.int .i64 0) := HPB.out.cell 29; have f9 := HPB.out.frozen 29)
        | (have hp0 : x2.grownBy (x2.setCell ⟨W.heap.size, 29, none⟩ (.int .i64 v2)) (some W.heap.size) := (g_set (World.grownBy.refl x2 (some W.heap.size)) (p := ⟨W.heap.size, 29, none⟩) (.inl rfl) (.int .i64 v2)); replace HPB := Lib.hid (show Blk (x2.setCell ⟨W.heap.size, 29, none⟩ (.int .i64 v2)) W.heap.size 39 #[.int .i64 5, .string ⟨#[]⟩, .string ⟨#[]⟩, .string ⟨#[]⟩, .string ⟨#[]⟩, .int .i64 0, .int .i64 0, .string ⟨#[]⟩, .string ⟨#[]⟩, .int .i64 0, .slice none 0 0, .slice none 0 0, .string ⟨#[]⟩, .string ⟨#[]⟩, .int .i64 0, .int .i64 0, .string ⟨#[]⟩, .string ⟨#[]⟩, .string ⟨#[]⟩, .string ⟨#[]⟩, .int .i64 0, .slice none 0 0, .slice none 0 0, .string ⟨#[]⟩, .string ⟨#[]⟩, .int .i64 0, .slice none 0 0, .slice none 0 0, .int .i64 v1, .int .i64 v2] from (HPB.out.set 29 (.int .i64 v2))); replace HD := Lib.hid (rc_far HD.out hp0 (by have := HVS.out; have := HGD.out; omega) HG.out.size (by have := HWS.out; omega)); replace HR := Lib.hid (HR.out.grown hp0 (by intro e; injection e with e; have := HWS.out; omega)); replace HG := Lib.hid (below_g HG.out hp0 HG.out.size (by have := HWS.out; omega)); clear hp0 k9 f9; (try clear k8 f8); (try clear k7 f7); (try clear k6 f6); have hmv : MgV (x2.setCell ⟨W.heap.size, 29, none⟩ (.int .i64 v2)) w.heap.size #[.int .i64 5, .string ⟨#[]⟩, .string ⟨#[]⟩, .string ⟨#[]⟩, .string ⟨#[]⟩, .int .i64 0, .int .i64 0, .string ⟨#[]⟩, .string ⟨#[]⟩, .int .i64 0, .slice none 0 0, .slice none 0 0, .string ⟨#[]⟩, .string ⟨#[]⟩, .int .i64 0, .int .i64 0, .string ⟨#[]⟩, .string ⟨#[]⟩, .string ⟨#[]⟩, .string ⟨#[]⟩, .int .i64 0, .slice none 0 0, .slice none 0 0, .string ⟨#[]⟩, .string ⟨#[]⟩, .int .i64 0, .slice none 0 0, .slice none 0 0, .int .i64 v1, .int .i64 v2] ⟨5, as0, tg0, re0, ap0, ⟨v1, v2⟩⟩ := ⟨zA, zT, zR, zP, (faC ⟨v1, v2⟩).toArray, rfl, ⟨zA_v, zT_v _ _, zR_v _ _, zP_v _ _, rfl⟩⟩; obtain ⟨cs, ecs⟩ : ∃ cs : Array Value, cs = #[.int .i64 5, .string ⟨#[]⟩, .string ⟨#[]⟩, .string ⟨#[]⟩, .string ⟨#[]⟩, .int .i64 0, .int .i64 0, .string ⟨#[]⟩, .string ⟨#[]⟩, .int .i64 0, .slice none 0 0, .slice none 0 0, .string ⟨#[]⟩, .string ⟨#[]⟩, .int .i64 0, .int .i64 0, .string ⟨#[]⟩, .string ⟨#[]⟩, .string ⟨#[]⟩, .string ⟨#[]⟩, .int .i64 0, .slice none 0 0, .slice none 0 0, .string ⟨#[]⟩, .string ⟨#[]⟩, .int .i64 0, .slice none 0 0, .slice none 0 0, .int .i64 v1, .int .i64 v2] := ⟨_, rfl⟩; rw [← ecs] at HPB hmv; clear ecs; have HMV := Lib.hid hmv; clear hmv; have hcs : cs.size = 30 := (by obtain ⟨pa, pt, pr, pp, pf, hc, hp⟩ := HMV.out; rw [hc]; exact hp.size _); have HCS := Lib.hid hcs; have HCO := Lib.hid (show cs.all (·.oneCell') = true by obtain ⟨pa, pt, pr, pp, pf, hc, hp⟩ := HMV.out; rw [hc]; exact hp.one _); have HCI := Lib.hid (show (Tryz.prog.info? 39).map (·.size) = some cs.size by rw [hcs]; exact mg_info); clear hcs; refine load_cells (by rfl) 39 (.tmp 4) (by rfl) W.heap.size 0 (by rfl) cs _ (range_blk HPB.out) Tryz.underlying39 (by rfl) HCI.out ?_; generalize (x2.setCell ⟨W.heap.size, 29, none⟩ (.int .i64 v2)) = V9 at HPB HD HR HG HMV  ⊢)
        | (go_at_call 10; refine Calls.mono (EN.out _ _ (HMV.out.more HG.out.size)) ?_; rintro e we ⟨⟨v, i, rfl, hn, hsm⟩, hb⟩; obtain ⟨rfl, gx, cx, rfl, hgx, hcx, hrx⟩ := hsm l rfl; clear EN; replace HPB := Lib.hid (HPB.out.below hb); replace HR := Lib.hid (HR.out.below hb); replace HMV := Lib.hid (HMV.out.keep (hb.mono HG.out.size)); replace HG := Lib.hid (HG.out.trans (hb.mono HG.out.size)); clear hb hn hsm; have hcv1 := run_bytes_str (P := Tryz.prog) we 26 5 Tryz.underlying26 Tryz.underlying5 hrx l.length cx rfl 9 Tryz.underlying9; have hcv2 := run_bytes_str (P := Tryz.prog) we 26 5 Tryz.underlying26 Tryz.underlying5 (HRD.out we HG.out) (r.length + 1) c rfl 9 Tryz.underlying9)
        | (refine load_cells (by rfl) 39 (.tmp 4) (by rfl) W.heap.size 0 (by rfl) cs _ (range_blk HPB.out) Tryz.underlying39 (by rfl) HCI.out ?_)
        | (refine wpList_store_mid (by rfl) 39 (.tmp 2) (.tmp 120) (by rfl) w.heap.size 0 cs (by rfl) (by rfl) (there_blk HR.out _ (by have := HZS.out; have := HCS.out; omega)) HCI.out HCO.out ?_)
        | fail)
      have hE := blk_cells (ds := cs) HR.out (by have := HZS.out; have := HCS.out; omega)
      have hp := put_cells we w.heap.size cs.toList
      have hq := load_blk (P := Tryz.prog) hE Tryz.underlying39 rfl HCI.out
      refine bodyPost_ret (v := .tuple #[.agg cs, .int .i64 0]) ?_ ?_ ?_
      · exact results_pair (v := .agg cs) 2 3 39 ⟨w.heap.size, 0, none⟩ Tryz.results12 rfl hq rfl
      · rfl
      have hB := below_g HG.out hp HG.out.size (Nat.le_refl _)
      refine ⟨_, by rw [IE.out], ?_, hB⟩
      rw [GE.out]
      exact HMV.out.keep (below_g (Below.refl _ _) hp HG.out.size (Nat.le_refl _))
    · have tb : (l == t :: r) = false := by simpa using hlb
      have tb2 : (l != t :: r) = true := by simpa using hlb
      have hD : mgD (t :: r) = none := by rw [ED.out, ho, if_neg (fun h => hlb (Option.some.inj h))]
      have GE := Lib.hid (show mgG (t :: r) = mg0 by rw [mgG, hD]; rfl)
      have IE := Lib.hid (show mgI (t :: r) = 2 by rw [mgI, hD]; rfl)
      clear ED hD ho hlb
      go_enter Tryz.func12, Tryz.ntmps12
      go_upto_region 1 with fail
      rw [← ezz, ← eW]
      clear ezz eW
      go_wp2_with (first
        | (refine wpList_built (by rfl) 39 #[] (by rfl) zz (by simp; exact HZB.out) ?_)
        | (refine wpList_store_mid (by rfl) 39 (.tmp 4) (.tmp 9) (by rfl) W.heap.size 0 zz (by rfl) (by rfl) (there_blk (Blk.new W 39 #[.int .i64 0, .string ⟨#[]⟩, .string ⟨#[]⟩, .string ⟨#[]⟩, .string ⟨#[]⟩, .int .i64 0, .int .i64 0, .string ⟨#[]⟩, .string ⟨#[]⟩, .int .i64 0, .slice none 0 0, .slice none 0 0, .string ⟨#[]⟩, .string ⟨#[]⟩, .int .i64 0, .int .i64 0, .string ⟨#[]⟩, .string ⟨#[]⟩, .string ⟨#[]⟩, .string ⟨#[]⟩, .int .i64 0, .slice none 0 0, .slice none 0 0, .string ⟨#[]⟩, .string ⟨#[]⟩, .int .i64 0, .slice none 0 0, .slice none 0 0, .int .i64 0, .int .i64 0]) _ (by have := HZS.out; simp; omega)) HZI.out HZO.out ?_; have hV := stored_new W 39 #[.int .i64 0, .string ⟨#[]⟩, .string ⟨#[]⟩, .string ⟨#[]⟩, .string ⟨#[]⟩, .int .i64 0, .int .i64 0, .string ⟨#[]⟩, .string ⟨#[]⟩, .int .i64 0, .slice none 0 0, .slice none 0 0, .string ⟨#[]⟩, .string ⟨#[]⟩, .int .i64 0, .int .i64 0, .string ⟨#[]⟩, .string ⟨#[]⟩, .string ⟨#[]⟩, .string ⟨#[]⟩, .int .i64 0, .slice none 0 0, .slice none 0 0, .string ⟨#[]⟩, .string ⟨#[]⟩, .int .i64 0, .slice none 0 0, .slice none 0 0, .int .i64 0, .int .i64 0] zz (by have := HZS.out; simp; omega); generalize ((W.alloc (.cells #[.int .i64 0, .string ⟨#[]⟩, .string ⟨#[]⟩, .string ⟨#[]⟩, .string ⟨#[]⟩, .int .i64 0, .int .i64 0, .string ⟨#[]⟩, .string ⟨#[]⟩, .int .i64 0, .slice none 0 0, .slice none 0 0, .string ⟨#[]⟩, .string ⟨#[]⟩, .int .i64 0, .int .i64 0, .string ⟨#[]⟩, .string ⟨#[]⟩, .string ⟨#[]⟩, .string ⟨#[]⟩, .int .i64 0, .slice none 0 0, .slice none 0 0, .string ⟨#[]⟩, .string ⟨#[]⟩, .int .i64 0, .slice none 0 0, .slice none 0 0, .int .i64 0, .int .i64 0] 39)).setCells W.heap.size 0 zz.toList) = V at hV ⊢; have HPB := Lib.hid (show Blk V W.heap.size 39 #[.int .i64 0, .string ⟨#[]⟩, .string ⟨#[]⟩, .string ⟨#[]⟩, .string ⟨#[]⟩, .int .i64 0, .int .i64 0, .string ⟨#[]⟩, .string ⟨#[]⟩, .int .i64 0, .slice none 0 0, .slice none 0 0, .string ⟨#[]⟩, .string ⟨#[]⟩, .int .i64 0, .int .i64 0, .string ⟨#[]⟩, .string ⟨#[]⟩, .string ⟨#[]⟩, .string ⟨#[]⟩, .int .i64 0, .slice none 0 0, .slice none 0 0, .string ⟨#[]⟩, .string ⟨#[]⟩, .int .i64 0, .slice none 0 0, .slice none 0 0, .int .i64 0, .int .i64 0] from EZ.out ▸ hV.1); have HPZ := Lib.hid hV.1; have HVS := Lib.hid (show W.heap.size < V.heap.size from hV.1.lt); replace HR := Lib.hid (HR.out.below hV.2); replace HG := Lib.hid (HG.out.trans (hV.2.mono HG.out.size)); clear hV; have q1 := HRC.out _ (HG.out.alloc HG.out.size (.cells #[.slice (some ⟨bb, oo, none⟩) (r.length + 1) c, .bool false] 100)); have HG0 := Lib.hid HG.out.size)
        | (go_at_call 45; have hcb := Blk.new V 100 #[.slice (some ⟨bb, oo, none⟩) (r.length + 1) c, .bool false]; have HC := Lib.hid (show RC (V.alloc (.cells #[.slice (some ⟨bb, oo, none⟩) (r.length + 1) c, .bool false] 100)) w.heap.size V.heap.size (some (t :: r)) from ⟨_, _, c, false, hcb, rfl, rfl, HLC.out, HRD.out _ (HG.out.alloc HG.out.size _)⟩); replace HG := Lib.hid (HG.out.alloc HG.out.size (.cells #[.slice (some ⟨bb, oo, none⟩) (r.length + 1) c, .bool false] 100)); replace HR := Lib.hid (HR.out.alloc (.cells #[.slice (some ⟨bb, oo, none⟩) (r.length + 1) c, .bool false] 100)); replace HPB := Lib.hid (HPB.out.alloc (.cells #[.slice (some ⟨bb, oo, none⟩) (r.length + 1) c, .bool false] 100)); replace HPZ := Lib.hid (HPZ.out.alloc (.cells #[.slice (some ⟨bb, oo, none⟩) (r.length + 1) c, .bool false] 100)); clear hcb; refine Calls.mono (c1.out _ _ HC.out HG.out.size HG0.out) ?_; rintro e w2 ⟨⟨gd, rfl, hgd, hd⟩, hc2, hg2⟩; clear c1 HC; have HD := Lib.hid hd; have HGD := Lib.hid (show V.heap.size + 1 ≤ gd by simpa using hgd); have HDL := Lib.hid (rc_lt hd); replace HPB := Lib.hid (HPB.out.grown hg2 (by intro e; injection e with e; have := HVS.out; omega)); replace HPZ := Lib.hid (HPZ.out.grown hg2 (by intro e; injection e with e; have := HVS.out; omega)); replace HR := Lib.hid (HR.out.grown hg2 (by intro e; injection e with e; have := HVS.out; have := HWS.out; omega)); replace HG := Lib.hid (below_g HG.out hg2 HG.out.size HG0.out); clear hgd hd hc2 hg2; have q0 := HRC.out _ HG.out; have k9 : w2.cell? ⟨W.heap.size, 0, none⟩ = some (.int .i64 0) := HPB.out.cell 0; have f9 := HPB.out.frozen 0)
        | (go_at_call 47; have hp0 : w2.grownBy (w2.setCell ⟨W.heap.size, 0, none⟩ (.int .i64 5)) (some W.heap.size) := (g_set (World.grownBy.refl w2 (some W.heap.size)) (p := ⟨W.heap.size, 0, none⟩) (.inl rfl) (.int .i64 5)); replace HPB := Lib.hid (show Blk (w2.setCell ⟨W.heap.size, 0, none⟩ (.int .i64 5)) W.heap.size 39 #[.int .i64 5, .string ⟨#[]⟩, .string ⟨#[]⟩, .string ⟨#[]⟩, .string ⟨#[]⟩, .int .i64 0, .int .i64 0, .string ⟨#[]⟩, .string ⟨#[]⟩, .int .i64 0, .slice none 0 0, .slice none 0 0, .string ⟨#[]⟩, .string ⟨#[]⟩, .int .i64 0, .int .i64 0, .string ⟨#[]⟩, .string ⟨#[]⟩, .string ⟨#[]⟩, .string ⟨#[]⟩, .int .i64 0, .slice none 0 0, .slice none 0 0, .string ⟨#[]⟩, .string ⟨#[]⟩, .int .i64 0, .slice none 0 0, .slice none 0 0, .int .i64 0, .int .i64 0] from (HPB.out.set 0 (.int .i64 5))); replace HD := Lib.hid (rc_far HD.out hp0 (by have := HVS.out; have := HGD.out; omega) HG.out.size (by have := HWS.out; omega)); replace HR := Lib.hid (HR.out.grown hp0 (by intro e; injection e with e; have := HWS.out; omega)); replace HG := Lib.hid (below_g HG.out hp0 HG.out.size (by have := HWS.out; omega)); clear hp0 k9 f9; (try clear k8 f8); (try clear k7 f7); (try clear k6 f6); (with_reducible refine Calls.mono (T1.out gd _ HD.out HG.out.size (by have := HGD.out; have := HG0.out; omega)) ?_); rintro e x1 ⟨rfl, hd, hg3⟩; clear T1; replace HD := Lib.hid hd; replace HPB := Lib.hid (HPB.out.grown hg3 (by intro e; injection e with e; have := HGD.out; have := HVS.out; omega)); replace HR := Lib.hid (HR.out.grown hg3 (by intro e; injection e with e; have := HGD.out; have := HVS.out; have := HWS.out; omega)); replace HG := Lib.hid (below_g HG.out hg3 HG.out.size (by have := HGD.out; have := HG0.out; omega)); clear hd hg3; have k9 : x1.cell? ⟨W.heap.size, 28, none⟩ = some (.int .i64 0) := HPB.out.cell 28; have f9 := HPB.out.frozen 28)
        | (go_at_call 47; have hp0 : x1.grownBy (x1.setCell ⟨W.heap.size, 28, none⟩ (.int .i64 v1)) (some W.heap.size) := (g_set (World.grownBy.refl x1 (some W.heap.size)) (p := ⟨W.heap.size, 28, none⟩) (.inl rfl) (.int .i64 v1)); replace HPB := Lib.hid (show Blk (x1.setCell ⟨W.heap.size, 28, none⟩ (.int .i64 v1)) W.heap.size 39 #[.int .i64 5, .string ⟨#[]⟩, .string ⟨#[]⟩, .string ⟨#[]⟩, .string ⟨#[]⟩, .int .i64 0, .int .i64 0, .string ⟨#[]⟩, .string ⟨#[]⟩, .int .i64 0, .slice none 0 0, .slice none 0 0, .string ⟨#[]⟩, .string ⟨#[]⟩, .int .i64 0, .int .i64 0, .string ⟨#[]⟩, .string ⟨#[]⟩, .string ⟨#[]⟩, .string ⟨#[]⟩, .int .i64 0, .slice none 0 0, .slice none 0 0, .string ⟨#[]⟩, .string ⟨#[]⟩, .int .i64 0, .slice none 0 0, .slice none 0 0, .int .i64 v1, .int .i64 0] from (HPB.out.set 28 (.int .i64 v1))); replace HD := Lib.hid (rc_far HD.out hp0 (by have := HVS.out; have := HGD.out; omega) HG.out.size (by have := HWS.out; omega)); replace HR := Lib.hid (HR.out.grown hp0 (by intro e; injection e with e; have := HWS.out; omega)); replace HG := Lib.hid (below_g HG.out hp0 HG.out.size (by have := HWS.out; omega)); clear hp0 k9 f9; (try clear k8 f8); (try clear k7 f7); (try clear k6 f6); (with_reducible refine Calls.mono (T2.out gd _ HD.out HG.out.size (by have := HGD.out; have := HG0.out; omega)) ?_); rintro e x2 ⟨rfl, hd, hg3⟩; clear T2; replace HD := Lib.hid hd; replace HPB := Lib.hid (HPB.out.grown hg3 (by intro e; injection e with e; have := HGD.out; have := HVS.out; omega)); replace HR := Lib.hid (HR.out.grown hg3 (by intro e; injection e with e; have := HGD.out; have := HVS.out; have := HWS.out; omega)); replace HG := Lib.hid (below_g HG.out hg3 HG.out.size (by have := HGD.out; have := HG0.out; omega)); clear hd hg3; have k9 : x2.cell? ⟨W.heap.size, 29, none⟩ = some (.int .i64 0) := HPB.out.cell 29; have f9 := HPB.out.frozen 29)
        | (have hp0 : x2.grownBy (x2.setCell ⟨W.heap.size, 29, none⟩ (.int .i64 v2)) (some W.heap.size) := (g_set (World.grownBy.refl x2 (some W.heap.size)) (p := ⟨W.heap.size, 29, none⟩) (.inl rfl) (.int .i64 v2)); replace HPB := Lib.hid (show Blk (x2.setCell ⟨W.heap.size, 29, none⟩ (.int .i64 v2)) W.heap.size 39 #[.int .i64 5, .string ⟨#[]⟩, .string ⟨#[]⟩, .string ⟨#[]⟩, .string ⟨#[]⟩, .int .i64 0, .int .i64 0, .string ⟨#[]⟩, .string ⟨#[]⟩, .int .i64 0, .slice none 0 0, .slice none 0 0, .string ⟨#[]⟩, .string ⟨#[]⟩, .int .i64 0, .int .i64 0, .string ⟨#[]⟩, .string ⟨#[]⟩, .string ⟨#[]⟩, .string ⟨#[]⟩, .int .i64 0, .slice none 0 0, .slice none 0 0, .string ⟨#[]⟩, .string ⟨#[]⟩, .int .i64 0, .slice none 0 0, .slice none 0 0, .int .i64 v1, .int .i64 v2] from (HPB.out.set 29 (.int .i64 v2))); replace HD := Lib.hid (rc_far HD.out hp0 (by have := HVS.out; have := HGD.out; omega) HG.out.size (by have := HWS.out; omega)); replace HR := Lib.hid (HR.out.grown hp0 (by intro e; injection e with e; have := HWS.out; omega)); replace HG := Lib.hid (below_g HG.out hp0 HG.out.size (by have := HWS.out; omega)); clear hp0 k9 f9; (try clear k8 f8); (try clear k7 f7); (try clear k6 f6); have hmv : MgV (x2.setCell ⟨W.heap.size, 29, none⟩ (.int .i64 v2)) w.heap.size #[.int .i64 5, .string ⟨#[]⟩, .string ⟨#[]⟩, .string ⟨#[]⟩, .string ⟨#[]⟩, .int .i64 0, .int .i64 0, .string ⟨#[]⟩, .string ⟨#[]⟩, .int .i64 0, .slice none 0 0, .slice none 0 0, .string ⟨#[]⟩, .string ⟨#[]⟩, .int .i64 0, .int .i64 0, .string ⟨#[]⟩, .string ⟨#[]⟩, .string ⟨#[]⟩, .string ⟨#[]⟩, .int .i64 0, .slice none 0 0, .slice none 0 0, .string ⟨#[]⟩, .string ⟨#[]⟩, .int .i64 0, .slice none 0 0, .slice none 0 0, .int .i64 v1, .int .i64 v2] ⟨5, as0, tg0, re0, ap0, ⟨v1, v2⟩⟩ := ⟨zA, zT, zR, zP, (faC ⟨v1, v2⟩).toArray, rfl, ⟨zA_v, zT_v _ _, zR_v _ _, zP_v _ _, rfl⟩⟩; obtain ⟨cs, ecs⟩ : ∃ cs : Array Value, cs = #[.int .i64 5, .string ⟨#[]⟩, .string ⟨#[]⟩, .string ⟨#[]⟩, .string ⟨#[]⟩, .int .i64 0, .int .i64 0, .string ⟨#[]⟩, .string ⟨#[]⟩, .int .i64 0, .slice none 0 0, .slice none 0 0, .string ⟨#[]⟩, .string ⟨#[]⟩, .int .i64 0, .int .i64 0, .string ⟨#[]⟩, .string ⟨#[]⟩, .string ⟨#[]⟩, .string ⟨#[]⟩, .int .i64 0, .slice none 0 0, .slice none 0 0, .string ⟨#[]⟩, .string ⟨#[]⟩, .int .i64 0, .slice none 0 0, .slice none 0 0, .int .i64 v1, .int .i64 v2] := ⟨_, rfl⟩; rw [← ecs] at HPB hmv; clear ecs; have HMV := Lib.hid hmv; clear hmv; have hcs : cs.size = 30 := (by obtain ⟨pa, pt, pr, pp, pf, hc, hp⟩ := HMV.out; rw [hc]; exact hp.size _); have HCS := Lib.hid hcs; have HCO := Lib.hid (show cs.all (·.oneCell') = true by obtain ⟨pa, pt, pr, pp, pf, hc, hp⟩ := HMV.out; rw [hc]; exact hp.one _); have HCI := Lib.hid (show (Tryz.prog.info? 39).map (·.size) = some cs.size by rw [hcs]; exact mg_info); clear hcs; refine load_cells (by rfl) 39 (.tmp 4) (by rfl) W.heap.size 0 (by rfl) cs _ (range_blk HPB.out) Tryz.underlying39 (by rfl) HCI.out ?_; generalize (x2.setCell ⟨W.heap.size, 29, none⟩ (.int .i64 v2)) = V9 at HPB HD HR HG HMV  ⊢)
        | (go_at_call 10; refine Calls.mono (EN.out _ _ (HMV.out.more HG.out.size)) ?_; rintro e we ⟨⟨v, i, rfl, hn, hsm⟩, hb⟩; obtain ⟨rfl, gx, cx, rfl, hgx, hcx, hrx⟩ := hsm l rfl; clear EN; replace HPB := Lib.hid (HPB.out.below hb); replace HR := Lib.hid (HR.out.below hb); replace HMV := Lib.hid (HMV.out.keep (hb.mono HG.out.size)); replace HG := Lib.hid (HG.out.trans (hb.mono HG.out.size)); clear hb hn hsm; have hcv1 := run_bytes_str (P := Tryz.prog) we 26 5 Tryz.underlying26 Tryz.underlying5 hrx l.length cx rfl 9 Tryz.underlying9; have hcv2 := run_bytes_str (P := Tryz.prog) we 26 5 Tryz.underlying26 Tryz.underlying5 (HRD.out we HG.out) (r.length + 1) c rfl 9 Tryz.underlying9)
        | (refine wpList_store_mid (by rfl) 39 (.tmp 2) (.tmp 119) (by rfl) w.heap.size 0 zz (by rfl) (by rfl) (there_blk HR.out _ (Nat.le_refl _)) HZI.out HZO.out ?_)
        | fail)
      have hE := blk_cells (ds := zz) HR.out rfl
      have hp := put_cells we w.heap.size zz.toList
      have hq := load_blk (P := Tryz.prog) hE Tryz.underlying39 rfl HZI.out
      refine bodyPost_ret (v := .tuple #[.agg zz, .int .i64 2]) ?_ ?_ ?_
      · exact results_pair (v := .agg zz) 2 3 39 ⟨w.heap.size, 0, none⟩ Tryz.results12 rfl hq rfl
      · rfl
      have hB := below_g HG.out hp HG.out.size (Nat.le_refl _)
      refine ⟨_, by rw [IE.out], ?_, hB⟩
      rw [GE.out]
      exact HZM.out _ _
end Go.Proofs.YteeabfplnaknfaaGreat.Mc
end

section
set_option linter.unusedVariables false
set_option linter.unusedSimpArgs false
namespace Go.Proofs.YteeabfplnaknfaaGreat.Mc
open Go.RowKit Go.Proofs.YteeabfplnaknfaaGreat.Mem Go.Proofs.YteeabfplnaknfaaGreat.DerP Go.Proofs.YteeabfplnaknfaaGreat.DerR Go.Proofs.YteeabfplnaknfaaGreat.Ms

set_option maxHeartbeats 25600000 in
set_option maxRecDepth 10000 in
theorem rdec8_none (t : UInt8) (r : L) (A : Option Addr) (c : Nat) (w : World) (hr : Rd w w.heap.size A (bvs (t :: r))) (hc : (t :: r).length ≤ c) (hl : (t :: r).length ≤ 5000) (m1 : ¬ t = 106) (m2 : ¬ t = 108) (m3 : ¬ t = 107) (m4 : ¬ t = 110) (m5 : ¬ t = 126) :
    Calls Tryz.prog 12 #[.slice A (t :: r).length c] w fun e w' => ∃ ds, e = .returned (.tuple #[.agg ds, .int .i64 (mgI (t :: r))]) ∧ MgV w' w.heap.size ds (mgG (t :: r)) ∧ Below w.heap.size w w' := by
  obtain ⟨zz, ezz⟩ : ∃ z : Array Value, z = #[.int .i64 0, .string ⟨#[]⟩, .string ⟨#[]⟩, .string ⟨#[]⟩, .string ⟨#[]⟩, .int .i64 0, .int .i64 0, .string ⟨#[]⟩, .string ⟨#[]⟩, .int .i64 0, .slice none 0 0, .slice none 0 0, .string ⟨#[]⟩, .string ⟨#[]⟩, .int .i64 0, .int .i64 0, .string ⟨#[]⟩, .string ⟨#[]⟩, .string ⟨#[]⟩, .string ⟨#[]⟩, .int .i64 0, .slice none 0 0, .slice none 0 0, .string ⟨#[]⟩, .string ⟨#[]⟩, .int .i64 0, .slice none 0 0, .slice none 0 0, .int .i64 0, .int .i64 0] := ⟨_, rfl⟩
  have ez0 : zz = mgA 0 zA zT zR zP zF := by rw [ezz]; rfl
  have hz : ∀ (w1 : World) (B : Nat), MgV w1 B zz mg0 := fun w1 B => by rw [ez0]; exact ⟨_, _, _, _, _, rfl, zM_v w1 B 0⟩
  have hzs : zz.size = 30 := by rw [ez0]; exact (zM_v w 0 0).size 0
  have HZS := Lib.hid hzs
  have HZM := Lib.hid hz
  have HZO := Lib.hid (show zz.all (·.oneCell') = true by rw [ez0]; exact (zM_v w 0 0).one 0)
  have HZI := Lib.hid (show (Tryz.prog.info? 39).map (·.size) = some zz.size by rw [hzs]; exact mg_info)
  have HZB := Lib.hid (show Tryz.prog.built 39 [] = some zz by rw [ez0]; exact built_none)
  have EZ := Lib.hid ezz
  obtain ⟨W, eW⟩ : ∃ W, W = w.alloc (.cells zz 39) := ⟨_, rfl⟩
  have HWS := Lib.hid (show W.heap.size = w.heap.size + 1 by rw [eW]; simp)
  have HR := Lib.hid (show Blk W w.heap.size 39 zz by rw [eW]; exact Blk.new _ _ _)
  have HG := Lib.hid (show Below w.heap.size w W by rw [eW]; exact (Below.refl _ _).alloc (Nat.le_refl _) _)
  have HRD := Lib.hid (fun w1 (h : Below w.heap.size w w1) => hr.below h)
  have ED := Lib.hid (show mgD (t :: r) = if mgO (mgP (t :: r)) = some (t :: r) then some (mgP (t :: r)) else none from rfl)
  clear ez0 hzs hz
  obtain ⟨bb, oo, rfl, hbb, hcell⟩ : ∃ bb oo, A = some ⟨bb, oo, none⟩ ∧ bb < w.heap.size ∧ w.cell? ⟨bb, oo, none⟩ = some (.int .u8 (t.toNat : Int)) := by
    obtain ⟨bb, oo, rfl, h1, h2⟩ := hr.at_ (i := 0) (u := bv t) rfl
    exact ⟨bb, oo, rfl, h1, h2⟩
  have HRC := Lib.hid (fun w1 (h1 : Below w.heap.size w w1) => show w1.cell? ⟨bb, oo, none⟩ = some (.int .u8 (t.toNat : Int)) from (h1.cell (p := ⟨bb, oo, none⟩) hbb).trans hcell)
  have hu := u8_le t
  have HLC := Lib.hid (show (t :: r).length ≤ c from hc)
  have hl0 : ((some (t :: r) : Option L).getD []).length ≤ 100000 := by show (t :: r).length ≤ 100000; omega
  have c1 := Lib.hid (fun g w1 h h1 h2 => rinto_any t w.heap.size g (some (t :: r)) w1 h h1 h2 hl0)
  have hs0 := bd_len t hl0
  have d1 : ((t.toNat : Int) == 106) = false := by simp; intro e; exact m1 (UInt8.toNat_inj.1 (by rw [show (106 : UInt8).toNat = 106 from rfl]; omega))
  have d2 : ((t.toNat : Int) == 108) = false := by simp; intro e; exact m2 (UInt8.toNat_inj.1 (by rw [show (108 : UInt8).toNat = 108 from rfl]; omega))
  have d3 : ((t.toNat : Int) == 107) = false := by simp; intro e; exact m3 (UInt8.toNat_inj.1 (by rw [show (107 : UInt8).toNat = 107 from rfl]; omega))
  have d4 : ((t.toNat : Int) == 110) = false := by simp; intro e; exact m4 (UInt8.toNat_inj.1 (by rw [show (110 : UInt8).toNat = 110 from rfl]; omega))
  have d5 : ((t.toNat : Int) == 126) = false := by simp; intro e; exact m5 (UInt8.toNat_inj.1 (by rw [show (126 : UInt8).toNat = 126 from rfl]; omega))
  have hD : mgD (t :: r) = none := by
    have e : mgP (t :: r) = mg0 := by simp only [mgP, if_neg m1, if_neg m2, if_neg m3, if_neg m4, if_neg m5]
    rw [ED.out, e, mg0_no]; rfl
  have GE := Lib.hid (show mgG (t :: r) = mg0 by rw [mgG, hD]; rfl)
  have IE := Lib.hid (show mgI (t :: r) = 2 by rw [mgI, hD]; rfl)
  clear ED hD m1 m2 m3 m4 m5 hs0 hl0 hr hc hl hcell hu
  go_enter Tryz.func12, Tryz.ntmps12
  go_upto_region 1 with fail
  rw [← ezz, ← eW]
  clear ezz eW
  go_wp2_with (first
    | (refine wpList_built (by rfl) 39 #[] (by rfl) zz (by simp; exact HZB.out) ?_)
    | (refine wpList_store_mid (by rfl) 39 (.tmp 4) (.tmp 9) (by rfl) W.heap.size 0 zz (by rfl) (by rfl) (there_blk (Blk.new W 39 #[.int .i64 0, .string ⟨#[]⟩, .string ⟨#[]⟩, .string ⟨#[]⟩, .string ⟨#[]⟩, .int .i64 0, .int .i64 0, .string ⟨#[]⟩, .string ⟨#[]⟩, .int .i64 0, .slice none 0 0, .slice none 0 0, .string ⟨#[]⟩, .string ⟨#[]⟩, .int .i64 0, .int .i64 0, .string ⟨#[]⟩, .string ⟨#[]⟩, .string ⟨#[]⟩, .string ⟨#[]⟩, .int .i64 0, .slice none 0 0, .slice none 0 0, .string ⟨#[]⟩, .string ⟨#[]⟩, .int .i64 0, .slice none 0 0, .slice none 0 0, .int .i64 0, .int .i64 0]) _ (by have := HZS.out; simp; omega)) HZI.out HZO.out ?_; have hV := stored_new W 39 #[.int .i64 0, .string ⟨#[]⟩, .string ⟨#[]⟩, .string ⟨#[]⟩, .string ⟨#[]⟩, .int .i64 0, .int .i64 0, .string ⟨#[]⟩, .string ⟨#[]⟩, .int .i64 0, .slice none 0 0, .slice none 0 0, .string ⟨#[]⟩, .string ⟨#[]⟩, .int .i64 0, .int .i64 0, .string ⟨#[]⟩, .string ⟨#[]⟩, .string ⟨#[]⟩, .string ⟨#[]⟩, .int .i64 0, .slice none 0 0, .slice none 0 0, .string ⟨#[]⟩, .string ⟨#[]⟩, .int .i64 0, .slice none 0 0, .slice none 0 0, .int .i64 0, .int .i64 0] zz (by have := HZS.out; simp; omega); generalize ((W.alloc (.cells #[.int .i64 0, .string ⟨#[]⟩, .string ⟨#[]⟩, .string ⟨#[]⟩, .string ⟨#[]⟩, .int .i64 0, .int .i64 0, .string ⟨#[]⟩, .string ⟨#[]⟩, .int .i64 0, .slice none 0 0, .slice none 0 0, .string ⟨#[]⟩, .string ⟨#[]⟩, .int .i64 0, .int .i64 0, .string ⟨#[]⟩, .string ⟨#[]⟩, .string ⟨#[]⟩, .string ⟨#[]⟩, .int .i64 0, .slice none 0 0, .slice none 0 0, .string ⟨#[]⟩, .string ⟨#[]⟩, .int .i64 0, .slice none 0 0, .slice none 0 0, .int .i64 0, .int .i64 0] 39)).setCells W.heap.size 0 zz.toList) = V at hV ⊢; have HPB := Lib.hid (show Blk V W.heap.size 39 #[.int .i64 0, .string ⟨#[]⟩, .string ⟨#[]⟩, .string ⟨#[]⟩, .string ⟨#[]⟩, .int .i64 0, .int .i64 0, .string ⟨#[]⟩, .string ⟨#[]⟩, .int .i64 0, .slice none 0 0, .slice none 0 0, .string ⟨#[]⟩, .string ⟨#[]⟩, .int .i64 0, .int .i64 0, .string ⟨#[]⟩, .string ⟨#[]⟩, .string ⟨#[]⟩, .string ⟨#[]⟩, .int .i64 0, .slice none 0 0, .slice none 0 0, .string ⟨#[]⟩, .string ⟨#[]⟩, .int .i64 0, .slice none 0 0, .slice none 0 0, .int .i64 0, .int .i64 0] from EZ.out ▸ hV.1); have HPZ := Lib.hid hV.1; have HVS := Lib.hid (show W.heap.size < V.heap.size from hV.1.lt); replace HR := Lib.hid (HR.out.below hV.2); replace HG := Lib.hid (HG.out.trans (hV.2.mono HG.out.size)); clear hV; have q1 := HRC.out _ (HG.out.alloc HG.out.size (.cells #[.slice (some ⟨bb, oo, none⟩) (r.length + 1) c, .bool false] 100)); have HG0 := Lib.hid HG.out.size)
    | (go_at_call 45; have hcb := Blk.new V 100 #[.slice (some ⟨bb, oo, none⟩) (r.length + 1) c, .bool false]; have HC := Lib.hid (show RC (V.alloc (.cells #[.slice (some ⟨bb, oo, none⟩) (r.length + 1) c, .bool false] 100)) w.heap.size V.heap.size (some (t :: r)) from ⟨_, _, c, false, hcb, rfl, rfl, HLC.out, HRD.out _ (HG.out.alloc HG.out.size _)⟩); replace HG := Lib.hid (HG.out.alloc HG.out.size (.cells #[.slice (some ⟨bb, oo, none⟩) (r.length + 1) c, .bool false] 100)); replace HR := Lib.hid (HR.out.alloc (.cells #[.slice (some ⟨bb, oo, none⟩) (r.length + 1) c, .bool false] 100)); replace HPB := Lib.hid (HPB.out.alloc (.cells #[.slice (some ⟨bb, oo, none⟩) (r.length + 1) c, .bool false] 100)); replace HPZ := Lib.hid (HPZ.out.alloc (.cells #[.slice (some ⟨bb, oo, none⟩) (r.length + 1) c, .bool false] 100)); clear hcb; refine Calls.mono (c1.out _ _ HC.out HG.out.size HG0.out) ?_; rintro e w2 ⟨⟨gd, rfl, hgd, hd⟩, hc2, hg2⟩; clear c1 HC; have HD := Lib.hid hd; have HGD := Lib.hid (show V.heap.size + 1 ≤ gd by simpa using hgd); have HDL := Lib.hid (rc_lt hd); replace HPB := Lib.hid (HPB.out.grown hg2 (by intro e; injection e with e; have := HVS.out; omega)); replace HPZ := Lib.hid (HPZ.out.grown hg2 (by intro e; injection e with e; have := HVS.out; omega)); replace HR := Lib.hid (HR.out.grown hg2 (by intro e; injection e with e; have := HVS.out; have := HWS.out; omega)); replace HG := Lib.hid (below_g HG.out hg2 HG.out.size HG0.out); clear hgd hd hc2 hg2; have q0 := HRC.out _ HG.out; have k9 : w2.cell? ⟨W.heap.size, 0, none⟩ = some (.int .i64 0) := HPB.out.cell 0; have f9 := HPB.out.frozen 0)
    | (refine load_cells (by rfl) 39 (.tmp 4) (by rfl) W.heap.size 0 (by rfl) zz _ (range_blk HPZ.out) Tryz.underlying39 (by rfl) HZI.out ?_)
    | (refine wpList_store_mid (by rfl) 39 (.tmp 2) (.tmp 25) (by rfl) w.heap.size 0 zz (by rfl) (by rfl) (there_blk HR.out _ (Nat.le_refl _)) HZI.out HZO.out ?_)
    | fail)
  have hE := blk_cells (ds := zz) HR.out rfl
  have hp := put_cells w2 w.heap.size zz.toList
  have hq := load_blk (P := Tryz.prog) hE Tryz.underlying39 rfl HZI.out
  refine bodyPost_ret (v := .tuple #[.agg zz, .int .i64 2]) ?_ ?_ ?_
  · exact results_pair (v := .agg zz) 2 3 39 ⟨w.heap.size, 0, none⟩ Tryz.results12 rfl hq rfl
  · rfl
  have hB := below_g HG.out hp HG.out.size (Nat.le_refl _)
  refine ⟨_, by rw [IE.out], ?_, hB⟩
  rw [GE.out]
  exact HZM.out _ _
end Go.Proofs.YteeabfplnaknfaaGreat.Mc
end

section
set_option linter.unusedVariables false
set_option linter.unusedSimpArgs false
namespace Go.Proofs.YteeabfplnaknfaaGreat.Mc
open Go.RowKit Go.Proofs.YteeabfplnaknfaaGreat.Mem Go.Proofs.YteeabfplnaknfaaGreat.DerP Go.Proofs.YteeabfplnaknfaaGreat.Ms

theorem kn_form : mgO ⟨5, as0, tg0, re0, ap0, ⟨3, 1⟩⟩ = some [126, 6, 2, 1, 3, 2, 1, 1] := by decide +kernel
theorem kn_sm : mSm ⟨5, as0, tg0, re0, ap0, ⟨3, 1⟩⟩ := ⟨⟨⟨by decide, by decide⟩, ⟨by decide, by decide⟩⟩, ⟨⟨by decide, by decide⟩, ⟨by decide, by decide⟩⟩, ⟨⟨by decide, by decide⟩, ⟨by decide, by decide⟩⟩, ⟨by decide, by decide⟩⟩
set_option maxHeartbeats 3200000 in
set_option maxRecDepth 10000 in
theorem known_any (w : World) : Calls Tryz.prog 15 #[] w fun e w' => e = .returned (.bool true) ∧ Below w.heap.size w w' := by
  have HF : FaV #[.int .i64 3, .int .i64 1] ⟨3, 1⟩ := rfl
  have HB := Lib.hid (built_fa HF)
  have HV : MgV w w.heap.size (mgA 5 zA zT zR zP #[.int .i64 3, .int .i64 1]) ⟨5, as0, tg0, re0, ap0, ⟨3, 1⟩⟩ := ⟨_, _, _, _, _, rfl, ⟨zA_v, zT_v w _, zR_v w _, zP_v w _, HF⟩⟩
  have EN := enc_any _ _ w HV kn_sm
  rw [kn_form] at EN
  clear HF HV
  obtain ⟨ds, eds⟩ : ∃ ds, ds = mgA 5 zA zT zR zP #[.int .i64 3, .int .i64 1] := ⟨_, rfl⟩
  rw [← eds] at HB EN
  clear eds
  go_enter Tryz.func15, Tryz.ntmps15
  go_wp2_with (first
    | (refine wpList_built (by rfl) 39 #[(0, .const (.int .i64 5)), (5, .tmp 4)] (by rfl) ds (by simp only [List.map_toArray, List.map_cons, List.map_nil]; exact HB.out) ?_)
    | (go_at_call 9; refine Calls.mono EN ?_; rintro e we ⟨⟨v, i, rfl, hn, hsm⟩, hb⟩; obtain ⟨rfl, gx, cx, rfl, hgx, hcx, hrx⟩ := hsm _ rfl; have H := Lib.hid hb; clear EN hb hn hsm; have hcv1 := run_bytes_str (P := Tryz.prog) we 26 5 Tryz.underlying26 Tryz.underlying5 hrx 8 cx rfl 9 Tryz.underlying9)
    | fail)
  go_ret
  exact ⟨rfl, H.out⟩
end Go.Proofs.YteeabfplnaknfaaGreat.Mc
end
