/-
  The walk of MsgTells.
-/
import Derived.Test.YteeabfplnaknfaaGreatZA24
import Derived.Test.YteeabfplnaknfaaGreatZMcSize
import Derived.Test.YteeabfplnaknfaaGreatZMcSame2
set_option linter.unusedVariables false
set_option linter.unusedSimpArgs false
namespace Go.Proofs.YteeabfplnaknfaaGreat.Mc
open Go.RowKit Go.Proofs.YteeabfplnaknfaaGreat.Mem Go.Proofs.YteeabfplnaknfaaGreat.DerP Go.Proofs.YteeabfplnaknfaaGreat.Ms

theorem sz_sm {m : Mg} (h0 : sizeI m ≤ 5000) : mSm m := by
  have h : ((((((((((m.aq.c.1.length : Int) + (m.aq.c.2.length : Int)) + ((m.aq.s.1.length : Int) + (m.aq.s.2.length : Int))) + ((m.tg.t.s.1.length : Int) + (m.tg.t.s.2.length : Int) + (m.tg.t.b.length : Int))) + (m.tg.a.length : Int)) + ((m.tg.s.1.length : Int) + (m.tg.s.2.length : Int))) + ((m.re.c.1.length : Int) + (m.re.c.2.length : Int))) + ((m.re.t.s.1.length : Int) + (m.re.t.s.2.length : Int) + (m.re.t.b.length : Int))) + (m.re.b.length : Int)) + ((m.ap.t.s.1.length : Int) + (m.ap.t.s.2.length : Int) + (m.ap.t.b.length : Int))) + (m.ap.a.length : Int) ≤ 5000 := h0
  exact ⟨⟨⟨by omega, by omega⟩, ⟨by omega, by omega⟩⟩, ⟨⟨by omega, by omega⟩, ⟨by omega, by omega⟩⟩, ⟨⟨by omega, by omega⟩, ⟨by omega, by omega⟩⟩, ⟨by omega, by omega⟩⟩
theorem rsame8_self (cs ds : Array Value) (m : Mg) (w : World) (h : MgV w w.heap.size cs m) (g : MgV w w.heap.size ds m) : Calls Tryz.prog 13 #[.agg cs, .agg ds] w fun e w' => e = .returned (.bool true) ∧ Below w.heap.size w w' := by
  have h2 := rsame8_any cs ds m m w h g
  rwa [decide_eq_true (rfl : nm m = nm m)] at h2
theorem same_self (cs ds : Array Value) (m : Mg) (w : World) (h : MgV w w.heap.size cs m) (g : MgV w w.heap.size ds m) : Calls Tryz.prog 14 #[.agg cs, .agg ds] w fun e w' => e = .returned (.bool true) ∧ Below w.heap.size w w' := by
  have h2 := same_any cs ds m m w h g
  rwa [decide_eq_true (rfl : nm m = nm m)] at h2
theorem mgv_size {w : World} {B : Nat} {cs : Array Value} {m : Mg} (h : MgV w B cs m) : cs.size = 30 := by obtain ⟨pa, pt, pr, pp, pf, h1, h2⟩ := h; rw [h1]; exact h2.size _
theorem mgv_one {w : World} {B : Nat} {cs : Array Value} {m : Mg} (h : MgV w B cs m) : cs.all (·.oneCell') = true := by obtain ⟨pa, pt, pr, pp, pf, h1, h2⟩ := h; rw [h1]; exact h2.one _
theorem blk_at7 (w : World) (g : Nat) (t : TypeId) (cs : Array Value) (hg : w.heap.size = g) : Blk (w.alloc (.cells cs t)) g t cs := hg ▸ Blk.new w t cs
set_option maxHeartbeats 25600000 in
set_option maxRecDepth 10000 in
theorem tells_ (m o : Mg) (cs ds : Array Value) (A : Option Addr) (b : L) (c : Nat) (w : World) (hm : MgV w w.heap.size cs m) (ho : MgV w w.heap.size ds o) (z1 : SzM m) (z2 : SzM o) (hr : Rd w w.heap.size A (bvs b)) (hc : b.length ≤ c) :
    Calls Tryz.prog 3 #[.agg cs, .agg ds, .slice A b.length c] w fun e w' => e = .returned (.bool true) ∧ Below w.heap.size w w' := by
  have CI := Lib.hid (show (Tryz.prog.info? 39).map (·.size) = some cs.size by rw [mgv_size hm]; exact mg_info)
  have DI := Lib.hid (show (Tryz.prog.info? 39).map (·.size) = some ds.size by rw [mgv_size ho]; exact mg_info)
  have S1 := Lib.hid (fun w1 => size_any cs m w1 w _ hm z1)
  have S2 := Lib.hid (fun w1 => size_any ds o w1 w _ ho z2)
  have hb3 : Below w.heap.size w ((w.alloc (.cells cs 39)).alloc (.cells ds 39)) := ((Below.refl w.heap.size w).alloc (Nat.le_refl _) _).alloc (by simp) _
  have HX := Lib.hid (show Blk ((w.alloc (.cells cs 39)).alloc (.cells ds 39)) w.heap.size 39 cs from (blk_at7 _ _ _ _ rfl).alloc _)
  have HY := Lib.hid (show Blk ((w.alloc (.cells cs 39)).alloc (.cells ds 39)) (w.heap.size + 1) 39 ds from blk_at7 _ _ _ _ (by simp))
  have VM := Lib.hid ((hm.keep hb3).more hb3.size); have VO := Lib.hid ((ho.keep hb3).more hb3.size); have HR := Lib.hid (rd_on hr hb3); have HG := Lib.hid hb3
  have HSM := Lib.hid (fun h => sz_sm (m := m) h)
  obtain ⟨s1, es1⟩ : ∃ s : Int, s = sizeI m := ⟨_, rfl⟩
  obtain ⟨s2, es2⟩ : ∃ s : Int, s = sizeI o := ⟨_, rfl⟩
  rw [← es1] at S1 HSM; rw [← es2] at S2
  clear hb3 hr hm ho z1 z2 es1 es2
  have HC := Lib.hid hc; clear hc
  by_cases q1 : 5000 < s1
  · have t1 : decide ((5000 : Int) < s1) = true := decide_eq_true q1
    clear q1 S2 HSM
    go_enter Tryz.func3, Tryz.ntmps3
    go_upto_region 1 with fail
    generalize ((w.alloc (.cells cs 39)).alloc (.cells ds 39)) = W at HX HY VM VO HR HG ⊢
    go_wp2_with (first
      | (refine load_g (by rfl) 39 (.tmp 3) (by rfl) (w.heap.size) 0 (by rfl) cs _ (range_blk HX.out) Tryz.underlying39 (by rfl) CI.out ?_)
      | (go_at_call 8; refine Calls.mono (S1.out _) ?_; rintro e ws1 ⟨rfl, hb⟩; clear S1; replace HX := Lib.hid (HX.out.below hb); replace HY := Lib.hid (HY.out.below hb); replace HR := Lib.hid (rd_on HR.out hb); replace VM := Lib.hid ((VM.out.keep hb).more hb.size); replace VO := Lib.hid ((VO.out.keep hb).more hb.size); replace HG := Lib.hid (HG.out.trans (hb.mono HG.out.size)); clear hb)
      | fail)
    go_ret
    exact ⟨rfl, HG.out⟩
  have t1 : decide ((5000 : Int) < s1) = false := decide_eq_false q1
  have HM := Lib.hid (HSM.out (by omega)); clear q1 HSM
  by_cases q2 : 5000 < s2
  · have t2 : decide ((5000 : Int) < s2) = true := decide_eq_true q2
    clear q2
    go_enter Tryz.func3, Tryz.ntmps3
    go_upto_region 1 with fail
    generalize ((w.alloc (.cells cs 39)).alloc (.cells ds 39)) = W at HX HY VM VO HR HG ⊢
    go_wp2_with (first
      | (refine load_g (by rfl) 39 (.tmp 3) (by rfl) (w.heap.size) 0 (by rfl) cs _ (range_blk HX.out) Tryz.underlying39 (by rfl) CI.out ?_)
      | (go_at_call 8; refine Calls.mono (S1.out _) ?_; rintro e ws1 ⟨rfl, hb⟩; clear S1; replace HX := Lib.hid (HX.out.below hb); replace HY := Lib.hid (HY.out.below hb); replace HR := Lib.hid (rd_on HR.out hb); replace VM := Lib.hid ((VM.out.keep hb).more hb.size); replace VO := Lib.hid ((VO.out.keep hb).more hb.size); replace HG := Lib.hid (HG.out.trans (hb.mono HG.out.size)); clear hb)
      | (refine load_g (by rfl) 39 (.tmp 4) (by rfl) (w.heap.size + 1) 0 (by rfl) ds _ (range_blk HY.out) Tryz.underlying39 (by rfl) DI.out ?_)
      | (go_at_call 8; refine Calls.mono (S2.out _) ?_; rintro e ws2 ⟨rfl, hb⟩; clear S2; replace HX := Lib.hid (HX.out.below hb); replace HY := Lib.hid (HY.out.below hb); replace HR := Lib.hid (rd_on HR.out hb); replace VM := Lib.hid ((VM.out.keep hb).more hb.size); replace VO := Lib.hid ((VO.out.keep hb).more hb.size); replace HG := Lib.hid (HG.out.trans (hb.mono HG.out.size)); clear hb)
      | fail)
    go_ret
    exact ⟨rfl, HG.out⟩
  have t2 : decide ((5000 : Int) < s2) = false := decide_eq_false q2
  clear q2
  by_cases q3 : 3000 < b.length
  · have t3 : decide ((3000 : Int) < (b.length : Int)) = true := decide_eq_true (by omega)
    clear q3
    go_enter Tryz.func3, Tryz.ntmps3
    go_upto_region 1 with fail
    generalize ((w.alloc (.cells cs 39)).alloc (.cells ds 39)) = W at HX HY VM VO HR HG ⊢
    go_wp2_with (first
      | (refine load_g (by rfl) 39 (.tmp 3) (by rfl) (w.heap.size) 0 (by rfl) cs _ (range_blk HX.out) Tryz.underlying39 (by rfl) CI.out ?_)
      | (go_at_call 8; refine Calls.mono (S1.out _) ?_; rintro e ws1 ⟨rfl, hb⟩; clear S1; replace HX := Lib.hid (HX.out.below hb); replace HY := Lib.hid (HY.out.below hb); replace HR := Lib.hid (rd_on HR.out hb); replace VM := Lib.hid ((VM.out.keep hb).more hb.size); replace VO := Lib.hid ((VO.out.keep hb).more hb.size); replace HG := Lib.hid (HG.out.trans (hb.mono HG.out.size)); clear hb)
      | (refine load_g (by rfl) 39 (.tmp 4) (by rfl) (w.heap.size + 1) 0 (by rfl) ds _ (range_blk HY.out) Tryz.underlying39 (by rfl) DI.out ?_)
      | (go_at_call 8; refine Calls.mono (S2.out _) ?_; rintro e ws2 ⟨rfl, hb⟩; clear S2; replace HX := Lib.hid (HX.out.below hb); replace HY := Lib.hid (HY.out.below hb); replace HR := Lib.hid (rd_on HR.out hb); replace VM := Lib.hid ((VM.out.keep hb).more hb.size); replace VO := Lib.hid ((VO.out.keep hb).more hb.size); replace HG := Lib.hid (HG.out.trans (hb.mono HG.out.size)); clear hb)
      | fail)
    go_ret
    exact ⟨rfl, HG.out⟩
  have t3 : decide ((3000 : Int) < (b.length : Int)) = false := decide_eq_false (by omega)
  have HL := Lib.hid (show b.length ≤ 3000 by omega); clear q3
  have E1 := Lib.hid (fun w1 h => (enc_any cs m w1 h HM.out).mono fun e w' h => enc_str h)
  have E2 := Lib.hid (fun w1 h => (renc8_v cs m w1 h HM.out).mono fun e w' h => enc_str h)
  obtain ⟨y1, ey1⟩ : ∃ l : L, l = (mgO m).getD [] := ⟨_, rfl⟩
  obtain ⟨i1, ei1⟩ : ∃ i : Int, i = if (mgO m).isSome = true then 0 else 1 := ⟨_, rfl⟩
  rw [← ey1, ← ei1] at E1 E2; clear ey1 ei1
  have D1 := Lib.hid (fun A c w1 (h : Rd w1 w1.heap.size A (bvs b)) => dec_any A b c w1 h)
  have D2 := Lib.hid (fun A c w1 (h : Rd w1 w1.heap.size A (bvs b)) (hc : b.length ≤ c) => rdec8_any b A c w1 h hc (by have := HL.out; omega))
  obtain ⟨j, ej⟩ : ∃ i, i = mgI b := ⟨_, rfl⟩
  obtain ⟨g, eg⟩ : ∃ x, x = mgG b := ⟨_, rfl⟩
  rw [← ej, ← eg] at D1 D2; clear ej eg
  have SAME := Lib.hid (fun w1 h g => same_any cs ds m o w1 h g)
  have RSAME := Lib.hid (fun w1 h g => rsame8_any cs ds m o w1 h g)
  obtain ⟨bb, ebb⟩ : ∃ x, x = decide (nm m = nm o) := ⟨_, rfl⟩
  rw [← ebb] at SAME RSAME; clear ebb
  go_enter Tryz.func3, Tryz.ntmps3
  go_upto_region 1 with fail
  generalize ((w.alloc (.cells cs 39)).alloc (.cells ds 39)) = W at HX HY VM VO HR HG ⊢
  go_upto_region 7 with (first
    | (refine load_g (by rfl) 39 (.tmp 3) (by rfl) (w.heap.size) 0 (by rfl) cs _ (range_blk HX.out) Tryz.underlying39 (by rfl) CI.out ?_)
    | (go_at_call 8; refine Calls.mono (S1.out _) ?_; rintro e ws1 ⟨rfl, hb⟩; clear S1; replace HX := Lib.hid (HX.out.below hb); replace HY := Lib.hid (HY.out.below hb); replace HR := Lib.hid (rd_on HR.out hb); replace VM := Lib.hid ((VM.out.keep hb).more hb.size); replace VO := Lib.hid ((VO.out.keep hb).more hb.size); replace HG := Lib.hid (HG.out.trans (hb.mono HG.out.size)); clear hb)
    | (refine load_g (by rfl) 39 (.tmp 4) (by rfl) (w.heap.size + 1) 0 (by rfl) ds _ (range_blk HY.out) Tryz.underlying39 (by rfl) DI.out ?_)
    | (go_at_call 8; refine Calls.mono (S2.out _) ?_; rintro e ws2 ⟨rfl, hb⟩; clear S2; replace HX := Lib.hid (HX.out.below hb); replace HY := Lib.hid (HY.out.below hb); replace HR := Lib.hid (rd_on HR.out hb); replace VM := Lib.hid ((VM.out.keep hb).more hb.size); replace VO := Lib.hid ((VO.out.keep hb).more hb.size); replace HG := Lib.hid (HG.out.trans (hb.mono HG.out.size)); clear hb)
    | (go_at_call 9; refine Calls.mono (E1.out _ VM.out) ?_; rintro e we1 ⟨A1, c1, rfl, _, hrx, hb⟩; clear E1; replace HX := Lib.hid (HX.out.below hb); replace HY := Lib.hid (HY.out.below hb); replace HR := Lib.hid (rd_on HR.out hb); replace VM := Lib.hid ((VM.out.keep hb).more hb.size); replace VO := Lib.hid ((VO.out.keep hb).more hb.size); replace HG := Lib.hid (HG.out.trans (hb.mono HG.out.size)); clear hb; have SA := Lib.hid hrx; clear hrx)
    | (go_at_call 10; refine Calls.mono (E2.out _ VM.out) ?_; rintro e we2 ⟨A2, c2, rfl, _, hrx, hb⟩; clear E2; replace HX := Lib.hid (HX.out.below hb); replace HY := Lib.hid (HY.out.below hb); replace HR := Lib.hid (rd_on HR.out hb); replace SA := Lib.hid (rd_on SA.out hb); replace VM := Lib.hid ((VM.out.keep hb).more hb.size); replace VO := Lib.hid ((VO.out.keep hb).more hb.size); replace HG := Lib.hid (HG.out.trans (hb.mono HG.out.size)); clear hb; have SB := Lib.hid hrx; clear hrx)
    | (at_builtin; refine app8 (by rfl) (.tmp 39) (.tmp 40) (by rfl) we2.heap.size _ [] (by rfl) (empty8 we2) we2.heap.size _ b.length _ b (by rfl) (by rfl) (HR.out.alloc (Nat.le_refl _) _) (by have := HL.out; simp; omega) (by simp) ?_; intro A4 c4 w4 ho4 hc4 hr4 hb; replace hb := ((Below.refl _ we2).alloc (Nat.le_refl _) _).trans hb; clear ho4 hc4; rw [List.nil_append] at hr4 ⊢; replace HX := Lib.hid (HX.out.below hb); replace HY := Lib.hid (HY.out.below hb); replace HR := Lib.hid (rd_on HR.out hb); replace SA := Lib.hid (rd_on SA.out hb); replace SB := Lib.hid (rd_on SB.out hb); replace VM := Lib.hid ((VM.out.keep hb).more hb.size); replace VO := Lib.hid ((VO.out.keep hb).more hb.size); replace HG := Lib.hid (HG.out.trans (hb.mono HG.out.size)); clear hb; have R4 := Lib.hid hr4; clear hr4)
    | (go_at_call 11; refine Calls.mono (D1.out _ _ _ R4.out) ?_; rintro e wd1 ⟨d1, rfl, ho, hb⟩; clear D1 R4; have d1S := Lib.hid ho.size; have d1O := Lib.hid ho.one; have d1I := Lib.hid (mg_info.trans (congrArg some d1S.out.symm)); replace HX := Lib.hid (HX.out.below hb); replace HY := Lib.hid (HY.out.below hb); replace HR := Lib.hid (rd_on HR.out hb); replace SA := Lib.hid (rd_on SA.out hb); replace SB := Lib.hid (rd_on SB.out hb); replace VM := Lib.hid ((VM.out.keep hb).more hb.size); replace VO := Lib.hid ((VO.out.keep hb).more hb.size); replace HG := Lib.hid (HG.out.trans (hb.mono HG.out.size)); clear hb; have V1 := Lib.hid ho.toV; clear ho)
    | (refine store_new (by rfl) 39 (.tmp 11) (.tmp 43) (by rfl) 39 rfl d1 (by rfl) (by rfl) (by rw [d1S.out]; rfl) d1I.out d1O.out ?_; rintro U1 hV hb; replace HX := Lib.hid (HX.out.below hb); replace HY := Lib.hid (HY.out.below hb); replace HR := Lib.hid (rd_on HR.out hb); replace SA := Lib.hid (rd_on SA.out hb); replace SB := Lib.hid (rd_on SB.out hb); replace VM := Lib.hid ((VM.out.keep hb).more hb.size); replace VO := Lib.hid ((VO.out.keep hb).more hb.size); replace V1 := Lib.hid ((V1.out.keep hb).more hb.size); replace HG := Lib.hid (HG.out.trans (hb.mono HG.out.size)); clear hb; have B1 := Lib.hid hV; clear hV)
    | (go_at_call 12; refine Calls.mono (D2.out _ _ _ HR.out HC.out) ?_; rintro e wd2 ⟨d2, rfl, ho, hb⟩; clear D2; have d2S := Lib.hid (mgv_size ho); have d2O := Lib.hid (mgv_one ho); have d2I := Lib.hid (mg_info.trans (congrArg some d2S.out.symm)); have V2 := Lib.hid (ho.more hb.size); clear ho; replace HX := Lib.hid (HX.out.below hb); replace HY := Lib.hid (HY.out.below hb); replace B1 := Lib.hid (B1.out.below hb); replace HR := Lib.hid (rd_on HR.out hb); replace SA := Lib.hid (rd_on SA.out hb); replace SB := Lib.hid (rd_on SB.out hb); replace VM := Lib.hid ((VM.out.keep hb).more hb.size); replace VO := Lib.hid ((VO.out.keep hb).more hb.size); replace V1 := Lib.hid ((V1.out.keep hb).more hb.size); replace HG := Lib.hid (HG.out.trans (hb.mono HG.out.size)); clear hb)
    | (refine store_new (by rfl) 39 (.tmp 13) (.tmp 48) (by rfl) 39 rfl d2 (by rfl) (by rfl) (by rw [d2S.out]; rfl) d2I.out d2O.out ?_; rintro U2 hV hb; replace HX := Lib.hid (HX.out.below hb); replace HY := Lib.hid (HY.out.below hb); replace B1 := Lib.hid (B1.out.below hb); replace SA := Lib.hid (rd_on SA.out hb); replace SB := Lib.hid (rd_on SB.out hb); replace VM := Lib.hid ((VM.out.keep hb).more hb.size); replace VO := Lib.hid ((VO.out.keep hb).more hb.size); replace V1 := Lib.hid ((V1.out.keep hb).more hb.size); replace V2 := Lib.hid ((V2.out.keep hb).more hb.size); replace HG := Lib.hid (HG.out.trans (hb.mono HG.out.size)); clear hb; have B2 := Lib.hid hV; clear hV HR)
    | fail)
  refine Reg.region_begin 38 rfl (by kernel_rfl) ?_
  have hb : Below U2.heap.size U2 U2.drew := below_drewN (Below.refl _ _) 1
  replace HX := Lib.hid (HX.out.below hb); replace HY := Lib.hid (HY.out.below hb); replace B1 := Lib.hid (B1.out.below hb); replace B2 := Lib.hid (B2.out.below hb); replace SA := Lib.hid (rd_on SA.out hb); replace SB := Lib.hid (rd_on SB.out hb); replace VM := Lib.hid ((VM.out.keep hb).more hb.size); replace VO := Lib.hid ((VO.out.keep hb).more hb.size); replace V1 := Lib.hid ((V1.out.keep hb).more hb.size); replace V2 := Lib.hid ((V2.out.keep hb).more hb.size); replace HG := Lib.hid (HG.out.trans (hb.mono HG.out.size)); clear hb
  refine Reg.take_op 0 (v := ?vq0) rfl (by kernel_rfl) (by kernel_rfl) (by kernel_rfl) (fun _ _ _ h => h) (by rfl) (fun w' hS => ?hq0) ?rq0
  case hq0 => first | (go_simp; done) | (go_simp; rfl) | (go_simp; simp; done)
  simp only [Act.put, List.setIfInBounds_toArray, List.set_cons_zero, List.set_cons_succ]
  refine Reg.take_op 1 (v := .string ⟨y1.toArray⟩) rfl (by kernel_rfl) (by kernel_rfl) (by kernel_rfl) (fun _ _ _ h => h) (by rfl) (fun w' hS => ?hq1) ?rq1
  case hq1 => have q := Reg.since_str Tryz.underlying26 Tryz.underlying5 Tryz.underlying9 (c := c1) SA.out (Nat.le_refl _) rfl w' hS; first | (go_simp; done) | (go_simp; rfl) | (go_simp; simp; done)
  simp only [Act.put, List.setIfInBounds_toArray, List.set_cons_zero, List.set_cons_succ]
  refine Reg.take_op 2 (v := ?vq2) rfl (by kernel_rfl) (by kernel_rfl) (by kernel_rfl) (fun _ _ _ h => h) (by rfl) (fun w' hS => ?hq2) ?rq2
  case hq2 => first | (go_simp; done) | (go_simp; rfl) | (go_simp; simp; done)
  simp only [Act.put, List.setIfInBounds_toArray, List.set_cons_zero, List.set_cons_succ]
  refine Reg.take_op 3 (v := .string ⟨y1.toArray⟩) rfl (by kernel_rfl) (by kernel_rfl) (by kernel_rfl) (fun _ _ _ h => h) (by rfl) (fun w' hS => ?hq3) ?rq3
  case hq3 => have q := Reg.since_str Tryz.underlying26 Tryz.underlying5 Tryz.underlying9 (c := c2) SB.out (Nat.le_refl _) rfl w' hS; first | (go_simp; done) | (go_simp; rfl) | (go_simp; simp; done)
  simp only [Act.put, List.setIfInBounds_toArray, List.set_cons_zero, List.set_cons_succ]
  refine Reg.take_op 4 (v := .bool true) rfl (by kernel_rfl) (by kernel_rfl) (by kernel_rfl) (fun _ _ _ h => h) (by rfl) (fun w' hS => ?hq4) ?rq4
  case hq4 => first | (go_simp; done) | (go_simp; rfl) | (go_simp; simp; done)
  simp only [Act.put, List.setIfInBounds_toArray, List.set_cons_zero, List.set_cons_succ]
  refine Reg.take_op 5 (v := .bool true) rfl (by kernel_rfl) (by kernel_rfl) (by kernel_rfl) (fun _ _ _ h => h) (by rfl) (fun w' hS => ?hq5) ?rq5
  case hq5 => first | (go_simp; done) | (go_simp; rfl) | (go_simp; simp; done)
  simp only [Act.put, List.setIfInBounds_toArray, List.set_cons_zero, List.set_cons_succ]
  refine Reg.take_op 6 (v := ?vq6) rfl (by kernel_rfl) (by kernel_rfl) (by kernel_rfl) (fun _ _ _ h => h) (by rfl) (fun w' hS => ?hq6) ?rq6
  case hq6 => first | (go_simp; done) | (go_simp; rfl) | (go_simp; simp; done)
  simp only [Act.put, List.setIfInBounds_toArray, List.set_cons_zero, List.set_cons_succ]
  refine Reg.take_op 7 (v := ?vq7) rfl (by kernel_rfl) (by kernel_rfl) (by kernel_rfl) (fun _ _ _ h => h) (by rfl) (fun w' hS => ?hq7) ?rq7
  case hq7 => first | (go_simp; done) | (go_simp; rfl) | (go_simp; simp; done)
  simp only [Act.put, List.setIfInBounds_toArray, List.set_cons_zero, List.set_cons_succ]
  refine Reg.take_op 8 (v := .bool true) rfl (by kernel_rfl) (by kernel_rfl) (by kernel_rfl) (fun _ _ _ h => h) (by rfl) (fun w' hS => ?hq8) ?rq8
  case hq8 => first | (go_simp; done) | (go_simp; rfl) | (go_simp; simp; done)
  simp only [Act.put, List.setIfInBounds_toArray, List.set_cons_zero, List.set_cons_succ]
  refine Reg.take_op 9 (v := .bool true) rfl (by kernel_rfl) (by kernel_rfl) (by kernel_rfl) (fun _ _ _ h => h) (by rfl) (fun w' hS => ?hq9) ?rq9
  case hq9 => first | (go_simp; done) | (go_simp; rfl) | (go_simp; simp; done)
  simp only [Act.put, List.setIfInBounds_toArray, List.set_cons_zero, List.set_cons_succ]
  refine Reg.take_op 10 (v := .bool true) rfl (by kernel_rfl) (by kernel_rfl) (by kernel_rfl) (fun _ _ _ h => h) (by rfl) (fun w' hS => ?hq10) ?rq10
  case hq10 => first | (go_simp; done) | (go_simp; rfl) | (go_simp; simp; done)
  simp only [Act.put, List.setIfInBounds_toArray, List.set_cons_zero, List.set_cons_succ]
  refine Reg.take_op 11 (v := .agg d1) rfl (by kernel_rfl) (by kernel_rfl) (by kernel_rfl) (fun _ _ _ h => h) (by rfl) (fun w' hS => exec_load (.tmp 11) rfl rfl (B1.out.below hS) Tryz.underlying39 rfl d1I.out) ?_
  simp only [Act.put, List.setIfInBounds_toArray, List.set_cons_zero, List.set_cons_succ]
  refine Reg.take_op 12 (v := .agg d2) rfl (by kernel_rfl) (by kernel_rfl) (by kernel_rfl) (fun _ _ _ h => h) (by rfl) (fun w' hS => exec_load (.tmp 13) rfl rfl (B2.out.below hS) Tryz.underlying39 rfl d2I.out) ?_
  simp only [Act.put, List.setIfInBounds_toArray, List.set_cons_zero, List.set_cons_succ]
  refine Reg.call_op 13 rfl (by kernel_rfl) (by rfl) 13 #[.agg d1, .agg d2] (by go_simp) ?_
  refine Calls.mono (rsame8_self _ _ _ _ V1.out V2.out) ?_
  rintro e wr1 ⟨rfl, hb⟩
  refine ⟨_, rfl, hb, ?_⟩
  replace HX := Lib.hid (HX.out.below hb); replace HY := Lib.hid (HY.out.below hb); replace B1 := Lib.hid (B1.out.below hb); replace B2 := Lib.hid (B2.out.below hb); replace SA := Lib.hid (rd_on SA.out hb); replace SB := Lib.hid (rd_on SB.out hb); replace VM := Lib.hid ((VM.out.keep hb).more hb.size); replace VO := Lib.hid ((VO.out.keep hb).more hb.size); replace V1 := Lib.hid ((V1.out.keep hb).more hb.size); replace V2 := Lib.hid ((V2.out.keep hb).more hb.size); replace HG := Lib.hid (HG.out.trans (hb.mono HG.out.size)); clear hb
  simp only [Act.put, List.setIfInBounds_toArray, List.set_cons_zero, List.set_cons_succ]
  refine Reg.take_op 14 (v := .bool true) rfl (by kernel_rfl) (by kernel_rfl) (by kernel_rfl) (fun _ _ _ h => h) (by rfl) (fun w' hS => ?hq14) ?rq14
  case hq14 => first | (go_simp; done) | (go_simp; rfl) | (go_simp; simp; done)
  simp only [Act.put, List.setIfInBounds_toArray, List.set_cons_zero, List.set_cons_succ]
  refine Reg.take_op 15 (v := .bool true) rfl (by kernel_rfl) (by kernel_rfl) (by kernel_rfl) (fun _ _ _ h => h) (by rfl) (fun w' hS => ?hq15) ?rq15
  case hq15 => first | (go_simp; done) | (go_simp; rfl) | (go_simp; simp; done)
  simp only [Act.put, List.setIfInBounds_toArray, List.set_cons_zero, List.set_cons_succ]
  refine Reg.take_op 16 (v := ?vq16) rfl (by kernel_rfl) (by kernel_rfl) (by kernel_rfl) (fun _ _ _ h => h) (by rfl) (fun w' hS => ?hq16) ?rq16
  case hq16 => first | (go_simp; done) | (go_simp; rfl) | (go_simp; simp; done)
  simp only [Act.put, List.setIfInBounds_toArray, List.set_cons_zero, List.set_cons_succ]
  refine Reg.take_op 17 (v := ?vq17) rfl (by kernel_rfl) (by kernel_rfl) (by kernel_rfl) (fun _ _ _ h => h) (by rfl) (fun w' hS => ?hq17) ?rq17
  case hq17 => first | (go_simp; done) | (go_simp; rfl) | (go_simp; simp; done)
  simp only [Act.put, List.setIfInBounds_toArray, List.set_cons_zero, List.set_cons_succ]
  refine Reg.take_op 18 (v := .bool true) rfl (by kernel_rfl) (by kernel_rfl) (by kernel_rfl) (fun _ _ _ h => h) (by rfl) (fun w' hS => ?hq18) ?rq18
  case hq18 => first | (go_simp; done) | (go_simp; rfl) | (go_simp; simp; done)
  simp only [Act.put, List.setIfInBounds_toArray, List.set_cons_zero, List.set_cons_succ]
  refine Reg.take_op 19 (v := .bool true) rfl (by kernel_rfl) (by kernel_rfl) (by kernel_rfl) (fun _ _ _ h => h) (by rfl) (fun w' hS => ?hq19) ?rq19
  case hq19 => first | (go_simp; done) | (go_simp; rfl) | (go_simp; simp; done)
  simp only [Act.put, List.setIfInBounds_toArray, List.set_cons_zero, List.set_cons_succ]
  refine Reg.take_op 20 (v := .bool true) rfl (by kernel_rfl) (by kernel_rfl) (by kernel_rfl) (fun _ _ _ h => h) (by rfl) (fun w' hS => ?hq20) ?rq20
  case hq20 => first | (go_simp; done) | (go_simp; rfl) | (go_simp; simp; done)
  simp only [Act.put, List.setIfInBounds_toArray, List.set_cons_zero, List.set_cons_succ]
  refine Reg.take_op 21 (v := .agg cs) rfl (by kernel_rfl) (by kernel_rfl) (by kernel_rfl) (fun _ _ _ h => h) (by rfl) (fun w' hS => exec_load (.tmp 3) rfl rfl (HX.out.below hS) Tryz.underlying39 rfl CI.out) ?_
  simp only [Act.put, List.setIfInBounds_toArray, List.set_cons_zero, List.set_cons_succ]
  refine Reg.take_op 22 (v := .agg ds) rfl (by kernel_rfl) (by kernel_rfl) (by kernel_rfl) (fun _ _ _ h => h) (by rfl) (fun w' hS => exec_load (.tmp 4) rfl rfl (HY.out.below hS) Tryz.underlying39 rfl DI.out) ?_
  simp only [Act.put, List.setIfInBounds_toArray, List.set_cons_zero, List.set_cons_succ]
  refine Reg.take_op 24 (v := .agg cs) rfl (by kernel_rfl) (by kernel_rfl) (by kernel_rfl) (fun _ _ _ h => h) (by rfl) (fun w' hS => exec_load (.tmp 3) rfl rfl (HX.out.below hS) Tryz.underlying39 rfl CI.out) ?_
  simp only [Act.put, List.setIfInBounds_toArray, List.set_cons_zero, List.set_cons_succ]
  refine Reg.take_op 25 (v := .agg ds) rfl (by kernel_rfl) (by kernel_rfl) (by kernel_rfl) (fun _ _ _ h => h) (by rfl) (fun w' hS => exec_load (.tmp 4) rfl rfl (HY.out.below hS) Tryz.underlying39 rfl DI.out) ?_
  simp only [Act.put, List.setIfInBounds_toArray, List.set_cons_zero, List.set_cons_succ]
  refine Reg.call_op 23 rfl (by kernel_rfl) (by rfl) 14 #[.agg cs, .agg ds] (by go_simp) ?_
  refine Calls.mono (SAME.out _ VM.out VO.out) ?_
  rintro e wr2 ⟨rfl, hb⟩
  refine ⟨_, rfl, hb, ?_⟩
  replace HX := Lib.hid (HX.out.below hb); replace HY := Lib.hid (HY.out.below hb); replace B1 := Lib.hid (B1.out.below hb); replace B2 := Lib.hid (B2.out.below hb); replace SA := Lib.hid (rd_on SA.out hb); replace SB := Lib.hid (rd_on SB.out hb); replace VM := Lib.hid ((VM.out.keep hb).more hb.size); replace VO := Lib.hid ((VO.out.keep hb).more hb.size); replace V1 := Lib.hid ((V1.out.keep hb).more hb.size); replace V2 := Lib.hid ((V2.out.keep hb).more hb.size); replace HG := Lib.hid (HG.out.trans (hb.mono HG.out.size)); clear hb
  simp only [Act.put, List.setIfInBounds_toArray, List.set_cons_zero, List.set_cons_succ]
  refine Reg.call_op 26 rfl (by kernel_rfl) (by rfl) 13 #[.agg cs, .agg ds] (by go_simp) ?_
  refine Calls.mono (RSAME.out _ VM.out VO.out) ?_
  rintro e wr3 ⟨rfl, hb⟩
  refine ⟨_, rfl, hb, ?_⟩
  replace HX := Lib.hid (HX.out.below hb); replace HY := Lib.hid (HY.out.below hb); replace B1 := Lib.hid (B1.out.below hb); replace B2 := Lib.hid (B2.out.below hb); replace SA := Lib.hid (rd_on SA.out hb); replace SB := Lib.hid (rd_on SB.out hb); replace VM := Lib.hid ((VM.out.keep hb).more hb.size); replace VO := Lib.hid ((VO.out.keep hb).more hb.size); replace V1 := Lib.hid ((V1.out.keep hb).more hb.size); replace V2 := Lib.hid ((V2.out.keep hb).more hb.size); replace HG := Lib.hid (HG.out.trans (hb.mono HG.out.size)); clear hb
  simp only [Act.put, List.setIfInBounds_toArray, List.set_cons_zero, List.set_cons_succ]
  refine Reg.take_op 27 (v := .bool true) rfl (by kernel_rfl) (by kernel_rfl) (by kernel_rfl) (fun _ _ _ h => h) (by rfl) (fun w' hS => ?hq27) ?rq27
  case hq27 => first | (go_simp; done) | (go_simp; rfl) | (go_simp; simp; done)
  simp only [Act.put, List.setIfInBounds_toArray, List.set_cons_zero, List.set_cons_succ]
  refine Reg.take_op 28 (v := .bool true) rfl (by kernel_rfl) (by kernel_rfl) (by kernel_rfl) (fun _ _ _ h => h) (by rfl) (fun w' hS => ?hq28) ?rq28
  case hq28 => first | (go_simp; done) | (go_simp; rfl) | (go_simp; simp; done)
  simp only [Act.put, List.setIfInBounds_toArray, List.set_cons_zero, List.set_cons_succ]
  refine Reg.take_op 29 (v := .bool true) rfl (by kernel_rfl) (by kernel_rfl) (by kernel_rfl) (fun _ _ _ h => h) (by rfl) (fun w' hS => ?hq29) ?rq29
  case hq29 => first | (go_simp; done) | (go_simp; rfl) | (go_simp; simp; done)
  simp only [Act.put, List.setIfInBounds_toArray, List.set_cons_zero, List.set_cons_succ]
  refine Reg.take_op 30 (v := .agg cs) rfl (by kernel_rfl) (by kernel_rfl) (by kernel_rfl) (fun _ _ _ h => h) (by rfl) (fun w' hS => exec_load (.tmp 3) rfl rfl (HX.out.below hS) Tryz.underlying39 rfl CI.out) ?_
  simp only [Act.put, List.setIfInBounds_toArray, List.set_cons_zero, List.set_cons_succ]
  refine Reg.take_op 31 (v := .agg cs) rfl (by kernel_rfl) (by kernel_rfl) (by kernel_rfl) (fun _ _ _ h => h) (by rfl) (fun w' hS => exec_load (.tmp 3) rfl rfl (HX.out.below hS) Tryz.underlying39 rfl CI.out) ?_
  simp only [Act.put, List.setIfInBounds_toArray, List.set_cons_zero, List.set_cons_succ]
  refine Reg.call_op 32 rfl (by kernel_rfl) (by rfl) 14 #[.agg cs, .agg cs] (by go_simp) ?_
  refine Calls.mono (same_self _ _ _ _ VM.out VM.out) ?_
  rintro e wr4 ⟨rfl, hb⟩
  refine ⟨_, rfl, hb, ?_⟩
  replace HX := Lib.hid (HX.out.below hb); replace HY := Lib.hid (HY.out.below hb); replace B1 := Lib.hid (B1.out.below hb); replace B2 := Lib.hid (B2.out.below hb); replace SA := Lib.hid (rd_on SA.out hb); replace SB := Lib.hid (rd_on SB.out hb); replace VM := Lib.hid ((VM.out.keep hb).more hb.size); replace VO := Lib.hid ((VO.out.keep hb).more hb.size); replace V1 := Lib.hid ((V1.out.keep hb).more hb.size); replace V2 := Lib.hid ((V2.out.keep hb).more hb.size); replace HG := Lib.hid (HG.out.trans (hb.mono HG.out.size)); clear hb
  simp only [Act.put, List.setIfInBounds_toArray, List.set_cons_zero, List.set_cons_succ]
  refine Reg.take_op 33 (v := .bool true) rfl (by kernel_rfl) (by kernel_rfl) (by kernel_rfl) (fun _ _ _ h => h) (by rfl) (fun w' hS => ?hq33) ?rq33
  case hq33 => first | (go_simp; done) | (go_simp; rfl) | (go_simp; simp; done)
  simp only [Act.put, List.setIfInBounds_toArray, List.set_cons_zero, List.set_cons_succ]
  refine Reg.take_op 34 (v := .bool true) rfl (by kernel_rfl) (by kernel_rfl) (by kernel_rfl) (fun _ _ _ h => h) (by rfl) (fun w' hS => ?hq34) ?rq34
  case hq34 => first | (go_simp; done) | (go_simp; rfl) | (go_simp; simp; done)
  simp only [Act.put, List.setIfInBounds_toArray, List.set_cons_zero, List.set_cons_succ]
  refine Reg.call_op 35 rfl (by kernel_rfl) (by rfl) 15 #[] (by go_simp) ?_
  refine Calls.mono (known_any _) ?_
  rintro e wr5 ⟨rfl, hb⟩
  refine ⟨_, rfl, hb, ?_⟩
  replace HX := Lib.hid (HX.out.below hb); replace HY := Lib.hid (HY.out.below hb); replace B1 := Lib.hid (B1.out.below hb); replace B2 := Lib.hid (B2.out.below hb); replace SA := Lib.hid (rd_on SA.out hb); replace SB := Lib.hid (rd_on SB.out hb); replace VM := Lib.hid ((VM.out.keep hb).more hb.size); replace VO := Lib.hid ((VO.out.keep hb).more hb.size); replace V1 := Lib.hid ((V1.out.keep hb).more hb.size); replace V2 := Lib.hid ((V2.out.keep hb).more hb.size); replace HG := Lib.hid (HG.out.trans (hb.mono HG.out.size)); clear hb
  simp only [Act.put, List.setIfInBounds_toArray, List.set_cons_zero, List.set_cons_succ]
  refine Reg.take_op 36 (v := .bool true) rfl (by kernel_rfl) (by kernel_rfl) (by kernel_rfl) (fun _ _ _ h => h) (by rfl) (fun w' hS => ?hq36) ?rq36
  case hq36 => first | (go_simp; done) | (go_simp; rfl) | (go_simp; simp; done)
  simp only [Act.put, List.setIfInBounds_toArray, List.set_cons_zero, List.set_cons_succ]
  refine Reg.take_op 37 (v := .bool true) rfl (by kernel_rfl) (by kernel_rfl) (by kernel_rfl) (fun _ _ _ h => h) (by rfl) (fun w' hS => ?hq37) ?rq37
  case hq37 => first | (go_simp; done) | (go_simp; rfl) | (go_simp; simp; done)
  simp only [Act.put, List.setIfInBounds_toArray, List.set_cons_zero, List.set_cons_succ]
  refine wpAnyH_done (by kernel_rfl) ?_ _
  go_wp2
  go_ret
  exact ⟨rfl, HG.out⟩
end Go.Proofs.YteeabfplnaknfaaGreat.Mc
