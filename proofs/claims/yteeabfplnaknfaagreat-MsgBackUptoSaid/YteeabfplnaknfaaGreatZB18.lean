import Derived.Deep.LoopGhost
import Derived.Test.YteeabfplnaknfaaGreatZB1
import Derived.Test.YteeabfplnaknfaaGreatZB2
import Derived.Test.YteeabfplnaknfaaGreatZB3
import Derived.Test.YteeabfplnaknfaaGreatZB4
import Derived.Test.YteeabfplnaknfaaGreatZB5
import Derived.Test.YteeabfplnaknfaaGreatZB6
import Derived.Test.YteeabfplnaknfaaGreatZB7
import Derived.Test.YteeabfplnaknfaaGreatZB9
import Derived.Test.YteeabfplnaknfaaGreatZB10
import Derived.Test.YteeabfplnaknfaaGreatZB11
import Derived.Test.YteeabfplnaknfaaGreatZB12
import Derived.Test.YteeabfplnaknfaaGreatZB13
import Derived.Test.YteeabfplnaknfaaGreatZB14
import Derived.Test.YteeabfplnaknfaaGreatZB15
import Derived.Test.YteeabfplnaknfaaGreatZB16
import Derived.Test.YteeabfplnaknfaaGreatZB17
section
set_option linter.unusedVariables false
set_option linter.unusedSimpArgs false
namespace Go.Proofs.YteeabfplnaknfaaGreat.Mc
open Go.RowKit Go.Proofs.YteeabfplnaknfaaGreat.Mem Go.Proofs.YteeabfplnaknfaaGreat.DerP Go.Proofs.YteeabfplnaknfaaGreat.DerC Go.Proofs.YteeabfplnaknfaaGreat.Ms

theorem stored_new (w : World) (t : TypeId) (lit cs : Array Value) (hs : lit.size = cs.size) : Blk ((w.alloc (.cells lit t)).setCells w.heap.size 0 cs.toList) w.heap.size t cs ∧ Below w.heap.size w ((w.alloc (.cells lit t)).setCells w.heap.size 0 cs.toList) :=
  ⟨blk_cells (Blk.new w t lit) hs, below_g ((Below.refl w.heap.size w).alloc (Nat.le_refl _) _) (put_cells _ _ _) (by simp) (Nat.le_refl _)⟩
theorem prQ_sm {c : Option L} (h : (c.getD []).length ≤ 100000) : pSm (prQ c).1 := by
  have e2 := (body_len 27 (bodyC 48 c)).1
  have e3 := (body_len 27 (bodyC 48 c)).2
  have e4 := (body_len 27 (nextC 27 (bodyC 48 c))).1
  have e5 := (body_len 48 c).1
  exact ⟨by show ((bodyC 27 (bodyC 48 c)).getD []).length ≤ 1000000000; omega, by show ((bodyC 27 (nextC 27 (bodyC 48 c))).getD []).length ≤ 1000000000; omega⟩
theorem txC_sm {c : Option L} (h : (c.getD []).length ≤ 100000) : (txC c).length ≤ 100000 := Nat.le_trans (body_len 27 c).1 h
theorem one_anC (a : An) : (anC a).toArray.all (·.oneCell') = true := all_oneCell_toArray fun v hv => by
  simp only [anC, prC, List.mem_append, List.mem_cons, List.not_mem_nil, or_false] at hv
  rcases hv with (rfl | rfl) | rfl | rfl <;> rfl
def ptG (b : L) : Pt := (ptD b).getD pt0
def ptI (b : L) : Int := if (ptD b).isSome then 0 else 2
def rpG (b : L) : Rp := (rpD b).getD rp0
def rpI (b : L) : Int := if (rpD b).isSome then 0 else 2
theorem ptG_key (b : L) : (ptG b).ss.length = 32 := by
  unfold ptG; rw [pt_same]
  split
  · exact ptQ_key b
  · rfl
theorem rpG_key (b : L) : (rpG b).ss.length = 32 := by
  unfold rpG; rw [rp_same]
  split
  · exact rpQ_key b
  · rfl
set_option maxHeartbeats 6400000 in
theorem decode_an (A : Option Addr) (b : L) (c : Nat) (w : World) (hr : Rd w w.heap.size A (bvs b)) : Calls Tryz.prog 65 #[.slice A b.length c, .func (.func 66) #[] #[], .func (.func 19) #[] #[]] w fun e w' => e = .returned (.tuple #[.agg (anC (anG b)).toArray, .int .i64 (anI b)]) ∧ Below w.heap.size w w' := by
  obtain ⟨zz, ezz⟩ : ∃ z : Array Value, z = #[.string ⟨#[]⟩, .string ⟨#[]⟩, .int .i64 0, .int .i64 0] := ⟨_, rfl⟩
  have ez0 : (anC an0).toArray = zz := by rw [ezz]; rfl
  have hzs : zz.size = 4 := by rw [ezz]; simp
  have hzo : zz.all (·.oneCell') = true := by rw [← ez0]; exact one_anC _
  obtain ⟨W, eW⟩ : ∃ W, W = (w.alloc (.cells zz 57)).alloc (.cells zz 57) := ⟨_, rfl⟩
  have hWs : W.heap.size = w.heap.size + 1 + 1 := by rw [eW]; simp
  have hq := Blk.new (w.alloc (.cells zz 57)) 57 zz
  rw [show (w.alloc (.cells zz 57)).heap.size = w.heap.size + 1 by simp, ← eW] at hq
  have HZ := Lib.hid hq
  clear hq
  have HR := Lib.hid (show Blk W w.heap.size 57 zz by rw [eW]; exact (Blk.new _ _ _).alloc _)
  have HG := Lib.hid (show Below w.heap.size w W by rw [eW]; exact ((Below.refl _ _).alloc (Nat.le_refl _) _).alloc (by simp) _)
  have HRD := Lib.hid (fun w1 (h : Below w.heap.size w w1) => (hr.below h).more h.size)
  have HIZ := Lib.hid (show (Tryz.prog.info? 57).map (·.size) = some zz.size by rw [hzs]; kernel_rfl)
  have HZO := Lib.hid hzo
  have HZS := Lib.hid hzs
  have ED := Lib.hid (an_same b)
  have HWS := Lib.hid hWs
  clear hWs hzo hzs
  by_cases hl : b.length ≤ 2000
  · have t1 : decide ((2000 : Int) < (b.length : Int)) = false := decide_eq_false (by omega)
    have hl1 : b.length ≤ 100000 := by omega
    have hsm : pSm (anQ b).1.c := prQ_sm (bd_len 98 (show ((some b : Option L).getD []).length ≤ 100000 from hl1))
    have T1 := Lib.hid (fun w1 (h : Rd w1 w1.heap.size A (bvs b)) => (show Calls Tryz.prog 66 #[.slice A b.length c] w1 fun e w' => e = .returned (.agg (anC (anQ b).1).toArray) ∧ Below w1.heap.size w1 w' from takean_any A b c w1 h hl1))
    have EN := Lib.hid (fun w1 => (show Calls Tryz.prog 19 #[.agg (anC (anQ b).1).toArray] w1 (EncR w1 (anO (anQ b).1)) from encauthn_any (anQ b).1 w1 hsm))
    have hcs : (anC (anQ b).1).toArray.size = 4 := by rfl
    have hco : (anC (anQ b).1).toArray.all (·.oneCell') = true := one_anC _
    have BE := Lib.hid (fun (l : L) (g c2 : Nat) (w1 : World) (h : Rd w1 w1.heap.size (some ⟨g, 0, none⟩) (bvs l)) (hb : Below w.heap.size w w1) => beq_any l b (some ⟨g, 0, none⟩) A c2 c w1.heap.size w1 h (HRD.out w1 hb))
    obtain ⟨cs, ecs⟩ : ∃ cs, cs = (anC (anQ b).1).toArray := ⟨_, rfl⟩
    rw [← ecs] at T1 EN hcs hco
    have HCI := Lib.hid (show (Tryz.prog.info? 57).map (·.size) = some cs.size by rw [hcs]; kernel_rfl)
    have HCO := Lib.hid hco
    have HCS := Lib.hid hcs
    clear hcs hco hl hl1 hr hsm
    cases ho : anO (anQ b).1 with
    | none =>
      rw [ho] at EN
      have hD : anD b = none := by rw [ED.out, ho]; rfl
      have GE := Lib.hid (show (anC (anG b)).toArray = zz by rw [anG, hD]; exact ez0)
      have IE := Lib.hid (show anI b = 2 by rw [anI, hD]; rfl)
      clear ED ho hD ecs ez0 BE
      go_enter Tryz.func65, Tryz.ntmps65
      go_upto_region 2 with fail
      rw [← ezz, ← eW]
      clear ezz eW
      go_wp2_with (first
        | (refine load_cells (by rfl) 57 (.tmp 8) (by rfl) (w.heap.size + 1) 0 (by rfl) zz _ (range_blk HZ.out) Tryz.underlying57 (by rfl) HIZ.out ?_)
        | (refine wpList_store_mid (by rfl) 57 (.tmp 6) (.tmp 33) (by rfl) w.heap.size 0 zz (by rfl) (by rfl) (there_blk HR.out _ (Nat.le_refl _)) HIZ.out HZO.out ?_)
        | (go_at_call 66; refine Calls.mono (T1.out _ (HRD.out _ HG.out)) ?_; rintro e w4 ⟨rfl, hb⟩; clear T1; replace HZ := Lib.hid (HZ.out.below hb); replace HR := Lib.hid (HR.out.below hb); replace HG := Lib.hid (HG.out.trans (hb.mono HG.out.size)); clear hb)
        | (refine wpList_store_mid (by rfl) 57 (.tmp 9) (.tmp 18) (by rfl) w4.heap.size 0 cs (by rfl) (by rfl) (there_blk (Blk.new w4 57 #[.string ⟨#[]⟩, .string ⟨#[]⟩, .int .i64 0, .int .i64 0]) _ (by have := HCS.out; simp; omega)) HCI.out HCO.out ?_; have hV := stored_new w4 57 #[.string ⟨#[]⟩, .string ⟨#[]⟩, .int .i64 0, .int .i64 0] cs (by have := HCS.out; simp; omega); generalize ((w4.alloc (.cells #[.string ⟨#[]⟩, .string ⟨#[]⟩, .int .i64 0, .int .i64 0] 57)).setCells w4.heap.size 0 cs.toList) = V at hV ⊢; have HX := Lib.hid hV.1; replace HZ := Lib.hid (HZ.out.below hV.2); replace HR := Lib.hid (HR.out.below hV.2); replace HG := Lib.hid (HG.out.trans (hV.2.mono HG.out.size)); clear hV)
        | (refine load_cells (by rfl) 57 (.tmp 9) (by rfl) w4.heap.size 0 (by rfl) cs _ (range_blk HX.out) Tryz.underlying57 (by rfl) HCI.out ?_)
        | (go_at_call 19; refine Calls.mono (EN.out _) ?_; rintro e we ⟨⟨v, i, rfl, hn, hsm⟩, hb⟩; obtain ⟨rfl, rfl⟩ := hn rfl; clear EN; replace HX := Lib.hid (HX.out.below hb); replace HZ := Lib.hid (HZ.out.below hb); replace HR := Lib.hid (HR.out.below hb); replace HG := Lib.hid (HG.out.trans (hb.mono HG.out.size)); clear hb hn hsm)
        | fail)
      have hE := blk_cells (ds := zz) HR.out (by rfl)
      have hp := put_cells we w.heap.size zz.toList
      have hq := load_blk (P := Tryz.prog) hE Tryz.underlying57 rfl HIZ.out
      refine bodyPost_ret (v := .tuple #[.agg zz, .int .i64 2]) ?_ ?_ ?_
      · exact results_pair (v := .agg zz) 6 7 57 ⟨w.heap.size, 0, none⟩ Tryz.results65 rfl hq rfl
      · rfl
      exact ⟨by rw [GE.out, IE.out], below_g HG.out hp (by have := HR.out.lt; omega) (Nat.le_refl _)⟩
    | some l =>
      rw [ho] at EN
      by_cases hlb : l = b
      · have BF := Lib.hid (decide_eq_true hlb)
        have hD : anD b = some (anQ b).1 := by rw [ED.out, ho, if_pos (by rw [hlb])]
        have GE := Lib.hid (show (anC (anG b)).toArray = cs by rw [anG, hD]; exact ecs.symm)
        have IE := Lib.hid (show anI b = 0 by rw [anI, hD]; rfl)
        clear ED ho hlb hD ecs ez0
        go_enter Tryz.func65, Tryz.ntmps65
        go_upto_region 2 with fail
        rw [← ezz, ← eW]
        clear ezz eW
        go_wp2_with (first
          | (refine load_cells (by rfl) 57 (.tmp 8) (by rfl) (w.heap.size + 1) 0 (by rfl) zz _ (range_blk HZ.out) Tryz.underlying57 (by rfl) HIZ.out ?_)
          | (refine wpList_store_mid (by rfl) 57 (.tmp 6) (.tmp 34) (by rfl) w.heap.size 0 cs (by rfl) (by rfl) (there_blk HR.out _ (by have := HZS.out; have := HCS.out; omega)) HCI.out HCO.out ?_)
          | (go_at_call 66; refine Calls.mono (T1.out _ (HRD.out _ HG.out)) ?_; rintro e w4 ⟨rfl, hb⟩; clear T1; replace HZ := Lib.hid (HZ.out.below hb); replace HR := Lib.hid (HR.out.below hb); replace HG := Lib.hid (HG.out.trans (hb.mono HG.out.size)); clear hb)
          | (refine wpList_store_mid (by rfl) 57 (.tmp 9) (.tmp 18) (by rfl) w4.heap.size 0 cs (by rfl) (by rfl) (there_blk (Blk.new w4 57 #[.string ⟨#[]⟩, .string ⟨#[]⟩, .int .i64 0, .int .i64 0]) _ (by have := HCS.out; simp; omega)) HCI.out HCO.out ?_; have hV := stored_new w4 57 #[.string ⟨#[]⟩, .string ⟨#[]⟩, .int .i64 0, .int .i64 0] cs (by have := HCS.out; simp; omega); generalize ((w4.alloc (.cells #[.string ⟨#[]⟩, .string ⟨#[]⟩, .int .i64 0, .int .i64 0] 57)).setCells w4.heap.size 0 cs.toList) = V at hV ⊢; have HX := Lib.hid hV.1; replace HZ := Lib.hid (HZ.out.below hV.2); replace HR := Lib.hid (HR.out.below hV.2); replace HG := Lib.hid (HG.out.trans (hV.2.mono HG.out.size)); clear hV)
          | (refine load_cells (by rfl) 57 (.tmp 9) (by rfl) w4.heap.size 0 (by rfl) cs _ (range_blk HX.out) Tryz.underlying57 (by rfl) HCI.out ?_)
          | (go_at_call 19; refine Calls.mono (EN.out _) ?_; rintro e we ⟨⟨v, i, rfl, hn, hsm⟩, hb⟩; obtain ⟨rfl, gx, cx, rfl, hgx, hcx, hrx⟩ := hsm l rfl; have HRX := Lib.hid hrx; clear hgx hcx hrx; clear EN; replace HX := Lib.hid (HX.out.below hb); replace HZ := Lib.hid (HZ.out.below hb); replace HR := Lib.hid (HR.out.below hb); replace HG := Lib.hid (HG.out.trans (hb.mono HG.out.size)); clear hb hn hsm)
          | (go_at_call 87; refine Calls.mono (BE.out l gx cx _ HRX.out HG.out) ?_; rw [BF.out]; rintro e wb ⟨rfl, hw⟩; subst hw; clear BE)
          | fail)
        have hE := blk_cells (ds := cs) HR.out (by have := HZS.out; have := HCS.out; omega)
        have hp := put_cells we w.heap.size cs.toList
        have hq := load_blk (P := Tryz.prog) hE Tryz.underlying57 rfl HCI.out
        refine bodyPost_ret (v := .tuple #[.agg cs, .int .i64 0]) ?_ ?_ ?_
        · exact results_pair (v := .agg cs) 6 7 57 ⟨w.heap.size, 0, none⟩ Tryz.results65 rfl hq rfl
        · rfl
        exact ⟨by rw [GE.out, IE.out], below_g HG.out hp (by have := HR.out.lt; omega) (Nat.le_refl _)⟩
      · have BF := Lib.hid (decide_eq_false hlb)
        have hD : anD b = none := by rw [ED.out, ho, if_neg (fun h => hlb (Option.some.inj h))]
        have GE := Lib.hid (show (anC (anG b)).toArray = zz by rw [anG, hD]; exact ez0)
        have IE := Lib.hid (show anI b = 2 by rw [anI, hD]; rfl)
        clear ED ho hlb hD ecs ez0
        go_enter Tryz.func65, Tryz.ntmps65
        go_upto_region 2 with fail
        rw [← ezz, ← eW]
        clear ezz eW
        go_wp2_with (first
          | (refine load_cells (by rfl) 57 (.tmp 8) (by rfl) (w.heap.size + 1) 0 (by rfl) zz _ (range_blk HZ.out) Tryz.underlying57 (by rfl) HIZ.out ?_)
          | (refine wpList_store_mid (by rfl) 57 (.tmp 6) (.tmp 33) (by rfl) w.heap.size 0 zz (by rfl) (by rfl) (there_blk HR.out _ (Nat.le_refl _)) HIZ.out HZO.out ?_)
          | (go_at_call 66; refine Calls.mono (T1.out _ (HRD.out _ HG.out)) ?_; rintro e w4 ⟨rfl, hb⟩; clear T1; replace HZ := Lib.hid (HZ.out.below hb); replace HR := Lib.hid (HR.out.below hb); replace HG := Lib.hid (HG.out.trans (hb.mono HG.out.size)); clear hb)
          | (refine wpList_store_mid (by rfl) 57 (.tmp 9) (.tmp 18) (by rfl) w4.heap.size 0 cs (by rfl) (by rfl) (there_blk (Blk.new w4 57 #[.string ⟨#[]⟩, .string ⟨#[]⟩, .int .i64 0, .int .i64 0]) _ (by have := HCS.out; simp; omega)) HCI.out HCO.out ?_; have hV := stored_new w4 57 #[.string ⟨#[]⟩, .string ⟨#[]⟩, .int .i64 0, .int .i64 0] cs (by have := HCS.out; simp; omega); generalize ((w4.alloc (.cells #[.string ⟨#[]⟩, .string ⟨#[]⟩, .int .i64 0, .int .i64 0] 57)).setCells w4.heap.size 0 cs.toList) = V at hV ⊢; have HX := Lib.hid hV.1; replace HZ := Lib.hid (HZ.out.below hV.2); replace HR := Lib.hid (HR.out.below hV.2); replace HG := Lib.hid (HG.out.trans (hV.2.mono HG.out.size)); clear hV)
          | (refine load_cells (by rfl) 57 (.tmp 9) (by rfl) w4.heap.size 0 (by rfl) cs _ (range_blk HX.out) Tryz.underlying57 (by rfl) HCI.out ?_)
          | (go_at_call 19; refine Calls.mono (EN.out _) ?_; rintro e we ⟨⟨v, i, rfl, hn, hsm⟩, hb⟩; obtain ⟨rfl, gx, cx, rfl, hgx, hcx, hrx⟩ := hsm l rfl; have HRX := Lib.hid hrx; clear hgx hcx hrx; clear EN; replace HX := Lib.hid (HX.out.below hb); replace HZ := Lib.hid (HZ.out.below hb); replace HR := Lib.hid (HR.out.below hb); replace HG := Lib.hid (HG.out.trans (hb.mono HG.out.size)); clear hb hn hsm)
          | (go_at_call 87; refine Calls.mono (BE.out l gx cx _ HRX.out HG.out) ?_; rw [BF.out]; rintro e wb ⟨rfl, hw⟩; subst hw; clear BE)
          | fail)
        have hE := blk_cells (ds := zz) HR.out (by rfl)
        have hp := put_cells we w.heap.size zz.toList
        have hq := load_blk (P := Tryz.prog) hE Tryz.underlying57 rfl HIZ.out
        refine bodyPost_ret (v := .tuple #[.agg zz, .int .i64 2]) ?_ ?_ ?_
        · exact results_pair (v := .agg zz) 6 7 57 ⟨w.heap.size, 0, none⟩ Tryz.results65 rfl hq rfl
        · rfl
        exact ⟨by rw [GE.out, IE.out], below_g HG.out hp (by have := HR.out.lt; omega) (Nat.le_refl _)⟩
  · have t1 : decide ((2000 : Int) < (b.length : Int)) = true := decide_eq_true (by omega)
    have hD : anD b = none := by
      rw [ED.out, if_neg]
      intro h; have h2 := lim_iff.1 h; exact hl (by rw [← h2.2.2]; exact h2.2.1)
    have GE := Lib.hid (show (anC (anG b)).toArray = zz by rw [anG, hD]; exact ez0)
    have IE := Lib.hid (show anI b = 2 by rw [anI, hD]; rfl)
    clear ED hD hl ez0 hr HRD
    go_enter Tryz.func65, Tryz.ntmps65
    go_upto_region 2 with fail
    rw [← ezz, ← eW]
    clear ezz eW
    go_wp2_with (first
      | (refine load_cells (by rfl) 57 (.tmp 8) (by rfl) (w.heap.size + 1) 0 (by rfl) zz _ (range_blk HZ.out) Tryz.underlying57 (by rfl) HIZ.out ?_)
      | (refine wpList_store_mid (by rfl) 57 (.tmp 6) (.tmp 15) (by rfl) w.heap.size 0 zz (by rfl) (by rfl) (there_blk HR.out _ (Nat.le_refl _)) HIZ.out HZO.out ?_)
      | fail)
    have hE := blk_cells (ds := zz) HR.out (by rfl)
    have hp := put_cells W w.heap.size zz.toList
    have hq := load_blk (P := Tryz.prog) hE Tryz.underlying57 rfl HIZ.out
    refine bodyPost_ret (v := .tuple #[.agg zz, .int .i64 2]) ?_ ?_ ?_
    · exact results_pair (v := .agg zz) 6 7 57 ⟨w.heap.size, 0, none⟩ Tryz.results65 rfl hq rfl
    · rfl
    exact ⟨by rw [GE.out, IE.out], below_g HG.out hp (by have := HR.out.lt; omega) (Nat.le_refl _)⟩
set_option maxHeartbeats 3200000 in
theorem decauthn_any (A : Option Addr) (b : L) (c : Nat) (w : World) (hr : Rd w w.heap.size A (bvs b)) : Calls Tryz.prog 25 #[.slice A b.length c] w fun e w' => e = .returned (.tuple #[.agg (anC (anG b)).toArray, .int .i64 (anI b)]) ∧ Below w.heap.size w w' := by
  obtain ⟨zz, ezz⟩ : ∃ z : Array Value, z = #[.string ⟨#[]⟩, .string ⟨#[]⟩, .int .i64 0, .int .i64 0] := ⟨_, rfl⟩
  have hzs : zz.size = 4 := by rw [ezz]; simp
  have hgs : (anC (anG b)).toArray.size = 4 := by rfl
  have hgo : (anC (anG b)).toArray.all (·.oneCell') = true := one_anC _
  have c1 := decode_an A b c (w.alloc (.cells zz 57)) ((hr.alloc (Nat.le_refl _) _).more (by simp))
  obtain ⟨cs, ecs⟩ : ∃ cs, cs = (anC (anG b)).toArray := ⟨_, rfl⟩
  rw [← ecs] at hgs hgo c1 ⊢
  have HI := Lib.hid (show (Tryz.prog.info? 57).map (·.size) = some cs.size by rw [hgs]; kernel_rfl)
  have HO := Lib.hid hgo
  have HCS := Lib.hid hgs
  have HZS := Lib.hid hzs
  have HR := Lib.hid (Blk.new w 57 zz)
  have HG := Lib.hid ((Below.refl w.heap.size w).alloc (Nat.le_refl _) (.cells zz 57))
  clear hgs hgo hzs ecs hr
  go_enter Tryz.func25, Tryz.ntmps25
  go_upto_region 1 with fail
  rw [← ezz]
  clear ezz
  go_wp2_with (first
    | (go_at_call 65; refine Calls.mono c1 ?_; rintro e w1 ⟨rfl, hb⟩; clear c1; replace HR := Lib.hid (HR.out.below hb); replace HG := Lib.hid (HG.out.trans (hb.mono HG.out.size)); clear hb)
    | (refine wpList_store_mid (by rfl) 57 (.tmp 2) (.tmp 6) (by rfl) w.heap.size 0 cs (by rfl) (by rfl) (there_blk HR.out _ (by have := HZS.out; have := HCS.out; omega)) HI.out HO.out ?_)
    | fail)
  have hE := blk_cells (ds := cs) HR.out (by have := HZS.out; have := HCS.out; omega)
  have hp := put_cells w1 w.heap.size cs.toList
  have hq := load_blk (P := Tryz.prog) hE Tryz.underlying57 rfl HI.out
  refine bodyPost_ret (v := .tuple #[.agg cs, .int .i64 (anI b)]) ?_ ?_ ?_
  · exact results_pair (v := .agg cs) 2 3 57 ⟨w.heap.size, 0, none⟩ Tryz.results25 rfl hq rfl
  · rfl
  exact ⟨rfl, below_g HG.out hp (by have := HR.out.lt; omega) (Nat.le_refl _)⟩
set_option maxHeartbeats 6400000 in
theorem decode_pt (A : Option Addr) (b : L) (c : Nat) (w : World) (hr : Rd w w.heap.size A (bvs b)) : Calls Tryz.prog 61 #[.slice A b.length c, .func (.func 62) #[] #[], .func (.func 17) #[] #[]] w fun e w' => e = .returned (.tuple #[.agg (ptC (ptG b)).toArray, .int .i64 (ptI b)]) ∧ Below w.heap.size w w' := by
  obtain ⟨zz, ezz⟩ : ∃ z : Array Value, z = #[.string ⟨#[]⟩, .string ⟨#[]⟩, .int .u8 0, .int .u8 0, .int .u8 0, .int .u8 0, .int .u8 0, .int .u8 0, .int .u8 0, .int .u8 0, .int .u8 0, .int .u8 0, .int .u8 0, .int .u8 0, .int .u8 0, .int .u8 0, .int .u8 0, .int .u8 0, .int .u8 0, .int .u8 0, .int .u8 0, .int .u8 0, .int .u8 0, .int .u8 0, .int .u8 0, .int .u8 0, .int .u8 0, .int .u8 0, .int .u8 0, .int .u8 0, .int .u8 0, .int .u8 0, .int .u8 0, .int .u8 0, .string ⟨#[]⟩, .int .i64 0, .int .i64 0] := ⟨_, rfl⟩
  have ez0 : (ptC pt0).toArray = zz := by rw [ezz]; rfl
  have hzs : zz.size = 37 := by rw [ezz]; simp
  have hzo : zz.all (·.oneCell') = true := by rw [← ez0]; exact one_ptQ _ _ _ _ _
  obtain ⟨W, eW⟩ : ∃ W, W = (w.alloc (.cells zz 55)).alloc (.cells zz 55) := ⟨_, rfl⟩
  have hWs : W.heap.size = w.heap.size + 1 + 1 := by rw [eW]; simp
  have hq := Blk.new (w.alloc (.cells zz 55)) 55 zz
  rw [show (w.alloc (.cells zz 55)).heap.size = w.heap.size + 1 by simp, ← eW] at hq
  have HZ := Lib.hid hq
  clear hq
  have HR := Lib.hid (show Blk W w.heap.size 55 zz by rw [eW]; exact (Blk.new _ _ _).alloc _)
  have HG := Lib.hid (show Below w.heap.size w W by rw [eW]; exact ((Below.refl _ _).alloc (Nat.le_refl _) _).alloc (by simp) _)
  have HRD := Lib.hid (fun w1 (h : Below w.heap.size w w1) => (hr.below h).more h.size)
  have HIZ := Lib.hid (show (Tryz.prog.info? 55).map (·.size) = some zz.size by rw [hzs]; kernel_rfl)
  have HZO := Lib.hid hzo
  have HZS := Lib.hid hzs
  have ED := Lib.hid (pt_same b)
  have HWS := Lib.hid hWs
  clear hWs hzo hzs
  by_cases hl : b.length ≤ 2000
  · have t1 : decide ((2000 : Int) < (b.length : Int)) = false := decide_eq_false (by omega)
    have hl1 : b.length ≤ 100000 := by omega
    have hb0 := bd_len 99 (show ((some b : Option L).getD []).length ≤ 100000 from hl1)
    have hsm : pSm (ptQ b).1.c := prQ_sm hb0
    have htr : (ptQ b).1.tr.length ≤ 1000000000 := Nat.le_trans (txC_sm (nx_len 4 (nx_len 48 hb0))) (by omega)
    have T1 := Lib.hid (fun w1 (h : Rd w1 w1.heap.size A (bvs b)) => (show Calls Tryz.prog 62 #[.slice A b.length c] w1 fun e w' => e = .returned (.agg (ptC (ptQ b).1).toArray) ∧ Below w1.heap.size w1 w' from takept_any A b c w1 h hl1))
    have EN := Lib.hid (fun w1 => (show Calls Tryz.prog 17 #[.agg (ptC (ptQ b).1).toArray] w1 (EncR w1 (ptO (ptQ b).1)) from encpart_any (ptQ b).1 w1 (ptQ_key b) hsm htr))
    have hcs : (ptC (ptQ b).1).toArray.size = 37 := by exact pt_size (ptQ_key b)
    have hco : (ptC (ptQ b).1).toArray.all (·.oneCell') = true := one_ptQ _ _ _ _ _
    have BE := Lib.hid (fun (l : L) (g c2 : Nat) (w1 : World) (h : Rd w1 w1.heap.size (some ⟨g, 0, none⟩) (bvs l)) (hb : Below w.heap.size w w1) => beq_any l b (some ⟨g, 0, none⟩) A c2 c w1.heap.size w1 h (HRD.out w1 hb))
    obtain ⟨cs, ecs⟩ : ∃ cs, cs = (ptC (ptQ b).1).toArray := ⟨_, rfl⟩
    rw [← ecs] at T1 EN hcs hco
    have HCI := Lib.hid (show (Tryz.prog.info? 55).map (·.size) = some cs.size by rw [hcs]; kernel_rfl)
    have HCO := Lib.hid hco
    have HCS := Lib.hid hcs
    clear hcs hco hl hl1 hr hsm htr hb0
    cases ho : ptO (ptQ b).1 with
    | none =>
      rw [ho] at EN
      have hD : ptD b = none := by rw [ED.out, ho]; rfl
      have GE := Lib.hid (show (ptC (ptG b)).toArray = zz by rw [ptG, hD]; exact ez0)
      have IE := Lib.hid (show ptI b = 2 by rw [ptI, hD]; rfl)
      clear ED ho hD ecs ez0 BE
      go_enter Tryz.func61, Tryz.ntmps61
      go_upto_region 2 with fail
      rw [← ezz, ← eW]
      clear ezz eW
      go_wp2_with (first
        | (refine load_cells (by rfl) 55 (.tmp 8) (by rfl) (w.heap.size + 1) 0 (by rfl) zz _ (range_blk HZ.out) Tryz.underlying55 (by rfl) HIZ.out ?_)
        | (refine wpList_store_mid (by rfl) 55 (.tmp 6) (.tmp 33) (by rfl) w.heap.size 0 zz (by rfl) (by rfl) (there_blk HR.out _ (Nat.le_refl _)) HIZ.out HZO.out ?_)
        | (go_at_call 62; refine Calls.mono (T1.out _ (HRD.out _ HG.out)) ?_; rintro e w4 ⟨rfl, hb⟩; clear T1; replace HZ := Lib.hid (HZ.out.below hb); replace HR := Lib.hid (HR.out.below hb); replace HG := Lib.hid (HG.out.trans (hb.mono HG.out.size)); clear hb)
        | (refine wpList_store_mid (by rfl) 55 (.tmp 9) (.tmp 18) (by rfl) w4.heap.size 0 cs (by rfl) (by rfl) (there_blk (Blk.new w4 55 #[.string ⟨#[]⟩, .string ⟨#[]⟩, .int .u8 0, .int .u8 0, .int .u8 0, .int .u8 0, .int .u8 0, .int .u8 0, .int .u8 0, .int .u8 0, .int .u8 0, .int .u8 0, .int .u8 0, .int .u8 0, .int .u8 0, .int .u8 0, .int .u8 0, .int .u8 0, .int .u8 0, .int .u8 0, .int .u8 0, .int .u8 0, .int .u8 0, .int .u8 0, .int .u8 0, .int .u8 0, .int .u8 0, .int .u8 0, .int .u8 0, .int .u8 0, .int .u8 0, .int .u8 0, .int .u8 0, .int .u8 0, .string ⟨#[]⟩, .int .i64 0, .int .i64 0]) _ (by have := HCS.out; simp; omega)) HCI.out HCO.out ?_; have hV := stored_new w4 55 #[.string ⟨#[]⟩, .string ⟨#[]⟩, .int .u8 0, .int .u8 0, .int .u8 0, .int .u8 0, .int .u8 0, .int .u8 0, .int .u8 0, .int .u8 0, .int .u8 0, .int .u8 0, .int .u8 0, .int .u8 0, .int .u8 0, .int .u8 0, .int .u8 0, .int .u8 0, .int .u8 0, .int .u8 0, .int .u8 0, .int .u8 0, .int .u8 0, .int .u8 0, .int .u8 0, .int .u8 0, .int .u8 0, .int .u8 0, .int .u8 0, .int .u8 0, .int .u8 0, .int .u8 0, .int .u8 0, .int .u8 0, .string ⟨#[]⟩, .int .i64 0, .int .i64 0] cs (by have := HCS.out; simp; omega); generalize ((w4.alloc (.cells #[.string ⟨#[]⟩, .string ⟨#[]⟩, .int .u8 0, .int .u8 0, .int .u8 0, .int .u8 0, .int .u8 0, .int .u8 0, .int .u8 0, .int .u8 0, .int .u8 0, .int .u8 0, .int .u8 0, .int .u8 0, .int .u8 0, .int .u8 0, .int .u8 0, .int .u8 0, .int .u8 0, .int .u8 0, .int .u8 0, .int .u8 0, .int .u8 0, .int .u8 0, .int .u8 0, .int .u8 0, .int .u8 0, .int .u8 0, .int .u8 0, .int .u8 0, .int .u8 0, .int .u8 0, .int .u8 0, .int .u8 0, .string ⟨#[]⟩, .int .i64 0, .int .i64 0] 55)).setCells w4.heap.size 0 cs.toList) = V at hV ⊢; have HX := Lib.hid hV.1; replace HZ := Lib.hid (HZ.out.below hV.2); replace HR := Lib.hid (HR.out.below hV.2); replace HG := Lib.hid (HG.out.trans (hV.2.mono HG.out.size)); clear hV)
        | (refine load_cells (by rfl) 55 (.tmp 9) (by rfl) w4.heap.size 0 (by rfl) cs _ (range_blk HX.out) Tryz.underlying55 (by rfl) HCI.out ?_)
        | (go_at_call 17; refine Calls.mono (EN.out _) ?_; rintro e we ⟨⟨v, i, rfl, hn, hsm⟩, hb⟩; obtain ⟨rfl, rfl⟩ := hn rfl; clear EN; replace HX := Lib.hid (HX.out.below hb); replace HZ := Lib.hid (HZ.out.below hb); replace HR := Lib.hid (HR.out.below hb); replace HG := Lib.hid (HG.out.trans (hb.mono HG.out.size)); clear hb hn hsm)
        | fail)
      have hE := blk_cells (ds := zz) HR.out (by rfl)
      have hp := put_cells we w.heap.size zz.toList
      have hq := load_blk (P := Tryz.prog) hE Tryz.underlying55 rfl HIZ.out
      refine bodyPost_ret (v := .tuple #[.agg zz, .int .i64 2]) ?_ ?_ ?_
      · exact results_pair (v := .agg zz) 6 7 55 ⟨w.heap.size, 0, none⟩ Tryz.results61 rfl hq rfl
      · rfl
      exact ⟨by rw [GE.out, IE.out], below_g HG.out hp (by have := HR.out.lt; omega) (Nat.le_refl _)⟩
    | some l =>
      rw [ho] at EN
      by_cases hlb : l = b
      · have BF := Lib.hid (decide_eq_true hlb)
        have hD : ptD b = some (ptQ b).1 := by rw [ED.out, ho, if_pos (by rw [hlb])]
        have GE := Lib.hid (show (ptC (ptG b)).toArray = cs by rw [ptG, hD]; exact ecs.symm)
        have IE := Lib.hid (show ptI b = 0 by rw [ptI, hD]; rfl)
        clear ED ho hlb hD ecs ez0
        go_enter Tryz.func61, Tryz.ntmps61
        go_upto_region 2 with fail
        rw [← ezz, ← eW]
        clear ezz eW
        go_wp2_with (first
          | (refine load_cells (by rfl) 55 (.tmp 8) (by rfl) (w.heap.size + 1) 0 (by rfl) zz _ (range_blk HZ.out) Tryz.underlying55 (by rfl) HIZ.out ?_)
          | (refine wpList_store_mid (by rfl) 55 (.tmp 6) (.tmp 34) (by rfl) w.heap.size 0 cs (by rfl) (by rfl) (there_blk HR.out _ (by have := HZS.out; have := HCS.out; omega)) HCI.out HCO.out ?_)
          | (go_at_call 62; refine Calls.mono (T1.out _ (HRD.out _ HG.out)) ?_; rintro e w4 ⟨rfl, hb⟩; clear T1; replace HZ := Lib.hid (HZ.out.below hb); replace HR := Lib.hid (HR.out.below hb); replace HG := Lib.hid (HG.out.trans (hb.mono HG.out.size)); clear hb)
          | (refine wpList_store_mid (by rfl) 55 (.tmp 9) (.tmp 18) (by rfl) w4.heap.size 0 cs (by rfl) (by rfl) (there_blk (Blk.new w4 55 #[.string ⟨#[]⟩, .string ⟨#[]⟩, .int .u8 0, .int .u8 0, .int .u8 0, .int .u8 0, .int .u8 0, .int .u8 0, .int .u8 0, .int .u8 0, .int .u8 0, .int .u8 0, .int .u8 0, .int .u8 0, .int .u8 0, .int .u8 0, .int .u8 0, .int .u8 0, .int .u8 0, .int .u8 0, .int .u8 0, .int .u8 0, .int .u8 0, .int .u8 0, .int .u8 0, .int .u8 0, .int .u8 0, .int .u8 0, .int .u8 0, .int .u8 0, .int .u8 0, .int .u8 0, .int .u8 0, .int .u8 0, .string ⟨#[]⟩, .int .i64 0, .int .i64 0]) _ (by have := HCS.out; simp; omega)) HCI.out HCO.out ?_; have hV := stored_new w4 55 #[.string ⟨#[]⟩, .string ⟨#[]⟩, .int .u8 0, .int .u8 0, .int .u8 0, .int .u8 0, .int .u8 0, .int .u8 0, .int .u8 0, .int .u8 0, .int .u8 0, .int .u8 0, .int .u8 0, .int .u8 0, .int .u8 0, .int .u8 0, .int .u8 0, .int .u8 0, .int .u8 0, .int .u8 0, .int .u8 0, .int .u8 0, .int .u8 0, .int .u8 0, .int .u8 0, .int .u8 0, .int .u8 0, .int .u8 0, .int .u8 0, .int .u8 0, .int .u8 0, .int .u8 0, .int .u8 0, .int .u8 0, .string ⟨#[]⟩, .int .i64 0, .int .i64 0] cs (by have := HCS.out; simp; omega); generalize ((w4.alloc (.cells #[.string ⟨#[]⟩, .string ⟨#[]⟩, .int .u8 0, .int .u8 0, .int .u8 0, .int .u8 0, .int .u8 0, .int .u8 0, .int .u8 0, .int .u8 0, .int .u8 0, .int .u8 0, .int .u8 0, .int .u8 0, .int .u8 0, .int .u8 0, .int .u8 0, .int .u8 0, .int .u8 0, .int .u8 0, .int .u8 0, .int .u8 0, .int .u8 0, .int .u8 0, .int .u8 0, .int .u8 0, .int .u8 0, .int .u8 0, .int .u8 0, .int .u8 0, .int .u8 0, .int .u8 0, .int .u8 0, .int .u8 0, .string ⟨#[]⟩, .int .i64 0, .int .i64 0] 55)).setCells w4.heap.size 0 cs.toList) = V at hV ⊢; have HX := Lib.hid hV.1; replace HZ := Lib.hid (HZ.out.below hV.2); replace HR := Lib.hid (HR.out.below hV.2); replace HG := Lib.hid (HG.out.trans (hV.2.mono HG.out.size)); clear hV)
          | (refine load_cells (by rfl) 55 (.tmp 9) (by rfl) w4.heap.size 0 (by rfl) cs _ (range_blk HX.out) Tryz.underlying55 (by rfl) HCI.out ?_)
          | (go_at_call 17; refine Calls.mono (EN.out _) ?_; rintro e we ⟨⟨v, i, rfl, hn, hsm⟩, hb⟩; obtain ⟨rfl, gx, cx, rfl, hgx, hcx, hrx⟩ := hsm l rfl; have HRX := Lib.hid hrx; clear hgx hcx hrx; clear EN; replace HX := Lib.hid (HX.out.below hb); replace HZ := Lib.hid (HZ.out.below hb); replace HR := Lib.hid (HR.out.below hb); replace HG := Lib.hid (HG.out.trans (hb.mono HG.out.size)); clear hb hn hsm)
          | (go_at_call 87; refine Calls.mono (BE.out l gx cx _ HRX.out HG.out) ?_; rw [BF.out]; rintro e wb ⟨rfl, hw⟩; subst hw; clear BE)
          | fail)
        have hE := blk_cells (ds := cs) HR.out (by have := HZS.out; have := HCS.out; omega)
        have hp := put_cells we w.heap.size cs.toList
        have hq := load_blk (P := Tryz.prog) hE Tryz.underlying55 rfl HCI.out
        refine bodyPost_ret (v := .tuple #[.agg cs, .int .i64 0]) ?_ ?_ ?_
        · exact results_pair (v := .agg cs) 6 7 55 ⟨w.heap.size, 0, none⟩ Tryz.results61 rfl hq rfl
        · rfl
        exact ⟨by rw [GE.out, IE.out], below_g HG.out hp (by have := HR.out.lt; omega) (Nat.le_refl _)⟩
      · have BF := Lib.hid (decide_eq_false hlb)
        have hD : ptD b = none := by rw [ED.out, ho, if_neg (fun h => hlb (Option.some.inj h))]
        have GE := Lib.hid (show (ptC (ptG b)).toArray = zz by rw [ptG, hD]; exact ez0)
        have IE := Lib.hid (show ptI b = 2 by rw [ptI, hD]; rfl)
        clear ED ho hlb hD ecs ez0
        go_enter Tryz.func61, Tryz.ntmps61
        go_upto_region 2 with fail
        rw [← ezz, ← eW]
        clear ezz eW
        go_wp2_with (first
          | (refine load_cells (by rfl) 55 (.tmp 8) (by rfl) (w.heap.size + 1) 0 (by rfl) zz _ (range_blk HZ.out) Tryz.underlying55 (by rfl) HIZ.out ?_)
          | (refine wpList_store_mid (by rfl) 55 (.tmp 6) (.tmp 33) (by rfl) w.heap.size 0 zz (by rfl) (by rfl) (there_blk HR.out _ (Nat.le_refl _)) HIZ.out HZO.out ?_)
          | (go_at_call 62; refine Calls.mono (T1.out _ (HRD.out _ HG.out)) ?_; rintro e w4 ⟨rfl, hb⟩; clear T1; replace HZ := Lib.hid (HZ.out.below hb); replace HR := Lib.hid (HR.out.below hb); replace HG := Lib.hid (HG.out.trans (hb.mono HG.out.size)); clear hb)
          | (refine wpList_store_mid (by rfl) 55 (.tmp 9) (.tmp 18) (by rfl) w4.heap.size 0 cs (by rfl) (by rfl) (there_blk (Blk.new w4 55 #[.string ⟨#[]⟩, .string ⟨#[]⟩, .int .u8 0, .int .u8 0, .int .u8 0, .int .u8 0, .int .u8 0, .int .u8 0, .int .u8 0, .int .u8 0, .int .u8 0, .int .u8 0, .int .u8 0, .int .u8 0, .int .u8 0, .int .u8 0, .int .u8 0, .int .u8 0, .int .u8 0, .int .u8 0, .int .u8 0, .int .u8 0, .int .u8 0, .int .u8 0, .int .u8 0, .int .u8 0, .int .u8 0, .int .u8 0, .int .u8 0, .int .u8 0, .int .u8 0, .int .u8 0, .int .u8 0, .int .u8 0, .string ⟨#[]⟩, .int .i64 0, .int .i64 0]) _ (by have := HCS.out; simp; omega)) HCI.out HCO.out ?_; have hV := stored_new w4 55 #[.string ⟨#[]⟩, .string ⟨#[]⟩, .int .u8 0, .int .u8 0, .int .u8 0, .int .u8 0, .int .u8 0, .int .u8 0, .int .u8 0, .int .u8 0, .int .u8 0, .int .u8 0, .int .u8 0, .int .u8 0, .int .u8 0, .int .u8 0, .int .u8 0, .int .u8 0, .int .u8 0, .int .u8 0, .int .u8 0, .int .u8 0, .int .u8 0, .int .u8 0, .int .u8 0, .int .u8 0, .int .u8 0, .int .u8 0, .int .u8 0, .int .u8 0, .int .u8 0, .int .u8 0, .int .u8 0, .int .u8 0, .string ⟨#[]⟩, .int .i64 0, .int .i64 0] cs (by have := HCS.out; simp; omega); generalize ((w4.alloc (.cells #[.string ⟨#[]⟩, .string ⟨#[]⟩, .int .u8 0, .int .u8 0, .int .u8 0, .int .u8 0, .int .u8 0, .int .u8 0, .int .u8 0, .int .u8 0, .int .u8 0, .int .u8 0, .int .u8 0, .int .u8 0, .int .u8 0, .int .u8 0, .int .u8 0, .int .u8 0, .int .u8 0, .int .u8 0, .int .u8 0, .int .u8 0, .int .u8 0, .int .u8 0, .int .u8 0, .int .u8 0, .int .u8 0, .int .u8 0, .int .u8 0, .int .u8 0, .int .u8 0, .int .u8 0, .int .u8 0, .int .u8 0, .string ⟨#[]⟩, .int .i64 0, .int .i64 0] 55)).setCells w4.heap.size 0 cs.toList) = V at hV ⊢; have HX := Lib.hid hV.1; replace HZ := Lib.hid (HZ.out.below hV.2); replace HR := Lib.hid (HR.out.below hV.2); replace HG := Lib.hid (HG.out.trans (hV.2.mono HG.out.size)); clear hV)
          | (refine load_cells (by rfl) 55 (.tmp 9) (by rfl) w4.heap.size 0 (by rfl) cs _ (range_blk HX.out) Tryz.underlying55 (by rfl) HCI.out ?_)
          | (go_at_call 17; refine Calls.mono (EN.out _) ?_; rintro e we ⟨⟨v, i, rfl, hn, hsm⟩, hb⟩; obtain ⟨rfl, gx, cx, rfl, hgx, hcx, hrx⟩ := hsm l rfl; have HRX := Lib.hid hrx; clear hgx hcx hrx; clear EN; replace HX := Lib.hid (HX.out.below hb); replace HZ := Lib.hid (HZ.out.below hb); replace HR := Lib.hid (HR.out.below hb); replace HG := Lib.hid (HG.out.trans (hb.mono HG.out.size)); clear hb hn hsm)
          | (go_at_call 87; refine Calls.mono (BE.out l gx cx _ HRX.out HG.out) ?_; rw [BF.out]; rintro e wb ⟨rfl, hw⟩; subst hw; clear BE)
          | fail)
        have hE := blk_cells (ds := zz) HR.out (by rfl)
        have hp := put_cells we w.heap.size zz.toList
        have hq := load_blk (P := Tryz.prog) hE Tryz.underlying55 rfl HIZ.out
        refine bodyPost_ret (v := .tuple #[.agg zz, .int .i64 2]) ?_ ?_ ?_
        · exact results_pair (v := .agg zz) 6 7 55 ⟨w.heap.size, 0, none⟩ Tryz.results61 rfl hq rfl
        · rfl
        exact ⟨by rw [GE.out, IE.out], below_g HG.out hp (by have := HR.out.lt; omega) (Nat.le_refl _)⟩
  · have t1 : decide ((2000 : Int) < (b.length : Int)) = true := decide_eq_true (by omega)
    have hD : ptD b = none := by
      rw [ED.out, if_neg]
      intro h; have h2 := lim_iff.1 h; exact hl (by rw [← h2.2.2]; exact h2.2.1)
    have GE := Lib.hid (show (ptC (ptG b)).toArray = zz by rw [ptG, hD]; exact ez0)
    have IE := Lib.hid (show ptI b = 2 by rw [ptI, hD]; rfl)
    clear ED hD hl ez0 hr HRD
    go_enter Tryz.func61, Tryz.ntmps61
    go_upto_region 2 with fail
    rw [← ezz, ← eW]
    clear ezz eW
    go_wp2_with (first
      | (refine load_cells (by rfl) 55 (.tmp 8) (by rfl) (w.heap.size + 1) 0 (by rfl) zz _ (range_blk HZ.out) Tryz.underlying55 (by rfl) HIZ.out ?_)
      | (refine wpList_store_mid (by rfl) 55 (.tmp 6) (.tmp 15) (by rfl) w.heap.size 0 zz (by rfl) (by rfl) (there_blk HR.out _ (Nat.le_refl _)) HIZ.out HZO.out ?_)
      | fail)
    have hE := blk_cells (ds := zz) HR.out (by rfl)
    have hp := put_cells W w.heap.size zz.toList
    have hq := load_blk (P := Tryz.prog) hE Tryz.underlying55 rfl HIZ.out
    refine bodyPost_ret (v := .tuple #[.agg zz, .int .i64 2]) ?_ ?_ ?_
    · exact results_pair (v := .agg zz) 6 7 55 ⟨w.heap.size, 0, none⟩ Tryz.results61 rfl hq rfl
    · rfl
    exact ⟨by rw [GE.out, IE.out], below_g HG.out hp (by have := HR.out.lt; omega) (Nat.le_refl _)⟩
set_option maxHeartbeats 3200000 in
theorem decpart_any (A : Option Addr) (b : L) (c : Nat) (w : World) (hr : Rd w w.heap.size A (bvs b)) : Calls Tryz.prog 23 #[.slice A b.length c] w fun e w' => e = .returned (.tuple #[.agg (ptC (ptG b)).toArray, .int .i64 (ptI b)]) ∧ Below w.heap.size w w' := by
  obtain ⟨zz, ezz⟩ : ∃ z : Array Value, z = #[.string ⟨#[]⟩, .string ⟨#[]⟩, .int .u8 0, .int .u8 0, .int .u8 0, .int .u8 0, .int .u8 0, .int .u8 0, .int .u8 0, .int .u8 0, .int .u8 0, .int .u8 0, .int .u8 0, .int .u8 0, .int .u8 0, .int .u8 0, .int .u8 0, .int .u8 0, .int .u8 0, .int .u8 0, .int .u8 0, .int .u8 0, .int .u8 0, .int .u8 0, .int .u8 0, .int .u8 0, .int .u8 0, .int .u8 0, .int .u8 0, .int .u8 0, .int .u8 0, .int .u8 0, .int .u8 0, .int .u8 0, .string ⟨#[]⟩, .int .i64 0, .int .i64 0] := ⟨_, rfl⟩
  have hzs : zz.size = 37 := by rw [ezz]; simp
  have hgs : (ptC (ptG b)).toArray.size = 37 := by exact pt_size (ptG_key b)
  have hgo : (ptC (ptG b)).toArray.all (·.oneCell') = true := one_ptQ _ _ _ _ _
  have c1 := decode_pt A b c (w.alloc (.cells zz 55)) ((hr.alloc (Nat.le_refl _) _).more (by simp))
  obtain ⟨cs, ecs⟩ : ∃ cs, cs = (ptC (ptG b)).toArray := ⟨_, rfl⟩
  rw [← ecs] at hgs hgo c1 ⊢
  have HI := Lib.hid (show (Tryz.prog.info? 55).map (·.size) = some cs.size by rw [hgs]; kernel_rfl)
  have HO := Lib.hid hgo
  have HCS := Lib.hid hgs
  have HZS := Lib.hid hzs
  have HR := Lib.hid (Blk.new w 55 zz)
  have HG := Lib.hid ((Below.refl w.heap.size w).alloc (Nat.le_refl _) (.cells zz 55))
  clear hgs hgo hzs ecs hr
  go_enter Tryz.func23, Tryz.ntmps23
  go_upto_region 1 with fail
  rw [← ezz]
  clear ezz
  go_wp2_with (first
    | (go_at_call 61; refine Calls.mono c1 ?_; rintro e w1 ⟨rfl, hb⟩; clear c1; replace HR := Lib.hid (HR.out.below hb); replace HG := Lib.hid (HG.out.trans (hb.mono HG.out.size)); clear hb)
    | (refine wpList_store_mid (by rfl) 55 (.tmp 2) (.tmp 6) (by rfl) w.heap.size 0 cs (by rfl) (by rfl) (there_blk HR.out _ (by have := HZS.out; have := HCS.out; omega)) HI.out HO.out ?_)
    | fail)
  have hE := blk_cells (ds := cs) HR.out (by have := HZS.out; have := HCS.out; omega)
  have hp := put_cells w1 w.heap.size cs.toList
  have hq := load_blk (P := Tryz.prog) hE Tryz.underlying55 rfl HI.out
  refine bodyPost_ret (v := .tuple #[.agg cs, .int .i64 (ptI b)]) ?_ ?_ ?_
  · exact results_pair (v := .agg cs) 2 3 55 ⟨w.heap.size, 0, none⟩ Tryz.results23 rfl hq rfl
  · rfl
  exact ⟨rfl, below_g HG.out hp (by have := HR.out.lt; omega) (Nat.le_refl _)⟩
set_option maxHeartbeats 6400000 in
theorem decode_rp (A : Option Addr) (b : L) (c : Nat) (w : World) (hr : Rd w w.heap.size A (bvs b)) : Calls Tryz.prog 67 #[.slice A b.length c, .func (.func 68) #[] #[], .func (.func 21) #[] #[]] w fun e w' => e = .returned (.tuple #[.agg (rpC (rpG b)).toArray, .int .i64 (rpI b)]) ∧ Below w.heap.size w w' := by
  obtain ⟨zz, ezz⟩ : ∃ z : Array Value, z = #[.int .u8 0, .int .u8 0, .int .u8 0, .int .u8 0, .int .u8 0, .int .u8 0, .int .u8 0, .int .u8 0, .int .u8 0, .int .u8 0, .int .u8 0, .int .u8 0, .int .u8 0, .int .u8 0, .int .u8 0, .int .u8 0, .int .u8 0, .int .u8 0, .int .u8 0, .int .u8 0, .int .u8 0, .int .u8 0, .int .u8 0, .int .u8 0, .int .u8 0, .int .u8 0, .int .u8 0, .int .u8 0, .int .u8 0, .int .u8 0, .int .u8 0, .int .u8 0, .string ⟨#[]⟩, .string ⟨#[]⟩, .int .i64 0, .int .i64 0, .int .i64 0] := ⟨_, rfl⟩
  have ez0 : (rpC rp0).toArray = zz := by rw [ezz]; rfl
  have hzs : zz.size = 37 := by rw [ezz]; simp
  have hzo : zz.all (·.oneCell') = true := by rw [← ez0]; exact one_rpQ _ _ _ _ _
  obtain ⟨W, eW⟩ : ∃ W, W = (w.alloc (.cells zz 59)).alloc (.cells zz 59) := ⟨_, rfl⟩
  have hWs : W.heap.size = w.heap.size + 1 + 1 := by rw [eW]; simp
  have hq := Blk.new (w.alloc (.cells zz 59)) 59 zz
  rw [show (w.alloc (.cells zz 59)).heap.size = w.heap.size + 1 by simp, ← eW] at hq
  have HZ := Lib.hid hq
  clear hq
  have HR := Lib.hid (show Blk W w.heap.size 59 zz by rw [eW]; exact (Blk.new _ _ _).alloc _)
  have HG := Lib.hid (show Below w.heap.size w W by rw [eW]; exact ((Below.refl _ _).alloc (Nat.le_refl _) _).alloc (by simp) _)
  have HRD := Lib.hid (fun w1 (h : Below w.heap.size w w1) => (hr.below h).more h.size)
  have HIZ := Lib.hid (show (Tryz.prog.info? 59).map (·.size) = some zz.size by rw [hzs]; kernel_rfl)
  have HZO := Lib.hid hzo
  have HZS := Lib.hid hzs
  have ED := Lib.hid (rp_same b)
  have HWS := Lib.hid hWs
  clear hWs hzo hzs
  by_cases hl : b.length ≤ 2000
  · have t1 : decide ((2000 : Int) < (b.length : Int)) = false := decide_eq_false (by omega)
    have hl1 : b.length ≤ 100000 := by omega
    have hb0 := bd_len 122 (show ((some b : Option L).getD []).length ≤ 100000 from hl1)
    have hsm : pSm (rpQ b).1.s := prQ_sm (nx_len 4 hb0)
    have T1 := Lib.hid (fun w1 (h : Rd w1 w1.heap.size A (bvs b)) => (show Calls Tryz.prog 68 #[.slice A b.length c] w1 fun e w' => e = .returned (.agg (rpC (rpQ b).1).toArray) ∧ Below w1.heap.size w1 w' from takerp_any A b c w1 h hl1))
    have EN := Lib.hid (fun w1 => (show Calls Tryz.prog 21 #[.agg (rpC (rpQ b).1).toArray] w1 (EncR w1 (rpO (rpQ b).1)) from encrep_any (rpQ b).1 w1 (rpQ_key b) hsm))
    have hcs : (rpC (rpQ b).1).toArray.size = 37 := by exact rp_size (rpQ_key b)
    have hco : (rpC (rpQ b).1).toArray.all (·.oneCell') = true := one_rpQ _ _ _ _ _
    have BE := Lib.hid (fun (l : L) (g c2 : Nat) (w1 : World) (h : Rd w1 w1.heap.size (some ⟨g, 0, none⟩) (bvs l)) (hb : Below w.heap.size w w1) => beq_any l b (some ⟨g, 0, none⟩) A c2 c w1.heap.size w1 h (HRD.out w1 hb))
    obtain ⟨cs, ecs⟩ : ∃ cs, cs = (rpC (rpQ b).1).toArray := ⟨_, rfl⟩
    rw [← ecs] at T1 EN hcs hco
    have HCI := Lib.hid (show (Tryz.prog.info? 59).map (·.size) = some cs.size by rw [hcs]; kernel_rfl)
    have HCO := Lib.hid hco
    have HCS := Lib.hid hcs
    clear hcs hco hl hl1 hr hsm hb0
    cases ho : rpO (rpQ b).1 with
    | none =>
      rw [ho] at EN
      have hD : rpD b = none := by rw [ED.out, ho]; rfl
      have GE := Lib.hid (show (rpC (rpG b)).toArray = zz by rw [rpG, hD]; exact ez0)
      have IE := Lib.hid (show rpI b = 2 by rw [rpI, hD]; rfl)
      clear ED ho hD ecs ez0 BE
      go_enter Tryz.func67, Tryz.ntmps67
      go_upto_region 2 with fail
      rw [← ezz, ← eW]
      clear ezz eW
      go_wp2_with (first
        | (refine load_cells (by rfl) 59 (.tmp 8) (by rfl) (w.heap.size + 1) 0 (by rfl) zz _ (range_blk HZ.out) Tryz.underlying59 (by rfl) HIZ.out ?_)
        | (refine wpList_store_mid (by rfl) 59 (.tmp 6) (.tmp 33) (by rfl) w.heap.size 0 zz (by rfl) (by rfl) (there_blk HR.out _ (Nat.le_refl _)) HIZ.out HZO.out ?_)
        | (go_at_call 68; refine Calls.mono (T1.out _ (HRD.out _ HG.out)) ?_; rintro e w4 ⟨rfl, hb⟩; clear T1; replace HZ := Lib.hid (HZ.out.below hb); replace HR := Lib.hid (HR.out.below hb); replace HG := Lib.hid (HG.out.trans (hb.mono HG.out.size)); clear hb)
        | (refine wpList_store_mid (by rfl) 59 (.tmp 9) (.tmp 18) (by rfl) w4.heap.size 0 cs (by rfl) (by rfl) (there_blk (Blk.new w4 59 #[.int .u8 0, .int .u8 0, .int .u8 0, .int .u8 0, .int .u8 0, .int .u8 0, .int .u8 0, .int .u8 0, .int .u8 0, .int .u8 0, .int .u8 0, .int .u8 0, .int .u8 0, .int .u8 0, .int .u8 0, .int .u8 0, .int .u8 0, .int .u8 0, .int .u8 0, .int .u8 0, .int .u8 0, .int .u8 0, .int .u8 0, .int .u8 0, .int .u8 0, .int .u8 0, .int .u8 0, .int .u8 0, .int .u8 0, .int .u8 0, .int .u8 0, .int .u8 0, .string ⟨#[]⟩, .string ⟨#[]⟩, .int .i64 0, .int .i64 0, .int .i64 0]) _ (by have := HCS.out; simp; omega)) HCI.out HCO.out ?_; have hV := stored_new w4 59 #[.int .u8 0, .int .u8 0, .int .u8 0, .int .u8 0, .int .u8 0, .int .u8 0, .int .u8 0, .int .u8 0, .int .u8 0, .int .u8 0, .int .u8 0, .int .u8 0, .int .u8 0, .int .u8 0, .int .u8 0, .int .u8 0, .int .u8 0, .int .u8 0, .int .u8 0, .int .u8 0, .int .u8 0, .int .u8 0, .int .u8 0, .int .u8 0, .int .u8 0, .int .u8 0, .int .u8 0, .int .u8 0, .int .u8 0, .int .u8 0, .int .u8 0, .int .u8 0, .string ⟨#[]⟩, .string ⟨#[]⟩, .int .i64 0, .int .i64 0, .int .i64 0] cs (by have := HCS.out; simp; omega); generalize ((w4.alloc (.cells #[.int .u8 0, .int .u8 0, .int .u8 0, .int .u8 0, .int .u8 0, .int .u8 0, .int .u8 0, .int .u8 0, .int .u8 0, .int .u8 0, .int .u8 0, .int .u8 0, .int .u8 0, .int .u8 0, .int .u8 0, .int .u8 0, .int .u8 0, .int .u8 0, .int .u8 0, .int .u8 0, .int .u8 0, .int .u8 0, .int .u8 0, .int .u8 0, .int .u8 0, .int .u8 0, .int .u8 0, .int .u8 0, .int .u8 0, .int .u8 0, .int .u8 0, .int .u8 0, .string ⟨#[]⟩, .string ⟨#[]⟩, .int .i64 0, .int .i64 0, .int .i64 0] 59)).setCells w4.heap.size 0 cs.toList) = V at hV ⊢; have HX := Lib.hid hV.1; replace HZ := Lib.hid (HZ.out.below hV.2); replace HR := Lib.hid (HR.out.below hV.2); replace HG := Lib.hid (HG.out.trans (hV.2.mono HG.out.size)); clear hV)
        | (refine load_cells (by rfl) 59 (.tmp 9) (by rfl) w4.heap.size 0 (by rfl) cs _ (range_blk HX.out) Tryz.underlying59 (by rfl) HCI.out ?_)
        | (go_at_call 21; refine Calls.mono (EN.out _) ?_; rintro e we ⟨⟨v, i, rfl, hn, hsm⟩, hb⟩; obtain ⟨rfl, rfl⟩ := hn rfl; clear EN; replace HX := Lib.hid (HX.out.below hb); replace HZ := Lib.hid (HZ.out.below hb); replace HR := Lib.hid (HR.out.below hb); replace HG := Lib.hid (HG.out.trans (hb.mono HG.out.size)); clear hb hn hsm)
        | fail)
      have hE := blk_cells (ds := zz) HR.out (by rfl)
      have hp := put_cells we w.heap.size zz.toList
      have hq := load_blk (P := Tryz.prog) hE Tryz.underlying59 rfl HIZ.out
      refine bodyPost_ret (v := .tuple #[.agg zz, .int .i64 2]) ?_ ?_ ?_
      · exact results_pair (v := .agg zz) 6 7 59 ⟨w.heap.size, 0, none⟩ Tryz.results67 rfl hq rfl
      · rfl
      exact ⟨by rw [GE.out, IE.out], below_g HG.out hp (by have := HR.out.lt; omega) (Nat.le_refl _)⟩
    | some l =>
      rw [ho] at EN
      by_cases hlb : l = b
      · have BF := Lib.hid (decide_eq_true hlb)
        have hD : rpD b = some (rpQ b).1 := by rw [ED.out, ho, if_pos (by rw [hlb])]
        have GE := Lib.hid (show (rpC (rpG b)).toArray = cs by rw [rpG, hD]; exact ecs.symm)
        have IE := Lib.hid (show rpI b = 0 by rw [rpI, hD]; rfl)
        clear ED ho hlb hD ecs ez0
        go_enter Tryz.func67, Tryz.ntmps67
        go_upto_region 2 with fail
        rw [← ezz, ← eW]
        clear ezz eW
        go_wp2_with (first
          | (refine load_cells (by rfl) 59 (.tmp 8) (by rfl) (w.heap.size + 1) 0 (by rfl) zz _ (range_blk HZ.out) Tryz.underlying59 (by rfl) HIZ.out ?_)
          | (refine wpList_store_mid (by rfl) 59 (.tmp 6) (.tmp 34) (by rfl) w.heap.size 0 cs (by rfl) (by rfl) (there_blk HR.out _ (by have := HZS.out; have := HCS.out; omega)) HCI.out HCO.out ?_)
          | (go_at_call 68; refine Calls.mono (T1.out _ (HRD.out _ HG.out)) ?_; rintro e w4 ⟨rfl, hb⟩; clear T1; replace HZ := Lib.hid (HZ.out.below hb); replace HR := Lib.hid (HR.out.below hb); replace HG := Lib.hid (HG.out.trans (hb.mono HG.out.size)); clear hb)
          | (refine wpList_store_mid (by rfl) 59 (.tmp 9) (.tmp 18) (by rfl) w4.heap.size 0 cs (by rfl) (by rfl) (there_blk (Blk.new w4 59 #[.int .u8 0, .int .u8 0, .int .u8 0, .int .u8 0, .int .u8 0, .int .u8 0, .int .u8 0, .int .u8 0, .int .u8 0, .int .u8 0, .int .u8 0, .int .u8 0, .int .u8 0, .int .u8 0, .int .u8 0, .int .u8 0, .int .u8 0, .int .u8 0, .int .u8 0, .int .u8 0, .int .u8 0, .int .u8 0, .int .u8 0, .int .u8 0, .int .u8 0, .int .u8 0, .int .u8 0, .int .u8 0, .int .u8 0, .int .u8 0, .int .u8 0, .int .u8 0, .string ⟨#[]⟩, .string ⟨#[]⟩, .int .i64 0, .int .i64 0, .int .i64 0]) _ (by have := HCS.out; simp; omega)) HCI.out HCO.out ?_; have hV := stored_new w4 59 #[.int .u8 0, .int .u8 0, .int .u8 0, .int .u8 0, .int .u8 0, .int .u8 0, .int .u8 0, .int .u8 0, .int .u8 0, .int .u8 0, .int .u8 0, .int .u8 0, .int .u8 0, .int .u8 0, .int .u8 0, .int .u8 0, .int .u8 0, .int .u8 0, .int .u8 0, .int .u8 0, .int .u8 0, .int .u8 0, .int .u8 0, .int .u8 0, .int .u8 0, .int .u8 0, .int .u8 0, .int .u8 0, .int .u8 0, .int .u8 0, .int .u8 0, .int .u8 0, .string ⟨#[]⟩, .string ⟨#[]⟩, .int .i64 0, .int .i64 0, .int .i64 0] cs (by have := HCS.out; simp; omega); generalize ((w4.alloc (.cells #[.int .u8 0, .int .u8 0, .int .u8 0, .int .u8 0, .int .u8 0, .int .u8 0, .int .u8 0, .int .u8 0, .int .u8 0, .int .u8 0, .int .u8 0, .int .u8 0, .int .u8 0, .int .u8 0, .int .u8 0, .int .u8 0, .int .u8 0, .int .u8 0, .int .u8 0, .int .u8 0, .int .u8 0, .int .u8 0, .int .u8 0, .int .u8 0, .int .u8 0, .int .u8 0, .int .u8 0, .int .u8 0, .int .u8 0, .int .u8 0, .int .u8 0, .int .u8 0, .string ⟨#[]⟩, .string ⟨#[]⟩, .int .i64 0, .int .i64 0, .int .i64 0] 59)).setCells w4.heap.size 0 cs.toList) = V at hV ⊢; have HX := Lib.hid hV.1; replace HZ := Lib.hid (HZ.out.below hV.2); replace HR := Lib.hid (HR.out.below hV.2); replace HG := Lib.hid (HG.out.trans (hV.2.mono HG.out.size)); clear hV)
          | (refine load_cells (by rfl) 59 (.tmp 9) (by rfl) w4.heap.size 0 (by rfl) cs _ (range_blk HX.out) Tryz.underlying59 (by rfl) HCI.out ?_)
          | (go_at_call 21; refine Calls.mono (EN.out _) ?_; rintro e we ⟨⟨v, i, rfl, hn, hsm⟩, hb⟩; obtain ⟨rfl, gx, cx, rfl, hgx, hcx, hrx⟩ := hsm l rfl; have HRX := Lib.hid hrx; clear hgx hcx hrx; clear EN; replace HX := Lib.hid (HX.out.below hb); replace HZ := Lib.hid (HZ.out.below hb); replace HR := Lib.hid (HR.out.below hb); replace HG := Lib.hid (HG.out.trans (hb.mono HG.out.size)); clear hb hn hsm)
          | (go_at_call 87; refine Calls.mono (BE.out l gx cx _ HRX.out HG.out) ?_; rw [BF.out]; rintro e wb ⟨rfl, hw⟩; subst hw; clear BE)
          | fail)
        have hE := blk_cells (ds := cs) HR.out (by have := HZS.out; have := HCS.out; omega)
        have hp := put_cells we w.heap.size cs.toList
        have hq := load_blk (P := Tryz.prog) hE Tryz.underlying59 rfl HCI.out
        refine bodyPost_ret (v := .tuple #[.agg cs, .int .i64 0]) ?_ ?_ ?_
        · exact results_pair (v := .agg cs) 6 7 59 ⟨w.heap.size, 0, none⟩ Tryz.results67 rfl hq rfl
        · rfl
        exact ⟨by rw [GE.out, IE.out], below_g HG.out hp (by have := HR.out.lt; omega) (Nat.le_refl _)⟩
      · have BF := Lib.hid (decide_eq_false hlb)
        have hD : rpD b = none := by rw [ED.out, ho, if_neg (fun h => hlb (Option.some.inj h))]
        have GE := Lib.hid (show (rpC (rpG b)).toArray = zz by rw [rpG, hD]; exact ez0)
        have IE := Lib.hid (show rpI b = 2 by rw [rpI, hD]; rfl)
        clear ED ho hlb hD ecs ez0
        go_enter Tryz.func67, Tryz.ntmps67
        go_upto_region 2 with fail
        rw [← ezz, ← eW]
        clear ezz eW
        go_wp2_with (first
          | (refine load_cells (by rfl) 59 (.tmp 8) (by rfl) (w.heap.size + 1) 0 (by rfl) zz _ (range_blk HZ.out) Tryz.underlying59 (by rfl) HIZ.out ?_)
          | (refine wpList_store_mid (by rfl) 59 (.tmp 6) (.tmp 33) (by rfl) w.heap.size 0 zz (by rfl) (by rfl) (there_blk HR.out _ (Nat.le_refl _)) HIZ.out HZO.out ?_)
          | (go_at_call 68; refine Calls.mono (T1.out _ (HRD.out _ HG.out)) ?_; rintro e w4 ⟨rfl, hb⟩; clear T1; replace HZ := Lib.hid (HZ.out.below hb); replace HR := Lib.hid (HR.out.below hb); replace HG := Lib.hid (HG.out.trans (hb.mono HG.out.size)); clear hb)
          | (refine wpList_store_mid (by rfl) 59 (.tmp 9) (.tmp 18) (by rfl) w4.heap.size 0 cs (by rfl) (by rfl) (there_blk (Blk.new w4 59 #[.int .u8 0, .int .u8 0, .int .u8 0, .int .u8 0, .int .u8 0, .int .u8 0, .int .u8 0, .int .u8 0, .int .u8 0, .int .u8 0, .int .u8 0, .int .u8 0, .int .u8 0, .int .u8 0, .int .u8 0, .int .u8 0, .int .u8 0, .int .u8 0, .int .u8 0, .int .u8 0, .int .u8 0, .int .u8 0, .int .u8 0, .int .u8 0, .int .u8 0, .int .u8 0, .int .u8 0, .int .u8 0, .int .u8 0, .int .u8 0, .int .u8 0, .int .u8 0, .string ⟨#[]⟩, .string ⟨#[]⟩, .int .i64 0, .int .i64 0, .int .i64 0]) _ (by have := HCS.out; simp; omega)) HCI.out HCO.out ?_; have hV := stored_new w4 59 #[.int .u8 0, .int .u8 0, .int .u8 0, .int .u8 0, .int .u8 0, .int .u8 0, .int .u8 0, .int .u8 0, .int .u8 0, .int .u8 0, .int .u8 0, .int .u8 0, .int .u8 0, .int .u8 0, .int .u8 0, .int .u8 0, .int .u8 0, .int .u8 0, .int .u8 0, .int .u8 0, .int .u8 0, .int .u8 0, .int .u8 0, .int .u8 0, .int .u8 0, .int .u8 0, .int .u8 0, .int .u8 0, .int .u8 0, .int .u8 0, .int .u8 0, .int .u8 0, .string ⟨#[]⟩, .string ⟨#[]⟩, .int .i64 0, .int .i64 0, .int .i64 0] cs (by have := HCS.out; simp; omega); generalize ((w4.alloc (.cells #[.int .u8 0, .int .u8 0, .int .u8 0, .int .u8 0, .int .u8 0, .int .u8 0, .int .u8 0, .int .u8 0, .int .u8 0, .int .u8 0, .int .u8 0, .int .u8 0, .int .u8 0, .int .u8 0, .int .u8 0, .int .u8 0, .int .u8 0, .int .u8 0, .int .u8 0, .int .u8 0, .int .u8 0, .int .u8 0, .int .u8 0, .int .u8 0, .int .u8 0, .int .u8 0, .int .u8 0, .int .u8 0, .int .u8 0, .int .u8 0, .int .u8 0, .int .u8 0, .string ⟨#[]⟩, .string ⟨#[]⟩, .int .i64 0, .int .i64 0, .int .i64 0] 59)).setCells w4.heap.size 0 cs.toList) = V at hV ⊢; have HX := Lib.hid hV.1; replace HZ := Lib.hid (HZ.out.below hV.2); replace HR := Lib.hid (HR.out.below hV.2); replace HG := Lib.hid (HG.out.trans (hV.2.mono HG.out.size)); clear hV)
          | (refine load_cells (by rfl) 59 (.tmp 9) (by rfl) w4.heap.size 0 (by rfl) cs _ (range_blk HX.out) Tryz.underlying59 (by rfl) HCI.out ?_)
          | (go_at_call 21; refine Calls.mono (EN.out _) ?_; rintro e we ⟨⟨v, i, rfl, hn, hsm⟩, hb⟩; obtain ⟨rfl, gx, cx, rfl, hgx, hcx, hrx⟩ := hsm l rfl; have HRX := Lib.hid hrx; clear hgx hcx hrx; clear EN; replace HX := Lib.hid (HX.out.below hb); replace HZ := Lib.hid (HZ.out.below hb); replace HR := Lib.hid (HR.out.below hb); replace HG := Lib.hid (HG.out.trans (hb.mono HG.out.size)); clear hb hn hsm)
          | (go_at_call 87; refine Calls.mono (BE.out l gx cx _ HRX.out HG.out) ?_; rw [BF.out]; rintro e wb ⟨rfl, hw⟩; subst hw; clear BE)
          | fail)
        have hE := blk_cells (ds := zz) HR.out (by rfl)
        have hp := put_cells we w.heap.size zz.toList
        have hq := load_blk (P := Tryz.prog) hE Tryz.underlying59 rfl HIZ.out
        refine bodyPost_ret (v := .tuple #[.agg zz, .int .i64 2]) ?_ ?_ ?_
        · exact results_pair (v := .agg zz) 6 7 59 ⟨w.heap.size, 0, none⟩ Tryz.results67 rfl hq rfl
        · rfl
        exact ⟨by rw [GE.out, IE.out], below_g HG.out hp (by have := HR.out.lt; omega) (Nat.le_refl _)⟩
  · have t1 : decide ((2000 : Int) < (b.length : Int)) = true := decide_eq_true (by omega)
    have hD : rpD b = none := by
      rw [ED.out, if_neg]
      intro h; have h2 := lim_iff.1 h; exact hl (by rw [← h2.2.2]; exact h2.2.1)
    have GE := Lib.hid (show (rpC (rpG b)).toArray = zz by rw [rpG, hD]; exact ez0)
    have IE := Lib.hid (show rpI b = 2 by rw [rpI, hD]; rfl)
    clear ED hD hl ez0 hr HRD
    go_enter Tryz.func67, Tryz.ntmps67
    go_upto_region 2 with fail
    rw [← ezz, ← eW]
    clear ezz eW
    go_wp2_with (first
      | (refine load_cells (by rfl) 59 (.tmp 8) (by rfl) (w.heap.size + 1) 0 (by rfl) zz _ (range_blk HZ.out) Tryz.underlying59 (by rfl) HIZ.out ?_)
      | (refine wpList_store_mid (by rfl) 59 (.tmp 6) (.tmp 15) (by rfl) w.heap.size 0 zz (by rfl) (by rfl) (there_blk HR.out _ (Nat.le_refl _)) HIZ.out HZO.out ?_)
      | fail)
    have hE := blk_cells (ds := zz) HR.out (by rfl)
    have hp := put_cells W w.heap.size zz.toList
    have hq := load_blk (P := Tryz.prog) hE Tryz.underlying59 rfl HIZ.out
    refine bodyPost_ret (v := .tuple #[.agg zz, .int .i64 2]) ?_ ?_ ?_
    · exact results_pair (v := .agg zz) 6 7 59 ⟨w.heap.size, 0, none⟩ Tryz.results67 rfl hq rfl
    · rfl
    exact ⟨by rw [GE.out, IE.out], below_g HG.out hp (by have := HR.out.lt; omega) (Nat.le_refl _)⟩
set_option maxHeartbeats 3200000 in
theorem decrep_any (A : Option Addr) (b : L) (c : Nat) (w : World) (hr : Rd w w.heap.size A (bvs b)) : Calls Tryz.prog 27 #[.slice A b.length c] w fun e w' => e = .returned (.tuple #[.agg (rpC (rpG b)).toArray, .int .i64 (rpI b)]) ∧ Below w.heap.size w w' := by
  obtain ⟨zz, ezz⟩ : ∃ z : Array Value, z = #[.int .u8 0, .int .u8 0, .int .u8 0, .int .u8 0, .int .u8 0, .int .u8 0, .int .u8 0, .int .u8 0, .int .u8 0, .int .u8 0, .int .u8 0, .int .u8 0, .int .u8 0, .int .u8 0, .int .u8 0, .int .u8 0, .int .u8 0, .int .u8 0, .int .u8 0, .int .u8 0, .int .u8 0, .int .u8 0, .int .u8 0, .int .u8 0, .int .u8 0, .int .u8 0, .int .u8 0, .int .u8 0, .int .u8 0, .int .u8 0, .int .u8 0, .int .u8 0, .string ⟨#[]⟩, .string ⟨#[]⟩, .int .i64 0, .int .i64 0, .int .i64 0] := ⟨_, rfl⟩
  have hzs : zz.size = 37 := by rw [ezz]; simp
  have hgs : (rpC (rpG b)).toArray.size = 37 := by exact rp_size (rpG_key b)
  have hgo : (rpC (rpG b)).toArray.all (·.oneCell') = true := one_rpQ _ _ _ _ _
  have c1 := decode_rp A b c (w.alloc (.cells zz 59)) ((hr.alloc (Nat.le_refl _) _).more (by simp))
  obtain ⟨cs, ecs⟩ : ∃ cs, cs = (rpC (rpG b)).toArray := ⟨_, rfl⟩
  rw [← ecs] at hgs hgo c1 ⊢
  have HI := Lib.hid (show (Tryz.prog.info? 59).map (·.size) = some cs.size by rw [hgs]; kernel_rfl)
  have HO := Lib.hid hgo
  have HCS := Lib.hid hgs
  have HZS := Lib.hid hzs
  have HR := Lib.hid (Blk.new w 59 zz)
  have HG := Lib.hid ((Below.refl w.heap.size w).alloc (Nat.le_refl _) (.cells zz 59))
  clear hgs hgo hzs ecs hr
  go_enter Tryz.func27, Tryz.ntmps27
  go_upto_region 1 with fail
  rw [← ezz]
  clear ezz
  go_wp2_with (first
    | (go_at_call 67; refine Calls.mono c1 ?_; rintro e w1 ⟨rfl, hb⟩; clear c1; replace HR := Lib.hid (HR.out.below hb); replace HG := Lib.hid (HG.out.trans (hb.mono HG.out.size)); clear hb)
    | (refine wpList_store_mid (by rfl) 59 (.tmp 2) (.tmp 6) (by rfl) w.heap.size 0 cs (by rfl) (by rfl) (there_blk HR.out _ (by have := HZS.out; have := HCS.out; omega)) HI.out HO.out ?_)
    | fail)
  have hE := blk_cells (ds := cs) HR.out (by have := HZS.out; have := HCS.out; omega)
  have hp := put_cells w1 w.heap.size cs.toList
  have hq := load_blk (P := Tryz.prog) hE Tryz.underlying59 rfl HI.out
  refine bodyPost_ret (v := .tuple #[.agg cs, .int .i64 (rpI b)]) ?_ ?_ ?_
  · exact results_pair (v := .agg cs) 2 3 59 ⟨w.heap.size, 0, none⟩ Tryz.results27 rfl hq rfl
  · rfl
  exact ⟨rfl, below_g HG.out hp (by have := HR.out.lt; omega) (Nat.le_refl _)⟩
end Go.Proofs.YteeabfplnaknfaaGreat.Mc
end

section
set_option linter.unusedVariables false
set_option linter.unusedSimpArgs false
namespace Go.Proofs.YteeabfplnaknfaaGreat.Mc
open Go.RowKit Go.Proofs.YteeabfplnaknfaaGreat.Mem Go.Proofs.YteeabfplnaknfaaGreat.DerP Go.Proofs.YteeabfplnaknfaaGreat.Ms

theorem eql_fa (x y : Fa) (w : World) : (Op.equalIn 10000 37 (.agg #[.int .i64 x.e, .int .i64 x.no]) (.agg #[.int .i64 y.e, .int .i64 y.no])).run Tryz.prog w = .ok (decide (x = y)) w := by
  obtain ⟨e, no⟩ := x
  obtain ⟨e2, no2⟩ := y
  simp only
  by_cases h0 : e = e2
  · subst h0
    by_cases h1 : no = no2
    · subst h1
      rw [decide_eq_true rfl]
      go_simp
    · rw [decide_eq_false (fun h => h1 (congrArg (fun z => z.no) h))]
      go_simp
  · rw [decide_eq_false (fun h => h0 (congrArg (fun z => z.e) h))]
    go_simp
theorem eql_as (x y : As) (w : World) : (Op.equalIn 10000 25 (.agg #[.string ⟨x.c.1.toArray⟩, .string ⟨x.c.2.toArray⟩, .string ⟨x.s.1.toArray⟩, .string ⟨x.s.2.toArray⟩, .int .i64 x.t, .int .i64 x.no]) (.agg #[.string ⟨y.c.1.toArray⟩, .string ⟨y.c.2.toArray⟩, .string ⟨y.s.1.toArray⟩, .string ⟨y.s.2.toArray⟩, .int .i64 y.t, .int .i64 y.no])).run Tryz.prog w = .ok (decide (x = y)) w := by
  obtain ⟨⟨a, b⟩, ⟨c, d⟩, t, no⟩ := x
  obtain ⟨⟨a2, b2⟩, ⟨c2, d2⟩, t2, no2⟩ := y
  simp only
  by_cases h0 : a = a2
  · subst h0
    by_cases h1 : b = b2
    · subst h1
      by_cases h2 : c = c2
      · subst h2
        by_cases h3 : d = d2
        · subst h3
          by_cases h4 : t = t2
          · subst h4
            by_cases h5 : no = no2
            · subst h5
              rw [decide_eq_true rfl]
              go_simp
            · rw [decide_eq_false (fun h => h5 (congrArg (fun z => z.no) h))]
              go_simp
          · rw [decide_eq_false (fun h => h4 (congrArg (fun z => z.t) h))]
            go_simp
        · rw [decide_eq_false (fun h => h3 (congrArg (fun z => z.s.2) h))]
          go_simp
      · rw [decide_eq_false (fun h => h2 (congrArg (fun z => z.s.1) h))]
        go_simp
    · rw [decide_eq_false (fun h => h1 (congrArg (fun z => z.c.2) h))]
      go_simp
  · rw [decide_eq_false (fun h => h0 (congrArg (fun z => z.c.1) h))]
    go_simp
end Go.Proofs.YteeabfplnaknfaaGreat.Mc
end
