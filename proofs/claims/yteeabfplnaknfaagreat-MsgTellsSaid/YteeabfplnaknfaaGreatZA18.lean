import Derived.Deep.LoopGhost
import Derived.Deep.MidRow
import Derived.Deep.RegionHeld3
import Derived.Laws.IdiomCopy
import Derived.Test.YteeabfplnaknfaaGreatZA1
import Derived.Test.YteeabfplnaknfaaGreatZA2
import Derived.Test.YteeabfplnaknfaaGreatZA3
import Derived.Test.YteeabfplnaknfaaGreatZA4
import Derived.Test.YteeabfplnaknfaaGreatZA5
import Derived.Test.YteeabfplnaknfaaGreatZA6
import Derived.Test.YteeabfplnaknfaaGreatZA7
import Derived.Test.YteeabfplnaknfaaGreatZA8
import Derived.Test.YteeabfplnaknfaaGreatZA9
import Derived.Test.YteeabfplnaknfaaGreatZA10
import Derived.Test.YteeabfplnaknfaaGreatZA11
import Derived.Test.YteeabfplnaknfaaGreatZA12
import Derived.Test.YteeabfplnaknfaaGreatZA13
import Derived.Test.YteeabfplnaknfaaGreatZA14
import Derived.Test.YteeabfplnaknfaaGreatZA15
import Derived.Test.YteeabfplnaknfaaGreatZA16
import Derived.Test.YteeabfplnaknfaaGreatZA17
section
set_option linter.unusedVariables false
set_option linter.unusedSimpArgs false
namespace Go.Proofs.YteeabfplnaknfaaGreat.Mc
open Go.RowKit Go.Proofs.YteeabfplnaknfaaGreat.Mem Go.Proofs.YteeabfplnaknfaaGreat.DerP Go.Proofs.YteeabfplnaknfaaGreat.DerC Go.Proofs.YteeabfplnaknfaaGreat.Ms

def mgG (b : L) : Mg := (mgD b).getD mg0
def mgI (b : L) : Int := if (mgD b).isSome then 0 else 2
theorem pr0_sm : pSm pr0 := ⟨by decide, by decide⟩
theorem mgQ_sm {b : L} (hl : b.length ≤ 100000) : mSm (mgQ b) := by
  have z := pr0_sm
  have hz : mSm ⟨0, as0, tg0, re0, ap0, fa0⟩ := ⟨⟨z, z⟩, ⟨z, z⟩, ⟨z, z⟩, z⟩
  cases b with
  | nil => exact hz
  | cons t r =>
    have h0 : ∀ u, ((bodyC u (some (t :: r))).getD []).length ≤ 100000 := fun u => bd_len u (show ((some (t :: r) : Option L).getD []).length ≤ 100000 from hl)
    simp only [mgQ]
    split
    · exact ⟨⟨prQ_sm (h0 _), prQ_sm (nx_len 48 (h0 _))⟩, ⟨z, z⟩, ⟨z, z⟩, z⟩
    · split
      · exact ⟨⟨z, z⟩, ⟨prQ_sm (bd_len 97 (h0 _)), prQ_sm (nx_len 4 (nx_len 97 (h0 _)))⟩, ⟨z, z⟩, z⟩
      · split
        · exact ⟨⟨z, z⟩, ⟨z, z⟩, ⟨prQ_sm (h0 _), prQ_sm (bd_len 97 (nx_len 48 (h0 _)))⟩, z⟩
        · split
          · exact ⟨⟨z, z⟩, ⟨z, z⟩, ⟨z, z⟩, prQ_sm (bd_len 97 (h0 _))⟩
          · split
            · exact ⟨⟨z, z⟩, ⟨z, z⟩, ⟨z, z⟩, z⟩
            · exact hz
theorem zz_o (w : World) (B : Nat) : MgO w B (mgA 0 zA zT zR zP zF) mg0 := ⟨_, _, _, _, _, rfl, zM_o w B 0⟩
set_option maxHeartbeats 12800000 in
set_option maxRecDepth 10000 in
theorem decode_mg (A : Option Addr) (b : L) (c : Nat) (w : World) (hr : Rd w w.heap.size A (bvs b)) : Calls Tryz.prog 43 #[.slice A b.length c, .func (.func 44) #[] #[], .func (.func 9) #[] #[]] w fun e w' => ∃ ds, e = .returned (.tuple #[.agg ds, .int .i64 (mgI b)]) ∧ MgO w' w.heap.size ds (mgG b) ∧ Below w.heap.size w w' := by
  obtain ⟨zz, ezz⟩ : ∃ z : Array Value, z = #[.int .i64 0, .string ⟨#[]⟩, .string ⟨#[]⟩, .string ⟨#[]⟩, .string ⟨#[]⟩, .int .i64 0, .int .i64 0, .string ⟨#[]⟩, .string ⟨#[]⟩, .int .i64 0, .slice none 0 0, .slice none 0 0, .string ⟨#[]⟩, .string ⟨#[]⟩, .int .i64 0, .int .i64 0, .string ⟨#[]⟩, .string ⟨#[]⟩, .string ⟨#[]⟩, .string ⟨#[]⟩, .int .i64 0, .slice none 0 0, .slice none 0 0, .string ⟨#[]⟩, .string ⟨#[]⟩, .int .i64 0, .slice none 0 0, .slice none 0 0, .int .i64 0, .int .i64 0] := ⟨_, rfl⟩
  have ez0 : zz = mgA 0 zA zT zR zP zF := by rw [ezz]; rfl
  have hz : ∀ (w1 : World) (B : Nat), MgO w1 B zz mg0 := fun w1 B => by rw [ez0]; exact zz_o w1 B
  have hzs : zz.size = 30 := (hz w 0).size
  obtain ⟨W, eW⟩ : ∃ W, W = (w.alloc (.cells zz 39)).alloc (.cells zz 39) := ⟨_, rfl⟩
  have hWs : W.heap.size = w.heap.size + 1 + 1 := by rw [eW]; simp
  have hq := Blk.new (w.alloc (.cells zz 39)) 39 zz
  rw [show (w.alloc (.cells zz 39)).heap.size = w.heap.size + 1 by simp, ← eW] at hq
  have HZ := Lib.hid hq
  clear hq
  have HR := Lib.hid (show Blk W w.heap.size 39 zz by rw [eW]; exact (Blk.new _ _ _).alloc _)
  have HG := Lib.hid (show Below w.heap.size w W by rw [eW]; exact ((Below.refl _ _).alloc (Nat.le_refl _) _).alloc (by simp) _)
  have HRD := Lib.hid (fun w1 (h : Below w.heap.size w w1) => (hr.below h).more h.size)
  have HIZ := Lib.hid (show (Tryz.prog.info? 39).map (·.size) = some zz.size by rw [hzs]; exact mg_info)
  have HZO := Lib.hid (show zz.all (·.oneCell') = true from (hz w 0).one)
  have HZS := Lib.hid hzs
  have HZM := Lib.hid hz
  have ED := Lib.hid (mg_same b)
  have HWS := Lib.hid hWs
  clear hWs hzs ez0 hz
  by_cases hl : b.length ≤ 2000
  · have t1 : decide ((2000 : Int) < (b.length : Int)) = false := decide_eq_false (by omega)
    have hl1 : b.length ≤ 100000 := by omega
    have hsm := mgQ_sm hl1
    have T1 := Lib.hid (fun w1 (h : Rd w1 w1.heap.size A (bvs b)) => takemsg_any A b c w1 h hl1)
    have EN := Lib.hid (fun w1 cs (h : MgV w1 w1.heap.size cs (mgQ b)) => enc_any cs (mgQ b) w1 h hsm)
    have BE := Lib.hid (fun (l : L) (g c2 : Nat) (w1 : World) (h : Rd w1 w1.heap.size (some ⟨g, 0, none⟩) (bvs l)) (hb : Below w.heap.size w w1) => beq_any l b (some ⟨g, 0, none⟩) A c2 c w1.heap.size w1 h (HRD.out w1 hb))
    clear hl hl1 hr hsm
    cases ho : mgO (mgQ b) with
    | none =>
      rw [ho] at EN
      have hD : mgD b = none := by rw [ED.out, ho]; rfl
      have GE := Lib.hid (show mgG b = mg0 by rw [mgG, hD]; rfl)
      have IE := Lib.hid (show mgI b = 2 by rw [mgI, hD]; rfl)
      clear ED ho hD BE
      go_enter Tryz.func43, Tryz.ntmps43
      go_upto_region 2 with fail
      rw [← ezz, ← eW]
      clear ezz eW
      go_wp2_with (first
        | (refine load_cells (by rfl) 39 (.tmp 8) (by rfl) (w.heap.size + 1) 0 (by rfl) zz _ (range_blk HZ.out) Tryz.underlying39 (by rfl) HIZ.out ?_)
        | (refine wpList_store_mid (by rfl) 39 (.tmp 6) (.tmp 33) (by rfl) w.heap.size 0 zz (by rfl) (by rfl) (there_blk HR.out _ (Nat.le_refl _)) HIZ.out HZO.out ?_)
        | (go_at_call 44; refine Calls.mono (T1.out _ (HRD.out _ HG.out)) ?_; rintro e w4 ⟨cs, rfl, hv, hb⟩; clear T1; have HV := Lib.hid (hv.less (show w.heap.size + 1 ≤ _ by have := HR.out.lt; omega)); have HCI := Lib.hid (show (Tryz.prog.info? 39).map (·.size) = some cs.size by rw [hv.size]; exact mg_info); have HCO := Lib.hid (show cs.all (·.oneCell') = true from hv.one); have HCS := Lib.hid hv.size; clear hv; replace HZ := Lib.hid (HZ.out.below hb); replace HR := Lib.hid (HR.out.below hb); replace HG := Lib.hid (HG.out.trans (hb.mono HG.out.size)); clear hb)
        | (refine wpList_store_mid (by rfl) 39 (.tmp 9) (.tmp 18) (by rfl) w4.heap.size 0 cs (by rfl) (by rfl) (there_blk (Blk.new w4 39 #[.int .i64 0, .string ⟨#[]⟩, .string ⟨#[]⟩, .string ⟨#[]⟩, .string ⟨#[]⟩, .int .i64 0, .int .i64 0, .string ⟨#[]⟩, .string ⟨#[]⟩, .int .i64 0, .slice none 0 0, .slice none 0 0, .string ⟨#[]⟩, .string ⟨#[]⟩, .int .i64 0, .int .i64 0, .string ⟨#[]⟩, .string ⟨#[]⟩, .string ⟨#[]⟩, .string ⟨#[]⟩, .int .i64 0, .slice none 0 0, .slice none 0 0, .string ⟨#[]⟩, .string ⟨#[]⟩, .int .i64 0, .slice none 0 0, .slice none 0 0, .int .i64 0, .int .i64 0]) _ (by have := HCS.out; simp; omega)) HCI.out HCO.out ?_; have hV := stored_new w4 39 #[.int .i64 0, .string ⟨#[]⟩, .string ⟨#[]⟩, .string ⟨#[]⟩, .string ⟨#[]⟩, .int .i64 0, .int .i64 0, .string ⟨#[]⟩, .string ⟨#[]⟩, .int .i64 0, .slice none 0 0, .slice none 0 0, .string ⟨#[]⟩, .string ⟨#[]⟩, .int .i64 0, .int .i64 0, .string ⟨#[]⟩, .string ⟨#[]⟩, .string ⟨#[]⟩, .string ⟨#[]⟩, .int .i64 0, .slice none 0 0, .slice none 0 0, .string ⟨#[]⟩, .string ⟨#[]⟩, .int .i64 0, .slice none 0 0, .slice none 0 0, .int .i64 0, .int .i64 0] cs (by have := HCS.out; simp; omega); generalize ((w4.alloc (.cells #[.int .i64 0, .string ⟨#[]⟩, .string ⟨#[]⟩, .string ⟨#[]⟩, .string ⟨#[]⟩, .int .i64 0, .int .i64 0, .string ⟨#[]⟩, .string ⟨#[]⟩, .int .i64 0, .slice none 0 0, .slice none 0 0, .string ⟨#[]⟩, .string ⟨#[]⟩, .int .i64 0, .int .i64 0, .string ⟨#[]⟩, .string ⟨#[]⟩, .string ⟨#[]⟩, .string ⟨#[]⟩, .int .i64 0, .slice none 0 0, .slice none 0 0, .string ⟨#[]⟩, .string ⟨#[]⟩, .int .i64 0, .slice none 0 0, .slice none 0 0, .int .i64 0, .int .i64 0] 39)).setCells w4.heap.size 0 cs.toList) = V at hV ⊢; have HX := Lib.hid hV.1; replace HV := Lib.hid (HV.out.below hV.2); replace HZ := Lib.hid (HZ.out.below hV.2); replace HR := Lib.hid (HR.out.below hV.2); replace HG := Lib.hid (HG.out.trans (hV.2.mono HG.out.size)); clear hV)
        | (refine load_cells (by rfl) 39 (.tmp 9) (by rfl) w4.heap.size 0 (by rfl) cs _ (range_blk HX.out) Tryz.underlying39 (by rfl) HCI.out ?_)
        | (go_at_call 9; refine Calls.mono (EN.out _ _ HV.out.toV) ?_; rintro e we ⟨⟨v, i, rfl, hn, hsm⟩, hb⟩; obtain ⟨rfl, rfl⟩ := hn rfl; clear EN; replace HV := Lib.hid (HV.out.below hb); replace HX := Lib.hid (HX.out.below hb); replace HZ := Lib.hid (HZ.out.below hb); replace HR := Lib.hid (HR.out.below hb); replace HG := Lib.hid (HG.out.trans (hb.mono HG.out.size)); clear hb hn hsm)
        | fail)
      have hE := blk_cells (ds := zz) HR.out (by rfl)
      have hp := put_cells we w.heap.size zz.toList
      have hq := load_blk (P := Tryz.prog) hE Tryz.underlying39 rfl HIZ.out
      refine bodyPost_ret (v := .tuple #[.agg zz, .int .i64 2]) ?_ ?_ ?_
      · exact results_pair (v := .agg zz) 6 7 39 ⟨w.heap.size, 0, none⟩ Tryz.results43 rfl hq rfl
      · rfl
      refine ⟨_, by rw [IE.out], ?_, below_g HG.out hp (by have := HR.out.lt; omega) (Nat.le_refl _)⟩
      rw [GE.out]
      exact HZM.out _ _
    | some l =>
      rw [ho] at EN
      by_cases hlb : l = b
      · have BF := Lib.hid (decide_eq_true hlb)
        have hD : mgD b = some (mgQ b) := by rw [ED.out, ho, if_pos (by rw [hlb])]
        have GE := Lib.hid (show mgG b = mgQ b by rw [mgG, hD]; rfl)
        have IE := Lib.hid (show mgI b = 0 by rw [mgI, hD]; rfl)
        clear ED ho hlb hD
        go_enter Tryz.func43, Tryz.ntmps43
        go_upto_region 2 with fail
        rw [← ezz, ← eW]
        clear ezz eW
        go_wp2_with (first
          | (refine load_cells (by rfl) 39 (.tmp 8) (by rfl) (w.heap.size + 1) 0 (by rfl) zz _ (range_blk HZ.out) Tryz.underlying39 (by rfl) HIZ.out ?_)
          | (refine wpList_store_mid (by rfl) 39 (.tmp 6) (.tmp 34) (by rfl) w.heap.size 0 cs (by rfl) (by rfl) (there_blk HR.out _ (by have := HZS.out; have := HCS.out; omega)) HCI.out HCO.out ?_)
          | (go_at_call 44; refine Calls.mono (T1.out _ (HRD.out _ HG.out)) ?_; rintro e w4 ⟨cs, rfl, hv, hb⟩; clear T1; have HV := Lib.hid (hv.less (show w.heap.size + 1 ≤ _ by have := HR.out.lt; omega)); have HCI := Lib.hid (show (Tryz.prog.info? 39).map (·.size) = some cs.size by rw [hv.size]; exact mg_info); have HCO := Lib.hid (show cs.all (·.oneCell') = true from hv.one); have HCS := Lib.hid hv.size; clear hv; replace HZ := Lib.hid (HZ.out.below hb); replace HR := Lib.hid (HR.out.below hb); replace HG := Lib.hid (HG.out.trans (hb.mono HG.out.size)); clear hb)
          | (refine wpList_store_mid (by rfl) 39 (.tmp 9) (.tmp 18) (by rfl) w4.heap.size 0 cs (by rfl) (by rfl) (there_blk (Blk.new w4 39 #[.int .i64 0, .string ⟨#[]⟩, .string ⟨#[]⟩, .string ⟨#[]⟩, .string ⟨#[]⟩, .int .i64 0, .int .i64 0, .string ⟨#[]⟩, .string ⟨#[]⟩, .int .i64 0, .slice none 0 0, .slice none 0 0, .string ⟨#[]⟩, .string ⟨#[]⟩, .int .i64 0, .int .i64 0, .string ⟨#[]⟩, .string ⟨#[]⟩, .string ⟨#[]⟩, .string ⟨#[]⟩, .int .i64 0, .slice none 0 0, .slice none 0 0, .string ⟨#[]⟩, .string ⟨#[]⟩, .int .i64 0, .slice none 0 0, .slice none 0 0, .int .i64 0, .int .i64 0]) _ (by have := HCS.out; simp; omega)) HCI.out HCO.out ?_; have hV := stored_new w4 39 #[.int .i64 0, .string ⟨#[]⟩, .string ⟨#[]⟩, .string ⟨#[]⟩, .string ⟨#[]⟩, .int .i64 0, .int .i64 0, .string ⟨#[]⟩, .string ⟨#[]⟩, .int .i64 0, .slice none 0 0, .slice none 0 0, .string ⟨#[]⟩, .string ⟨#[]⟩, .int .i64 0, .int .i64 0, .string ⟨#[]⟩, .string ⟨#[]⟩, .string ⟨#[]⟩, .string ⟨#[]⟩, .int .i64 0, .slice none 0 0, .slice none 0 0, .string ⟨#[]⟩, .string ⟨#[]⟩, .int .i64 0, .slice none 0 0, .slice none 0 0, .int .i64 0, .int .i64 0] cs (by have := HCS.out; simp; omega); generalize ((w4.alloc (.cells #[.int .i64 0, .string ⟨#[]⟩, .string ⟨#[]⟩, .string ⟨#[]⟩, .string ⟨#[]⟩, .int .i64 0, .int .i64 0, .string ⟨#[]⟩, .string ⟨#[]⟩, .int .i64 0, .slice none 0 0, .slice none 0 0, .string ⟨#[]⟩, .string ⟨#[]⟩, .int .i64 0, .int .i64 0, .string ⟨#[]⟩, .string ⟨#[]⟩, .string ⟨#[]⟩, .string ⟨#[]⟩, .int .i64 0, .slice none 0 0, .slice none 0 0, .string ⟨#[]⟩, .string ⟨#[]⟩, .int .i64 0, .slice none 0 0, .slice none 0 0, .int .i64 0, .int .i64 0] 39)).setCells w4.heap.size 0 cs.toList) = V at hV ⊢; have HX := Lib.hid hV.1; replace HV := Lib.hid (HV.out.below hV.2); replace HZ := Lib.hid (HZ.out.below hV.2); replace HR := Lib.hid (HR.out.below hV.2); replace HG := Lib.hid (HG.out.trans (hV.2.mono HG.out.size)); clear hV)
          | (refine load_cells (by rfl) 39 (.tmp 9) (by rfl) w4.heap.size 0 (by rfl) cs _ (range_blk HX.out) Tryz.underlying39 (by rfl) HCI.out ?_)
          | (go_at_call 9; refine Calls.mono (EN.out _ _ HV.out.toV) ?_; rintro e we ⟨⟨v, i, rfl, hn, hsm⟩, hb⟩; obtain ⟨rfl, gx, cx, rfl, hgx, hcx, hrx⟩ := hsm l rfl; have HRX := Lib.hid hrx; clear hgx hcx hrx; clear EN; replace HV := Lib.hid (HV.out.below hb); replace HX := Lib.hid (HX.out.below hb); replace HZ := Lib.hid (HZ.out.below hb); replace HR := Lib.hid (HR.out.below hb); replace HG := Lib.hid (HG.out.trans (hb.mono HG.out.size)); clear hb hn hsm)
          | (go_at_call 87; refine Calls.mono (BE.out l gx cx _ HRX.out HG.out) ?_; rw [BF.out]; rintro e wb ⟨rfl, hw⟩; subst hw; clear BE)
          | fail)
        have hE := blk_cells (ds := cs) HR.out (by have := HZS.out; have := HCS.out; omega)
        have hp := put_cells we w.heap.size cs.toList
        have hq := load_blk (P := Tryz.prog) hE Tryz.underlying39 rfl HCI.out
        refine bodyPost_ret (v := .tuple #[.agg cs, .int .i64 0]) ?_ ?_ ?_
        · exact results_pair (v := .agg cs) 6 7 39 ⟨w.heap.size, 0, none⟩ Tryz.results43 rfl hq rfl
        · rfl
        refine ⟨_, by rw [IE.out], ?_, below_g HG.out hp (by have := HR.out.lt; omega) (Nat.le_refl _)⟩
        rw [GE.out]
        exact (HV.out.keep hp (by omega)).less (by omega)
      · have BF := Lib.hid (decide_eq_false hlb)
        have hD : mgD b = none := by rw [ED.out, ho, if_neg (fun h => hlb (Option.some.inj h))]
        have GE := Lib.hid (show mgG b = mg0 by rw [mgG, hD]; rfl)
        have IE := Lib.hid (show mgI b = 2 by rw [mgI, hD]; rfl)
        clear ED ho hlb hD
        go_enter Tryz.func43, Tryz.ntmps43
        go_upto_region 2 with fail
        rw [← ezz, ← eW]
        clear ezz eW
        go_wp2_with (first
          | (refine load_cells (by rfl) 39 (.tmp 8) (by rfl) (w.heap.size + 1) 0 (by rfl) zz _ (range_blk HZ.out) Tryz.underlying39 (by rfl) HIZ.out ?_)
          | (refine wpList_store_mid (by rfl) 39 (.tmp 6) (.tmp 33) (by rfl) w.heap.size 0 zz (by rfl) (by rfl) (there_blk HR.out _ (Nat.le_refl _)) HIZ.out HZO.out ?_)
          | (go_at_call 44; refine Calls.mono (T1.out _ (HRD.out _ HG.out)) ?_; rintro e w4 ⟨cs, rfl, hv, hb⟩; clear T1; have HV := Lib.hid (hv.less (show w.heap.size + 1 ≤ _ by have := HR.out.lt; omega)); have HCI := Lib.hid (show (Tryz.prog.info? 39).map (·.size) = some cs.size by rw [hv.size]; exact mg_info); have HCO := Lib.hid (show cs.all (·.oneCell') = true from hv.one); have HCS := Lib.hid hv.size; clear hv; replace HZ := Lib.hid (HZ.out.below hb); replace HR := Lib.hid (HR.out.below hb); replace HG := Lib.hid (HG.out.trans (hb.mono HG.out.size)); clear hb)
          | (refine wpList_store_mid (by rfl) 39 (.tmp 9) (.tmp 18) (by rfl) w4.heap.size 0 cs (by rfl) (by rfl) (there_blk (Blk.new w4 39 #[.int .i64 0, .string ⟨#[]⟩, .string ⟨#[]⟩, .string ⟨#[]⟩, .string ⟨#[]⟩, .int .i64 0, .int .i64 0, .string ⟨#[]⟩, .string ⟨#[]⟩, .int .i64 0, .slice none 0 0, .slice none 0 0, .string ⟨#[]⟩, .string ⟨#[]⟩, .int .i64 0, .int .i64 0, .string ⟨#[]⟩, .string ⟨#[]⟩, .string ⟨#[]⟩, .string ⟨#[]⟩, .int .i64 0, .slice none 0 0, .slice none 0 0, .string ⟨#[]⟩, .string ⟨#[]⟩, .int .i64 0, .slice none 0 0, .slice none 0 0, .int .i64 0, .int .i64 0]) _ (by have := HCS.out; simp; omega)) HCI.out HCO.out ?_; have hV := stored_new w4 39 #[.int .i64 0, .string ⟨#[]⟩, .string ⟨#[]⟩, .string ⟨#[]⟩, .string ⟨#[]⟩, .int .i64 0, .int .i64 0, .string ⟨#[]⟩, .string ⟨#[]⟩, .int .i64 0, .slice none 0 0, .slice none 0 0, .string ⟨#[]⟩, .string ⟨#[]⟩, .int .i64 0, .int .i64 0, .string ⟨#[]⟩, .string ⟨#[]⟩, .string ⟨#[]⟩, .string ⟨#[]⟩, .int .i64 0, .slice none 0 0, .slice none 0 0, .string ⟨#[]⟩, .string ⟨#[]⟩, .int .i64 0, .slice none 0 0, .slice none 0 0, .int .i64 0, .int .i64 0] cs (by have := HCS.out; simp; omega); generalize ((w4.alloc (.cells #[.int .i64 0, .string ⟨#[]⟩, .string ⟨#[]⟩, .string ⟨#[]⟩, .string ⟨#[]⟩, .int .i64 0, .int .i64 0, .string ⟨#[]⟩, .string ⟨#[]⟩, .int .i64 0, .slice none 0 0, .slice none 0 0, .string ⟨#[]⟩, .string ⟨#[]⟩, .int .i64 0, .int .i64 0, .string ⟨#[]⟩, .string ⟨#[]⟩, .string ⟨#[]⟩, .string ⟨#[]⟩, .int .i64 0, .slice none 0 0, .slice none 0 0, .string ⟨#[]⟩, .string ⟨#[]⟩, .int .i64 0, .slice none 0 0, .slice none 0 0, .int .i64 0, .int .i64 0] 39)).setCells w4.heap.size 0 cs.toList) = V at hV ⊢; have HX := Lib.hid hV.1; replace HV := Lib.hid (HV.out.below hV.2); replace HZ := Lib.hid (HZ.out.below hV.2); replace HR := Lib.hid (HR.out.below hV.2); replace HG := Lib.hid (HG.out.trans (hV.2.mono HG.out.size)); clear hV)
          | (refine load_cells (by rfl) 39 (.tmp 9) (by rfl) w4.heap.size 0 (by rfl) cs _ (range_blk HX.out) Tryz.underlying39 (by rfl) HCI.out ?_)
          | (go_at_call 9; refine Calls.mono (EN.out _ _ HV.out.toV) ?_; rintro e we ⟨⟨v, i, rfl, hn, hsm⟩, hb⟩; obtain ⟨rfl, gx, cx, rfl, hgx, hcx, hrx⟩ := hsm l rfl; have HRX := Lib.hid hrx; clear hgx hcx hrx; clear EN; replace HV := Lib.hid (HV.out.below hb); replace HX := Lib.hid (HX.out.below hb); replace HZ := Lib.hid (HZ.out.below hb); replace HR := Lib.hid (HR.out.below hb); replace HG := Lib.hid (HG.out.trans (hb.mono HG.out.size)); clear hb hn hsm)
          | (go_at_call 87; refine Calls.mono (BE.out l gx cx _ HRX.out HG.out) ?_; rw [BF.out]; rintro e wb ⟨rfl, hw⟩; subst hw; clear BE)
          | fail)
        have hE := blk_cells (ds := zz) HR.out (by rfl)
        have hp := put_cells we w.heap.size zz.toList
        have hq := load_blk (P := Tryz.prog) hE Tryz.underlying39 rfl HIZ.out
        refine bodyPost_ret (v := .tuple #[.agg zz, .int .i64 2]) ?_ ?_ ?_
        · exact results_pair (v := .agg zz) 6 7 39 ⟨w.heap.size, 0, none⟩ Tryz.results43 rfl hq rfl
        · rfl
        refine ⟨_, by rw [IE.out], ?_, below_g HG.out hp (by have := HR.out.lt; omega) (Nat.le_refl _)⟩
        rw [GE.out]
        exact HZM.out _ _
  · have t1 : decide ((2000 : Int) < (b.length : Int)) = true := decide_eq_true (by omega)
    have hD : mgD b = none := by
      rw [ED.out, if_neg]
      intro h; have h2 := lim_iff.1 h; exact hl (by rw [← h2.2.2]; exact h2.2.1)
    have GE := Lib.hid (show mgG b = mg0 by rw [mgG, hD]; rfl)
    have IE := Lib.hid (show mgI b = 2 by rw [mgI, hD]; rfl)
    clear ED hD hl hr HRD
    go_enter Tryz.func43, Tryz.ntmps43
    go_upto_region 2 with fail
    rw [← ezz, ← eW]
    clear ezz eW
    go_wp2_with (first
      | (refine load_cells (by rfl) 39 (.tmp 8) (by rfl) (w.heap.size + 1) 0 (by rfl) zz _ (range_blk HZ.out) Tryz.underlying39 (by rfl) HIZ.out ?_)
      | (refine wpList_store_mid (by rfl) 39 (.tmp 6) (.tmp 15) (by rfl) w.heap.size 0 zz (by rfl) (by rfl) (there_blk HR.out _ (Nat.le_refl _)) HIZ.out HZO.out ?_)
      | fail)
    have hE := blk_cells (ds := zz) HR.out (by rfl)
    have hp := put_cells W w.heap.size zz.toList
    have hq := load_blk (P := Tryz.prog) hE Tryz.underlying39 rfl HIZ.out
    refine bodyPost_ret (v := .tuple #[.agg zz, .int .i64 2]) ?_ ?_ ?_
    · exact results_pair (v := .agg zz) 6 7 39 ⟨w.heap.size, 0, none⟩ Tryz.results43 rfl hq rfl
    · rfl
    refine ⟨_, by rw [IE.out], ?_, below_g HG.out hp (by have := HR.out.lt; omega) (Nat.le_refl _)⟩
    rw [GE.out]
    exact HZM.out _ _
set_option maxHeartbeats 3200000 in
set_option maxRecDepth 10000 in
theorem dec_any (A : Option Addr) (b : L) (c : Nat) (w : World) (hr : Rd w w.heap.size A (bvs b)) : Calls Tryz.prog 11 #[.slice A b.length c] w fun e w' => ∃ ds, e = .returned (.tuple #[.agg ds, .int .i64 (mgI b)]) ∧ MgO w' w.heap.size ds (mgG b) ∧ Below w.heap.size w w' := by
  obtain ⟨zz, ezz⟩ : ∃ z : Array Value, z = #[.int .i64 0, .string ⟨#[]⟩, .string ⟨#[]⟩, .string ⟨#[]⟩, .string ⟨#[]⟩, .int .i64 0, .int .i64 0, .string ⟨#[]⟩, .string ⟨#[]⟩, .int .i64 0, .slice none 0 0, .slice none 0 0, .string ⟨#[]⟩, .string ⟨#[]⟩, .int .i64 0, .int .i64 0, .string ⟨#[]⟩, .string ⟨#[]⟩, .string ⟨#[]⟩, .string ⟨#[]⟩, .int .i64 0, .slice none 0 0, .slice none 0 0, .string ⟨#[]⟩, .string ⟨#[]⟩, .int .i64 0, .slice none 0 0, .slice none 0 0, .int .i64 0, .int .i64 0] := ⟨_, rfl⟩
  have HZS := Lib.hid (show zz.size = 30 by rw [ezz]; simp)
  have c1 := decode_mg A b c (w.alloc (.cells zz 39)) ((hr.alloc (Nat.le_refl _) _).more (by simp))
  have HR := Lib.hid (Blk.new w 39 zz)
  have HG := Lib.hid ((Below.refl w.heap.size w).alloc (Nat.le_refl _) (.cells zz 39))
  have HWS := Lib.hid (show (w.alloc (.cells zz 39)).heap.size = w.heap.size + 1 by simp)
  clear hr
  go_enter Tryz.func11, Tryz.ntmps11
  go_upto_region 1 with fail
  rw [← ezz]
  clear ezz
  go_wp2_with (first
    | (go_at_call 43; refine Calls.mono c1 ?_; rintro e w1 ⟨cs, rfl, hv, hb⟩; clear c1; have HV := Lib.hid (hv.less (show w.heap.size + 1 ≤ _ by have := HWS.out; omega)); have HI := Lib.hid (show (Tryz.prog.info? 39).map (·.size) = some cs.size by rw [hv.size]; exact mg_info); have HO := Lib.hid (show cs.all (·.oneCell') = true from hv.one); have HCS := Lib.hid hv.size; clear hv; replace HR := Lib.hid (HR.out.below hb); replace HG := Lib.hid (HG.out.trans (hb.mono HG.out.size)); clear hb)
    | (refine wpList_store_mid (by rfl) 39 (.tmp 2) (.tmp 6) (by rfl) w.heap.size 0 cs (by rfl) (by rfl) (there_blk HR.out _ (by have := HZS.out; have := HCS.out; omega)) HI.out HO.out ?_)
    | fail)
  have hE := blk_cells (ds := cs) HR.out (by have := HZS.out; have := HCS.out; omega)
  have hp := put_cells w1 w.heap.size cs.toList
  have hq := load_blk (P := Tryz.prog) hE Tryz.underlying39 rfl HI.out
  refine bodyPost_ret (v := .tuple #[.agg cs, .int .i64 (mgI b)]) ?_ ?_ ?_
  · exact results_pair (v := .agg cs) 2 3 39 ⟨w.heap.size, 0, none⟩ Tryz.results11 rfl hq rfl
  · rfl
  exact ⟨_, rfl, (HV.out.keep hp (by omega)).less (by omega), below_g HG.out hp (by have := HR.out.lt; omega) (Nat.le_refl _)⟩
set_option maxHeartbeats 3200000 in
theorem same_any (cs ds : Array Value) (m o : Mg) (w : World) (h : MgV w w.heap.size cs m) (g : MgV w w.heap.size ds o) : Calls Tryz.prog 14 #[.agg cs, .agg ds] w fun e w' => e = .returned (.bool (decide (nm m = nm o))) ∧ Below w.heap.size w w' := by
  have hcs : cs.size = 30 := by obtain ⟨pa, pt, pr, pp, pf, hc, hp⟩ := h; rw [hc]; exact hp.size m.k
  have hds : ds.size = 30 := by obtain ⟨pa, pt, pr, pp, pf, hc, hp⟩ := g; rw [hc]; exact hp.size o.k
  have HI := Lib.hid (show (Tryz.prog.info? 39).map (·.size) = some cs.size by rw [hcs]; exact mg_info)
  have HJ := Lib.hid (show (Tryz.prog.info? 39).map (·.size) = some ds.size by rw [hds]; exact mg_info)
  obtain ⟨W, eW⟩ : ∃ W, W = (w.alloc (.cells cs 39)).alloc (.cells ds 39) := ⟨_, rfl⟩
  have HK := Lib.hid (show Blk W w.heap.size 39 cs by rw [eW]; exact (Blk.new _ _ _).alloc _)
  have hq1 := Blk.new (w.alloc (.cells cs 39)) 39 ds
  rw [show (w.alloc (.cells cs 39)).heap.size = w.heap.size + 1 by simp, ← eW] at hq1
  have HL := Lib.hid hq1
  have HB := Lib.hid (show Below w.heap.size w W by rw [eW]; exact ((Below.refl _ _).alloc (Nat.le_refl _) _).alloc (by simp) _)
  have TN := Lib.hid (fun w1 (h1 : Below w.heap.size w w1) => named_any cs m w1 ((h.keep h1).more h1.size))
  have TM := Lib.hid (fun w1 (h1 : Below w.heap.size w w1) => named_any ds o w1 ((g.keep h1).more h1.size))
  have TE := Lib.hid (fun w1 c1 d1 (h1 : MgV w1 w1.heap.size c1 (nm m)) (h2 : MgV w1 w1.heap.size d1 (nm o)) => equal_any c1 d1 (nm m) (nm o) w1 h1 h2)
  clear hcs hds h g hq1
  go_enter Tryz.func14, Tryz.ntmps14
  go_upto_region 1 with fail
  rw [← eW]
  clear eW
  replace HK := Lib.hid (show Blk W.drew _ _ _ from HK.out.drewN 1)
  replace HL := Lib.hid (show Blk W.drew _ _ _ from HL.out.drewN 1)
  replace HB := Lib.hid (show Below _ _ W.drew from below_drewN HB.out 1)
  refine Reg.region_begin 6 rfl (by kernel_rfl) ?_
  refine Reg.take_op 0 (v := .agg cs) rfl (by kernel_rfl) (by kernel_rfl) (by kernel_rfl) (fun _ _ _ h => h) (by rfl) (fun w' hS => exec_load (.tmp 2) rfl rfl (HK.out.below hS) Tryz.underlying39 rfl HI.out) ?_
  simp only [Act.put, List.setIfInBounds_toArray, List.set_cons_zero, List.set_cons_succ]
  refine Reg.take_op 2 (v := .agg ds) rfl (by kernel_rfl) (by kernel_rfl) (by kernel_rfl) (fun _ _ _ h => h) (by rfl) (fun w' hS => exec_load (.tmp 3) rfl rfl (HL.out.below hS) Tryz.underlying39 rfl HJ.out) ?_
  simp only [Act.put, List.setIfInBounds_toArray, List.set_cons_zero, List.set_cons_succ]
  refine Reg.call_op 1 rfl (by kernel_rfl) (by rfl) 53 #[.agg cs] (by go_simp) ?_
  refine Calls.mono (TN.out _ HB.out) ?_
  rintro e w1 ⟨c1, rfl, h1, hb⟩
  refine ⟨_, rfl, hb, ?_⟩
  replace HB := Lib.hid (HB.out.trans (hb.mono HB.out.size)); have HC := Lib.hid h1; clear hb h1 TN
  simp only [Act.put, List.setIfInBounds_toArray, List.set_cons_zero, List.set_cons_succ]
  refine Reg.call_op 3 rfl (by kernel_rfl) (by rfl) 53 #[.agg ds] (by go_simp) ?_
  refine Calls.mono (TM.out _ HB.out) ?_
  rintro e w2 ⟨d1, rfl, h2, hb⟩
  refine ⟨_, rfl, hb, ?_⟩
  replace HB := Lib.hid (HB.out.trans (hb.mono HB.out.size)); replace HC := Lib.hid ((HC.out.keep hb).more hb.size); have HD := Lib.hid h2; clear hb h2 TM
  simp only [Act.put, List.setIfInBounds_toArray, List.set_cons_zero, List.set_cons_succ]
  refine Reg.call_op 4 rfl (by kernel_rfl) (by rfl) 52 #[.agg c1, .agg d1] (by go_simp) ?_
  refine Calls.mono (TE.out _ c1 d1 HC.out HD.out) ?_
  rintro e w3 ⟨rfl, hb⟩
  refine ⟨_, rfl, hb, ?_⟩
  replace HB := Lib.hid (HB.out.trans (hb.mono HB.out.size)); clear hb TE HC HD
  simp only [Act.put, List.setIfInBounds_toArray, List.set_cons_zero, List.set_cons_succ]
  refine Reg.take_op 5 (v := .bool (decide (nm m = nm o))) rfl (by kernel_rfl) (by kernel_rfl) (by kernel_rfl) (fun _ _ _ h => h) (by rfl) (fun w' hS => by go_simp) ?_
  simp only [Act.put, List.setIfInBounds_toArray, List.set_cons_zero, List.set_cons_succ]
  refine wpAnyH_done (by kernel_rfl) ?_ _
  go_wp2
  go_ret
  exact ⟨rfl, HB.out⟩
end Go.Proofs.YteeabfplnaknfaaGreat.Mc
end

section
set_option linter.unusedVariables false
set_option linter.unusedSimpArgs false
namespace Go.Proofs.YteeabfplnaknfaaGreat.Mc
open Go.RowKit Go.Proofs.YteeabfplnaknfaaGreat.Mem Go.Proofs.YteeabfplnaknfaaGreat.DerP Go.Proofs.YteeabfplnaknfaaGreat.DerR Go.Proofs.YteeabfplnaknfaaGreat.Ms

section
variable {w : World} {g : Nat} {t : TypeId} {v1 : Pr} {v2 x : L} {st en no y : Int} {tr : L}
end
theorem prP_sm {c : Option L} (h : (c.getD []).length ≤ 100000) : pSm (prP c).1 := prQ_sm h
theorem prP_len2 {c : Option L} {n : Nat} (h : (c.getD []).length ≤ n) : ((prP c).2.getD []).length ≤ n := Nat.le_trans (prP_len c) h
end Go.Proofs.YteeabfplnaknfaaGreat.Mc
end

section
set_option linter.unusedVariables false
set_option linter.unusedSimpArgs false
namespace Go.Proofs.YteeabfplnaknfaaGreat.Mc
open Go.RowKit Go.Proofs.YteeabfplnaknfaaGreat.Mem Go.Proofs.YteeabfplnaknfaaGreat.DerP Go.Proofs.YteeabfplnaknfaaGreat.DerR Go.Proofs.YteeabfplnaknfaaGreat.Ms

theorem slb_grown {w w' : World} {B q : Nat} {v : Value} {l : L} (h : SlB w B v l) (hg : w.grownBy w' (some q)) (hB : B ≤ w.heap.size) (hq : B ≤ q) : SlB w' B v l := by
  obtain ⟨A, c, h1, h2, h3⟩ := h
  exact ⟨A, c, h1, h2, h3.grown hg hB (fun k hk => by injection hk with hk; omega)⟩
theorem tkP_len2 {c : Option L} {n : Nat} (h : (c.getD []).length ≤ n) : ((tkP c).2.getD []).length ≤ n := by
  unfold tkP
  simp only
  split
  · exact nx_len 97 h
  · simp
theorem renc8_v (cs : Array Value) (m : Mg) (w : World) (h : MgV w w.heap.size cs m) (hs : mSm m) : Calls Tryz.prog 10 #[.agg cs] w (EncR w (mgO m)) := by
  obtain ⟨pa, pt, pr, pp, pf, rfl, ha, ht, hr, hp, hf⟩ := h
  obtain ⟨b1, a1, rfl, ⟨A1, c1, rfl, _, r1⟩, ⟨A2, c2, rfl, _, r2⟩⟩ := ht
  obtain ⟨b2, a2, rfl, ⟨A3, c3, rfl, _, r3⟩, ⟨A4, c4, rfl, _, r4⟩⟩ := hr
  obtain ⟨b3, a3, rfl, ⟨A5, c5, rfl, _, r5⟩, ⟨A6, c6, rfl, _, r6⟩⟩ := hp
  rw [ha, hf]
  exact renc8_any m A1 A2 A3 A4 A5 A6 c1 c2 c3 c4 c5 c6 w hs r1 r2 r3 r4 r5 r6
theorem mg0_no : mgO mg0 = none := rfl
end Go.Proofs.YteeabfplnaknfaaGreat.Mc
end

section
set_option linter.unusedVariables false
set_option linter.unusedSimpArgs false
namespace Go.Proofs.YteeabfplnaknfaaGreat.Mc
open Go.RowKit Go.Proofs.YteeabfplnaknfaaGreat.Mem Go.Proofs.YteeabfplnaknfaaGreat.DerP Go.Proofs.YteeabfplnaknfaaGreat.DerR Go.Proofs.YteeabfplnaknfaaGreat.Ms

set_option maxHeartbeats 25600000 in
set_option maxRecDepth 10000 in
theorem rdec8_nil (A : Option Addr) (c : Nat) (w : World) (hr : Rd w w.heap.size A (bvs ([] : L))) (hc : ([] : L).length ≤ c) (hl : ([] : L).length ≤ 5000) :
    Calls Tryz.prog 12 #[.slice A ([] : L).length c] w fun e w' => ∃ ds, e = .returned (.tuple #[.agg ds, .int .i64 (mgI ([] : L))]) ∧ MgV w' w.heap.size ds (mgG ([] : L)) ∧ Below w.heap.size w w' := by
  obtain ⟨zz, ezz⟩ : ∃ z : Array Value, z = #[.int .i64 0, .string ⟨#[]⟩, .string ⟨#[]⟩, .string ⟨#[]⟩, .string ⟨#[]⟩, .int .i64 0, .int .i64 0, .string ⟨#[]⟩, .string ⟨#[]⟩, .int .i64 0, .slice none 0 0, .slice none 0 0, .string ⟨#[]⟩, .string ⟨#[]⟩, .int .i64 0, .int .i64 0, .string ⟨#[]⟩, .string ⟨#[]⟩, .string ⟨#[]⟩, .string ⟨#[]⟩, .int .i64 0, .slice none 0 0, .slice none 0 0, .string ⟨#[]⟩, .string ⟨#[]⟩, .int .i64 0, .slice none 0 0, .slice none 0 0, .int .i64 0, .int .i64 0] := ⟨_, rfl⟩
  have ez0 : zz = mgA 0 zA zT zR zP zF := by rw [ezz]; rfl
  have hz : ∀ (w1 : World) (B : Nat), MgV w1 B zz mg0 := fun w1 B => by rw [ez0]; exact ⟨_, _, _, _, _, rfl, zM_v w1 B 0⟩
  have hzs : zz.size = 30 := by rw [ez0]; exact (zM_v w 0 0).size 0
  have HZS := Lib.hid hzs
  have HZM := Lib.hid hz
  have HZO := Lib.hid (show zz.all (·.oneCell') = true by rw [ez0]; exact (zM_v w 0 0).one 0)
  have HZI := Lib.hid (show (Tryz.prog.info? 39).map (·.size) = some zz.size by rw [hzs]; exact mg_info)
  have HZB := Lib.hid (show Tryz.prog.built 39 [] = some zz by rw [ez0]; exact built_none)
  have EZ := Lib.hid ezz
  obtain ⟨W, eW⟩ : ∃ W, W = w.alloc (.cells zz 39) := ⟨_, rfl⟩
  have HWS := Lib.hid (show W.heap.size = w.heap.size + 1 by rw [eW]; simp)
  have HR := Lib.hid (show Blk W w.heap.size 39 zz by rw [eW]; exact Blk.new _ _ _)
  have HG := Lib.hid (show Below w.heap.size w W by rw [eW]; exact (Below.refl _ _).alloc (Nat.le_refl _) _)
  have HRD := Lib.hid (fun w1 (h : Below w.heap.size w w1) => hr.below h)
  have ED := Lib.hid (show mgD ([] : L) = if mgO (mgP ([] : L)) = some ([] : L) then some (mgP ([] : L)) else none from rfl)
  clear ez0 hzs hz
  have hD : mgD [] = none := rfl
  have GE := Lib.hid (show mgG [] = mg0 by rw [mgG, hD]; rfl)
  have IE := Lib.hid (show mgI [] = 2 by rw [mgI, hD]; rfl)
  clear ED hD hr hc hl HRD
  go_enter Tryz.func12, Tryz.ntmps12
  go_upto_region 1 with fail
  rw [← ezz, ← eW]
  clear ezz eW
  go_wp2_with (first
    | (refine wpList_built (by rfl) 39 #[] (by rfl) zz (by simp; exact HZB.out) ?_)
    | (refine wpList_store_mid (by rfl) 39 (.tmp 4) (.tmp 9) (by rfl) W.heap.size 0 zz (by rfl) (by rfl) (there_blk (Blk.new W 39 #[.int .i64 0, .string ⟨#[]⟩, .string ⟨#[]⟩, .string ⟨#[]⟩, .string ⟨#[]⟩, .int .i64 0, .int .i64 0, .string ⟨#[]⟩, .string ⟨#[]⟩, .int .i64 0, .slice none 0 0, .slice none 0 0, .string ⟨#[]⟩, .string ⟨#[]⟩, .int .i64 0, .int .i64 0, .string ⟨#[]⟩, .string ⟨#[]⟩, .string ⟨#[]⟩, .string ⟨#[]⟩, .int .i64 0, .slice none 0 0, .slice none 0 0, .string ⟨#[]⟩, .string ⟨#[]⟩, .int .i64 0, .slice none 0 0, .slice none 0 0, .int .i64 0, .int .i64 0]) _ (by have := HZS.out; simp; omega)) HZI.out HZO.out ?_; have hV := stored_new W 39 #[.int .i64 0, .string ⟨#[]⟩, .string ⟨#[]⟩, .string ⟨#[]⟩, .string ⟨#[]⟩, .int .i64 0, .int .i64 0, .string ⟨#[]⟩, .string ⟨#[]⟩, .int .i64 0, .slice none 0 0, .slice none 0 0, .string ⟨#[]⟩, .string ⟨#[]⟩, .int .i64 0, .int .i64 0, .string ⟨#[]⟩, .string ⟨#[]⟩, .string ⟨#[]⟩, .string ⟨#[]⟩, .int .i64 0, .slice none 0 0, .slice none 0 0, .string ⟨#[]⟩, .string ⟨#[]⟩, .int .i64 0, .slice none 0 0, .slice none 0 0, .int .i64 0, .int .i64 0] zz (by have := HZS.out; simp; omega); generalize ((W.alloc (.cells #[.int .i64 0, .string ⟨#[]⟩, .string ⟨#[]⟩, .string ⟨#[]⟩, .string ⟨#[]⟩, .int .i64 0, .int .i64 0, .string ⟨#[]⟩, .string ⟨#[]⟩, .int .i64 0, .slice none 0 0, .slice none 0 0, .string ⟨#[]⟩, .string ⟨#[]⟩, .int .i64 0, .int .i64 0, .string ⟨#[]⟩, .string ⟨#[]⟩, .string ⟨#[]⟩, .string ⟨#[]⟩, .int .i64 0, .slice none 0 0, .slice none 0 0, .string ⟨#[]⟩, .string ⟨#[]⟩, .int .i64 0, .slice none 0 0, .slice none 0 0, .int .i64 0, .int .i64 0] 39)).setCells W.heap.size 0 zz.toList) = V at hV ⊢; have HPB := Lib.hid (show Blk V W.heap.size 39 #[.int .i64 0, .string ⟨#[]⟩, .string ⟨#[]⟩, .string ⟨#[]⟩, .string ⟨#[]⟩, .int .i64 0, .int .i64 0, .string ⟨#[]⟩, .string ⟨#[]⟩, .int .i64 0, .slice none 0 0, .slice none 0 0, .string ⟨#[]⟩, .string ⟨#[]⟩, .int .i64 0, .int .i64 0, .string ⟨#[]⟩, .string ⟨#[]⟩, .string ⟨#[]⟩, .string ⟨#[]⟩, .int .i64 0, .slice none 0 0, .slice none 0 0, .string ⟨#[]⟩, .string ⟨#[]⟩, .int .i64 0, .slice none 0 0, .slice none 0 0, .int .i64 0, .int .i64 0] from EZ.out ▸ hV.1); have HPZ := Lib.hid hV.1; have HVS := Lib.hid (show W.heap.size < V.heap.size from hV.1.lt); replace HR := Lib.hid (HR.out.below hV.2); replace HG := Lib.hid (HG.out.trans (hV.2.mono HG.out.size)); clear hV)
    | (refine load_cells (by rfl) 39 (.tmp 4) (by rfl) W.heap.size 0 (by rfl) zz _ (range_blk HPZ.out) Tryz.underlying39 (by rfl) HZI.out ?_)
    | (refine wpList_store_mid (by rfl) 39 (.tmp 2) (.tmp 13) (by rfl) w.heap.size 0 zz (by rfl) (by rfl) (there_blk HR.out _ (Nat.le_refl _)) HZI.out HZO.out ?_)
    | fail)
  have hE := blk_cells (ds := zz) HR.out rfl
  have hp := put_cells V w.heap.size zz.toList
  have hq := load_blk (P := Tryz.prog) hE Tryz.underlying39 rfl HZI.out
  refine bodyPost_ret (v := .tuple #[.agg zz, .int .i64 2]) ?_ ?_ ?_
  · exact results_pair (v := .agg zz) 2 3 39 ⟨w.heap.size, 0, none⟩ Tryz.results12 rfl hq rfl
  · rfl
  have hB := below_g HG.out hp HG.out.size (Nat.le_refl _)
  refine ⟨_, by rw [IE.out], ?_, hB⟩
  rw [GE.out]
  exact HZM.out _ _
end Go.Proofs.YteeabfplnaknfaaGreat.Mc
end
