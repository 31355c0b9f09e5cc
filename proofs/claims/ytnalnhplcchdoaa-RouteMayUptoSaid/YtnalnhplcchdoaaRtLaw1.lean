/-
  RouteMay walked.
-/
import Derived.Test.YtnalnhplcchdoaaRtBig
import Derived.Test.YtnalnhplcchdoaaRtEx
import Derived.Test.YtnalnhplcchdoaaRtRef4
import Derived.Deep.RegionHeld3
set_option linter.unusedVariables false
namespace Go.Proofs.Ytnalnhplcchdoaa.RtW
open Go.RowKit Go.Proofs.Ytnalnhplcchdoaa.Mem Go.Proofs.Ytnalnhplcchdoaa.Nm Go.Proofs.Ytnalnhplcchdoaa.Rt

set_option maxHeartbeats 3200000 in
theorem may_ (T : Tp) (v : Value) (w : World) (hv : TpV w w.heap.size v T) (hs : bigN T ≤ 4000000000000000000) :
    Calls Try.prog 3 #[v] w fun e w' => e = .returned (.bool true) ∧ Below w.heap.size w w' := by
  have hv' := hv
  obtain ⟨v1, v2, v3, rfl, ⟨A1, d1, rfl, hc1, r1⟩, ⟨A2, d2, rfl, hc2, r2⟩, ⟨A3, d3, rfl, hc3, r3⟩⟩ := hv'
  have hbb := (Below.refl w.heap.size w).alloc (Nat.le_refl _) (.cells #[.slice A1 T.R.length d1, .slice A2 T.K.length d2, .slice A3 T.P.length d3] 26)
  have HB := Lib.hid hbb
  have HK := Lib.hid (Blk.new w 26 #[.slice A1 T.R.length d1, .slice A2 T.K.length d2, .slice A3 T.P.length d3])
  have c1 := big_any T _ w.heap.size _ (hv.below hbb) hbb.size hs
  clear r1 r2 r3 hc1 hc2 hc3 hbb
  by_cases hg : 3000 < bigN T
  · rw [decide_eq_true hg] at c1
    clear hg hs hv
    go_enter Try.func3, Try.ntmps3
    go_wp2_with (go_at_call 12; refine Calls.mono c1 ?_; rintro e w1 ⟨rfl, hb⟩; clear c1; replace HB := Lib.hid (HB.out.trans (hb.mono HB.out.size)); clear hb)
    go_ret
    exact ⟨rfl, HB.out⟩
  · rw [decide_eq_false hg] at c1
    have hsm := big_sm (Nat.le_of_not_lt hg)
    have IS := Lib.hid (fun w1 (h : Below w.heap.size w w1) => ist_any T _ w.heap.size w1 hsm (hv.below h) h.size)
    have RIS := Lib.hid (fun w1 (h : Below w.heap.size w w1) => rist_any T _ w.heap.size w1 hsm (hv.below h) h.size)
    have CK := Lib.hid (fun w1 => known_any w1)
    obtain ⟨q, eq⟩ : ∃ q, q = isT T := ⟨_, rfl⟩
    rw [← eq] at IS RIS
    clear hg hs hv eq hsm
    have eqq : (q == q) = true := by simp
    go_enter Try.func3, Try.ntmps3
    go_wp2_with (go_at_call 12; refine Calls.mono c1 ?_; rintro e w1 ⟨rfl, hb⟩; clear c1; replace HK := Lib.hid (HK.out.below hb); replace HB := Lib.hid (HB.out.trans (hb.mono HB.out.size)); clear hb)
    replace HK := Lib.hid (show Blk w1.drew _ _ _ from HK.out.drewN 1)
    replace HB := Lib.hid (show Below _ _ w1.drew from below_drewN HB.out 1)
    go_region_held3 (fun w' => w'.cell? ⟨w.heap.size, 0, none⟩ = some (.slice A1 T.R.length d1) ∧ w'.cell? ⟨w.heap.size, 1, none⟩ = some (.slice A2 T.K.length d2) ∧ w'.cell? ⟨w.heap.size, 2, none⟩ = some (.slice A3 T.P.length d3)) (exact ⟨HK.out.cell 0, HK.out.cell 1, HK.out.cell 2⟩) ((first
      | (go_at_call 13; with_reducible refine Calls.mono (IS.out _ HB.out) ?_; rintro e w3 ⟨rfl, hb⟩; replace HK := Lib.hid (HK.out.below hb); replace HB := Lib.hid (HB.out.trans (hb.mono HB.out.size)); clear hb)
      | (go_at_call 14; with_reducible refine Calls.mono (RIS.out _ HB.out) ?_; rintro e w4 ⟨rfl, hb⟩; replace HK := Lib.hid (HK.out.below hb); replace HB := Lib.hid (HB.out.trans (hb.mono HB.out.size)); clear hb)
      | (go_at_call 15; with_reducible refine Calls.mono (CK.out _) ?_; rintro e w5 ⟨rfl, hb⟩; replace HK := Lib.hid (HK.out.below hb); replace HB := Lib.hid (HB.out.trans (hb.mono HB.out.size)); clear hb)))
    go_wp2
    go_ret
    exact ⟨rfl, HB.out⟩
end Go.Proofs.Ytnalnhplcchdoaa.RtW
