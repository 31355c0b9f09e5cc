/-
  The document's own Is of more realms than may be, whatever else there is.
-/
import Derived.Test.YtnalnhplcchdoaaRtRef4
set_option linter.unusedVariables false
namespace Go.Proofs.Ytnalnhplcchdoaa.Rt
open Go.RowKit Go.Proofs.Ytnalnhplcchdoaa.Mem Go.Proofs.Ytnalnhplcchdoaa.Nm

set_option maxHeartbeats 800000 in
theorem rist_many (T : Tp) (v : Value) (B : Nat) (w : World) (h6 : 6 < T.R.length) (hl : T.R.length ≤ 1000000) (hs : ∀ x ∈ T.R, x.length ≤ 1000000000) (hv : TpV w B v T) (hB : B ≤ w.heap.size) :
    isT T = false ∧ Calls Try.prog 14 #[v] w fun e w' => e = .returned (.bool false) ∧ Below w.heap.size w w' := by
  refine ⟨ist_b (by omega), ?_⟩
  obtain ⟨v1, v2, v3, rfl, ⟨A1, d1, rfl, hc1, r1⟩, ⟨A2, d2, rfl, hc2, r2⟩, ⟨A3, d3, rfl, hc3, r3⟩⟩ := hv
  have hb := (Below.refl w.heap.size w).alloc (Nat.le_refl _) (.cells #[.slice A1 T.R.length d1, .slice A2 T.K.length d2, .slice A3 T.P.length d3] 26)
  have HB := Lib.hid hb
  have c1 := rrealms_any T.R A1 d1 B _ hl hc1 (r1.below (hb.mono hB)) (Nat.le_trans hB hb.size) (fun i hi => hs _ (pl_mem hi))
  rw [decide_eq_false (show ¬ T.R.length ≤ 6 by omega), Bool.and_false, Bool.and_false] at c1
  clear r1 r2 r3 hc1 hc2 hc3 hb hs h6 hl
  go_enter Try.func14, Try.ntmps14
  go_wp2_with (go_at_call 35; refine Calls.mono c1 ?_; rintro e w1 ⟨rfl, hb⟩; clear c1; replace HB := Lib.hid (HB.out.trans (hb.mono HB.out.size)); clear hb)
  go_ret
  exact ⟨rfl, HB.out⟩
end Go.Proofs.Ytnalnhplcchdoaa.Rt
