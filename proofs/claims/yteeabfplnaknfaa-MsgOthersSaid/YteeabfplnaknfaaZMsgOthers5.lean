import Derived.Lib.MinMax
import Derived.Deep.LoopGhost
import Derived.Deep.RegionHeld3
import Derived.Test.YteeabfplnaknfaaZMsgOthers1
import Derived.Test.YteeabfplnaknfaaZMsgOthers2
import Derived.Test.YteeabfplnaknfaaZMsgOthers3
import Derived.Test.YteeabfplnaknfaaZMsgOthers4
section
set_option linter.unusedVariables false
set_option linter.unusedSimpArgs false
namespace Go.Proofs.Yteeabfplnaknfaa.Ms
open Go.RowKit Go.Proofs.Yteeabfplnaknfaa.Mem Go.Proofs.Yteeabfplnaknfaa.DerP

set_option maxHeartbeats 3200000 in
theorem risas_any (q : As) (w : World) (hs : pSm q.c) (hs2 : pSm q.s) : Calls Try.prog 15 #[.agg #[.string ⟨q.c.1.toArray⟩, .string ⟨q.c.2.toArray⟩, .string ⟨q.s.1.toArray⟩, .string ⟨q.s.2.toArray⟩, .int .i64 q.t, .int .i64 q.no]] w fun e w' => e = .returned (.bool (asB q)) ∧ Below w.heap.size w w' := by
  have hb0 := (Below.refl w.heap.size w).alloc (Nat.le_refl _) (.cells #[.string ⟨q.c.1.toArray⟩, .string ⟨q.c.2.toArray⟩, .string ⟨q.s.1.toArray⟩, .string ⟨q.s.2.toArray⟩, .int .i64 q.t, .int .i64 q.no] 25)
  have HB := Lib.hid hb0
  have HK := Lib.hid (Blk.new w 25 #[.string ⟨q.c.1.toArray⟩, .string ⟨q.c.2.toArray⟩, .string ⟨q.s.1.toArray⟩, .string ⟨q.s.2.toArray⟩, .int .i64 q.t, .int .i64 q.no])
  clear hb0
  have T1 := Lib.hid (fun w1 => isprinc_any q.c w1 hs.1 hs.2)
  have T2 := Lib.hid (fun w1 => isprinc_any q.s w1 hs2.1 hs2.2)
  have T3 := Lib.hid (fun w1 => rtm_any q.t w1)
  have T4 := Lib.hid (fun w1 => rtm_any q.no w1)
  cases h1 : prB q.c with
  | false =>
    rw [h1] at T1
    have E := Lib.hid (show asB q = false by rw [asB, h1]; rfl)
    clear h1
    go_enter Try.func15, Try.ntmps15
    go_wp2_with (go_at_call 17; (with_reducible refine Calls.mono (T1.out _) ?_); rintro e w1 ⟨rfl, hb⟩; replace HK := Lib.hid (HK.out.below hb); replace HB := Lib.hid (HB.out.trans (hb.mono HB.out.size)); clear hb T1; (try clear k0 k1 k2 k3 k4 k5); have k0 := HK.out.cell 0; have k1 := HK.out.cell 1; have k2 := HK.out.cell 2; have k3 := HK.out.cell 3; have k4 := HK.out.cell 4; have k5 := HK.out.cell 5; simp only [List.getElem?_toArray, List.getElem?_cons_zero, List.getElem?_cons_succ] at k0 k1 k2 k3 k4 k5)
    go_ret
    exact ⟨by rw [E.out]; rfl, HB.out⟩
  | true =>
    rw [h1] at T1
    cases h2 : prB q.s with
    | false =>
      rw [h2] at T2
      have E := Lib.hid (show asB q = false by rw [asB, h1, h2]; rfl)
      clear h1 h2
      go_enter Try.func15, Try.ntmps15
      go_wp2_with (first
        | (go_at_call 17; (with_reducible refine Calls.mono (T1.out _) ?_); rintro e w1 ⟨rfl, hb⟩; replace HK := Lib.hid (HK.out.below hb); replace HB := Lib.hid (HB.out.trans (hb.mono HB.out.size)); clear hb T1; (try clear k0 k1 k2 k3 k4 k5); have k0 := HK.out.cell 0; have k1 := HK.out.cell 1; have k2 := HK.out.cell 2; have k3 := HK.out.cell 3; have k4 := HK.out.cell 4; have k5 := HK.out.cell 5; simp only [List.getElem?_toArray, List.getElem?_cons_zero, List.getElem?_cons_succ] at k0 k1 k2 k3 k4 k5)
        | (go_at_call 17; (with_reducible refine Calls.mono (T2.out _) ?_); rintro e w2 ⟨rfl, hb⟩; replace HK := Lib.hid (HK.out.below hb); replace HB := Lib.hid (HB.out.trans (hb.mono HB.out.size)); clear hb T2; (try clear k0 k1 k2 k3 k4 k5); have k0 := HK.out.cell 0; have k1 := HK.out.cell 1; have k2 := HK.out.cell 2; have k3 := HK.out.cell 3; have k4 := HK.out.cell 4; have k5 := HK.out.cell 5; simp only [List.getElem?_toArray, List.getElem?_cons_zero, List.getElem?_cons_succ] at k0 k1 k2 k3 k4 k5))
      go_ret
      exact ⟨by rw [E.out]; rfl, HB.out⟩
    | true =>
      rw [h2] at T2
      cases h3 : tmB q.t with
      | false =>
        rw [h3] at T3
        have E := Lib.hid (show asB q = false by rw [asB, h1, h2, h3]; rfl)
        clear h1 h2 h3
        go_enter Try.func15, Try.ntmps15
        go_wp2_with (first
          | (go_at_call 17; (with_reducible refine Calls.mono (T1.out _) ?_); rintro e w1 ⟨rfl, hb⟩; replace HK := Lib.hid (HK.out.below hb); replace HB := Lib.hid (HB.out.trans (hb.mono HB.out.size)); clear hb T1; (try clear k0 k1 k2 k3 k4 k5); have k0 := HK.out.cell 0; have k1 := HK.out.cell 1; have k2 := HK.out.cell 2; have k3 := HK.out.cell 3; have k4 := HK.out.cell 4; have k5 := HK.out.cell 5; simp only [List.getElem?_toArray, List.getElem?_cons_zero, List.getElem?_cons_succ] at k0 k1 k2 k3 k4 k5)
          | (go_at_call 17; (with_reducible refine Calls.mono (T2.out _) ?_); rintro e w2 ⟨rfl, hb⟩; replace HK := Lib.hid (HK.out.below hb); replace HB := Lib.hid (HB.out.trans (hb.mono HB.out.size)); clear hb T2; (try clear k0 k1 k2 k3 k4 k5); have k0 := HK.out.cell 0; have k1 := HK.out.cell 1; have k2 := HK.out.cell 2; have k3 := HK.out.cell 3; have k4 := HK.out.cell 4; have k5 := HK.out.cell 5; simp only [List.getElem?_toArray, List.getElem?_cons_zero, List.getElem?_cons_succ] at k0 k1 k2 k3 k4 k5)
          | (go_at_call 20; (with_reducible refine Calls.mono (T3.out _) ?_); rintro e w3 ⟨rfl, hw⟩; subst hw; clear T3))
        go_ret
        exact ⟨by rw [E.out]; rfl, HB.out⟩
      | true =>
        rw [h3] at T3
        have E := Lib.hid (show asB q = tmB q.no by rw [asB, h1, h2, h3]; rfl)
        clear h1 h2 h3
        go_enter Try.func15, Try.ntmps15
        go_wp2_with (first
          | (go_at_call 17; (with_reducible refine Calls.mono (T1.out _) ?_); rintro e w1 ⟨rfl, hb⟩; replace HK := Lib.hid (HK.out.below hb); replace HB := Lib.hid (HB.out.trans (hb.mono HB.out.size)); clear hb T1; (try clear k0 k1 k2 k3 k4 k5); have k0 := HK.out.cell 0; have k1 := HK.out.cell 1; have k2 := HK.out.cell 2; have k3 := HK.out.cell 3; have k4 := HK.out.cell 4; have k5 := HK.out.cell 5; simp only [List.getElem?_toArray, List.getElem?_cons_zero, List.getElem?_cons_succ] at k0 k1 k2 k3 k4 k5)
          | (go_at_call 17; (with_reducible refine Calls.mono (T2.out _) ?_); rintro e w2 ⟨rfl, hb⟩; replace HK := Lib.hid (HK.out.below hb); replace HB := Lib.hid (HB.out.trans (hb.mono HB.out.size)); clear hb T2; (try clear k0 k1 k2 k3 k4 k5); have k0 := HK.out.cell 0; have k1 := HK.out.cell 1; have k2 := HK.out.cell 2; have k3 := HK.out.cell 3; have k4 := HK.out.cell 4; have k5 := HK.out.cell 5; simp only [List.getElem?_toArray, List.getElem?_cons_zero, List.getElem?_cons_succ] at k0 k1 k2 k3 k4 k5)
          | (go_at_call 20; (with_reducible refine Calls.mono (T3.out _) ?_); rintro e w3 ⟨rfl, hw⟩; subst hw; clear T3)
          | (go_at_call 20; (with_reducible refine Calls.mono (T4.out _) ?_); rintro e w4 ⟨rfl, hw⟩; subst hw; clear T4))
        go_ret
        exact ⟨by rw [E.out]; rfl, HB.out⟩
set_option maxHeartbeats 3200000 in
theorem ristgs_any (q : Tg) (A1 A2 : Option Addr) (c1 c2 : Nat) (w : World) (hs : pSm q.t.s) (hs2 : pSm q.s) : Calls Try.prog 16 #[.agg #[.string ⟨q.t.s.1.toArray⟩, .string ⟨q.t.s.2.toArray⟩, .int .i64 q.t.k, .slice A1 q.t.b.length c1, .slice A2 q.a.length c2, .string ⟨q.s.1.toArray⟩, .string ⟨q.s.2.toArray⟩, .int .i64 q.u, .int .i64 q.no]] w fun e w' => e = .returned (.bool (tgB q)) ∧ Below w.heap.size w w' := by
  have hb0 := (Below.refl w.heap.size w).alloc (Nat.le_refl _) (.cells #[.string ⟨q.t.s.1.toArray⟩, .string ⟨q.t.s.2.toArray⟩, .int .i64 q.t.k, .slice A1 q.t.b.length c1, .slice A2 q.a.length c2, .string ⟨q.s.1.toArray⟩, .string ⟨q.s.2.toArray⟩, .int .i64 q.u, .int .i64 q.no] 30)
  have HB := Lib.hid hb0
  have HK := Lib.hid (Blk.new w 30 #[.string ⟨q.t.s.1.toArray⟩, .string ⟨q.t.s.2.toArray⟩, .int .i64 q.t.k, .slice A1 q.t.b.length c1, .slice A2 q.a.length c2, .string ⟨q.s.1.toArray⟩, .string ⟨q.s.2.toArray⟩, .int .i64 q.u, .int .i64 q.no])
  clear hb0
  have T1 := Lib.hid (fun w1 => rticket_any q.t A1 c1 w1 hs)
  have T2 := Lib.hid (fun w1 => rblob_any q.a A2 c2 w1)
  have T3 := Lib.hid (fun w1 => isprinc_any q.s w1 hs2.1 hs2.2)
  have T4 := Lib.hid (fun w1 => rtm_any q.u w1)
  have T5 := Lib.hid (fun w1 => rtm_any q.no w1)
  cases h1 : tkB q.t with
  | false =>
    rw [h1] at T1
    have E := Lib.hid (show tgB q = false by rw [tgB, h1]; rfl)
    clear h1
    go_enter Try.func16, Try.ntmps16
    go_wp2_with (go_at_call 18; (with_reducible refine Calls.mono (T1.out _) ?_); rintro e w1 ⟨rfl, hb⟩; replace HK := Lib.hid (HK.out.below hb); replace HB := Lib.hid (HB.out.trans (hb.mono HB.out.size)); clear hb T1; (try clear k0 k1 k2 k3 k4 k5 k6 k7 k8); have k0 := HK.out.cell 0; have k1 := HK.out.cell 1; have k2 := HK.out.cell 2; have k3 := HK.out.cell 3; have k4 := HK.out.cell 4; have k5 := HK.out.cell 5; have k6 := HK.out.cell 6; have k7 := HK.out.cell 7; have k8 := HK.out.cell 8; simp only [List.getElem?_toArray, List.getElem?_cons_zero, List.getElem?_cons_succ] at k0 k1 k2 k3 k4 k5 k6 k7 k8)
    go_ret
    exact ⟨by rw [E.out]; rfl, HB.out⟩
  | true =>
    rw [h1] at T1
    cases h2 : blobB q.a with
    | false =>
      rw [h2] at T2
      have E := Lib.hid (show tgB q = false by rw [tgB, h1, h2]; rfl)
      clear h1 h2
      go_enter Try.func16, Try.ntmps16
      go_wp2_with (first
        | (go_at_call 18; (with_reducible refine Calls.mono (T1.out _) ?_); rintro e w1 ⟨rfl, hb⟩; replace HK := Lib.hid (HK.out.below hb); replace HB := Lib.hid (HB.out.trans (hb.mono HB.out.size)); clear hb T1; (try clear k0 k1 k2 k3 k4 k5 k6 k7 k8); have k0 := HK.out.cell 0; have k1 := HK.out.cell 1; have k2 := HK.out.cell 2; have k3 := HK.out.cell 3; have k4 := HK.out.cell 4; have k5 := HK.out.cell 5; have k6 := HK.out.cell 6; have k7 := HK.out.cell 7; have k8 := HK.out.cell 8; simp only [List.getElem?_toArray, List.getElem?_cons_zero, List.getElem?_cons_succ] at k0 k1 k2 k3 k4 k5 k6 k7 k8)
        | (go_at_call 19; (with_reducible refine Calls.mono (T2.out _) ?_); rintro e w2 ⟨rfl, hw⟩; subst hw; clear T2))
      go_ret
      exact ⟨by rw [E.out]; rfl, HB.out⟩
    | true =>
      rw [h2] at T2
      cases h3 : prB q.s with
      | false =>
        rw [h3] at T3
        have E := Lib.hid (show tgB q = false by rw [tgB, h1, h2, h3]; rfl)
        clear h1 h2 h3
        go_enter Try.func16, Try.ntmps16
        go_wp2_with (first
          | (go_at_call 18; (with_reducible refine Calls.mono (T1.out _) ?_); rintro e w1 ⟨rfl, hb⟩; replace HK := Lib.hid (HK.out.below hb); replace HB := Lib.hid (HB.out.trans (hb.mono HB.out.size)); clear hb T1; (try clear k0 k1 k2 k3 k4 k5 k6 k7 k8); have k0 := HK.out.cell 0; have k1 := HK.out.cell 1; have k2 := HK.out.cell 2; have k3 := HK.out.cell 3; have k4 := HK.out.cell 4; have k5 := HK.out.cell 5; have k6 := HK.out.cell 6; have k7 := HK.out.cell 7; have k8 := HK.out.cell 8; simp only [List.getElem?_toArray, List.getElem?_cons_zero, List.getElem?_cons_succ] at k0 k1 k2 k3 k4 k5 k6 k7 k8)
          | (go_at_call 19; (with_reducible refine Calls.mono (T2.out _) ?_); rintro e w2 ⟨rfl, hw⟩; subst hw; clear T2)
          | (go_at_call 17; (with_reducible refine Calls.mono (T3.out _) ?_); rintro e w3 ⟨rfl, hb⟩; replace HK := Lib.hid (HK.out.below hb); replace HB := Lib.hid (HB.out.trans (hb.mono HB.out.size)); clear hb T3; (try clear k0 k1 k2 k3 k4 k5 k6 k7 k8); have k0 := HK.out.cell 0; have k1 := HK.out.cell 1; have k2 := HK.out.cell 2; have k3 := HK.out.cell 3; have k4 := HK.out.cell 4; have k5 := HK.out.cell 5; have k6 := HK.out.cell 6; have k7 := HK.out.cell 7; have k8 := HK.out.cell 8; simp only [List.getElem?_toArray, List.getElem?_cons_zero, List.getElem?_cons_succ] at k0 k1 k2 k3 k4 k5 k6 k7 k8))
        go_ret
        exact ⟨by rw [E.out]; rfl, HB.out⟩
      | true =>
        rw [h3] at T3
        cases h4 : tmB q.u with
        | false =>
          rw [h4] at T4
          have E := Lib.hid (show tgB q = false by rw [tgB, h1, h2, h3, h4]; rfl)
          clear h1 h2 h3 h4
          go_enter Try.func16, Try.ntmps16
          go_wp2_with (first
            | (go_at_call 18; (with_reducible refine Calls.mono (T1.out _) ?_); rintro e w1 ⟨rfl, hb⟩; replace HK := Lib.hid (HK.out.below hb); replace HB := Lib.hid (HB.out.trans (hb.mono HB.out.size)); clear hb T1; (try clear k0 k1 k2 k3 k4 k5 k6 k7 k8); have k0 := HK.out.cell 0; have k1 := HK.out.cell 1; have k2 := HK.out.cell 2; have k3 := HK.out.cell 3; have k4 := HK.out.cell 4; have k5 := HK.out.cell 5; have k6 := HK.out.cell 6; have k7 := HK.out.cell 7; have k8 := HK.out.cell 8; simp only [List.getElem?_toArray, List.getElem?_cons_zero, List.getElem?_cons_succ] at k0 k1 k2 k3 k4 k5 k6 k7 k8)
            | (go_at_call 19; (with_reducible refine Calls.mono (T2.out _) ?_); rintro e w2 ⟨rfl, hw⟩; subst hw; clear T2)
            | (go_at_call 17; (with_reducible refine Calls.mono (T3.out _) ?_); rintro e w3 ⟨rfl, hb⟩; replace HK := Lib.hid (HK.out.below hb); replace HB := Lib.hid (HB.out.trans (hb.mono HB.out.size)); clear hb T3; (try clear k0 k1 k2 k3 k4 k5 k6 k7 k8); have k0 := HK.out.cell 0; have k1 := HK.out.cell 1; have k2 := HK.out.cell 2; have k3 := HK.out.cell 3; have k4 := HK.out.cell 4; have k5 := HK.out.cell 5; have k6 := HK.out.cell 6; have k7 := HK.out.cell 7; have k8 := HK.out.cell 8; simp only [List.getElem?_toArray, List.getElem?_cons_zero, List.getElem?_cons_succ] at k0 k1 k2 k3 k4 k5 k6 k7 k8)
            | (go_at_call 20; (with_reducible refine Calls.mono (T4.out _) ?_); rintro e w4 ⟨rfl, hw⟩; subst hw; clear T4))
          go_ret
          exact ⟨by rw [E.out]; rfl, HB.out⟩
        | true =>
          rw [h4] at T4
          have E := Lib.hid (show tgB q = tmB q.no by rw [tgB, h1, h2, h3, h4]; rfl)
          clear h1 h2 h3 h4
          go_enter Try.func16, Try.ntmps16
          go_wp2_with (first
            | (go_at_call 18; (with_reducible refine Calls.mono (T1.out _) ?_); rintro e w1 ⟨rfl, hb⟩; replace HK := Lib.hid (HK.out.below hb); replace HB := Lib.hid (HB.out.trans (hb.mono HB.out.size)); clear hb T1; (try clear k0 k1 k2 k3 k4 k5 k6 k7 k8); have k0 := HK.out.cell 0; have k1 := HK.out.cell 1; have k2 := HK.out.cell 2; have k3 := HK.out.cell 3; have k4 := HK.out.cell 4; have k5 := HK.out.cell 5; have k6 := HK.out.cell 6; have k7 := HK.out.cell 7; have k8 := HK.out.cell 8; simp only [List.getElem?_toArray, List.getElem?_cons_zero, List.getElem?_cons_succ] at k0 k1 k2 k3 k4 k5 k6 k7 k8)
            | (go_at_call 19; (with_reducible refine Calls.mono (T2.out _) ?_); rintro e w2 ⟨rfl, hw⟩; subst hw; clear T2)
            | (go_at_call 17; (with_reducible refine Calls.mono (T3.out _) ?_); rintro e w3 ⟨rfl, hb⟩; replace HK := Lib.hid (HK.out.below hb); replace HB := Lib.hid (HB.out.trans (hb.mono HB.out.size)); clear hb T3; (try clear k0 k1 k2 k3 k4 k5 k6 k7 k8); have k0 := HK.out.cell 0; have k1 := HK.out.cell 1; have k2 := HK.out.cell 2; have k3 := HK.out.cell 3; have k4 := HK.out.cell 4; have k5 := HK.out.cell 5; have k6 := HK.out.cell 6; have k7 := HK.out.cell 7; have k8 := HK.out.cell 8; simp only [List.getElem?_toArray, List.getElem?_cons_zero, List.getElem?_cons_succ] at k0 k1 k2 k3 k4 k5 k6 k7 k8)
            | (go_at_call 20; (with_reducible refine Calls.mono (T4.out _) ?_); rintro e w4 ⟨rfl, hw⟩; subst hw; clear T4)
            | (go_at_call 20; (with_reducible refine Calls.mono (T5.out _) ?_); rintro e w5 ⟨rfl, hw⟩; subst hw; clear T5))
          go_ret
          exact ⟨by rw [E.out]; rfl, HB.out⟩
end Go.Proofs.Yteeabfplnaknfaa.Ms
end

section
set_option linter.unusedVariables false
set_option linter.unusedSimpArgs false
namespace Go.Proofs.Yteeabfplnaknfaa.Ms
open Go.RowKit Go.Proofs.Yteeabfplnaknfaa.Mem Go.Proofs.Yteeabfplnaknfaa.DerP

set_option maxHeartbeats 1600000 in
theorem rnone_any (t : Tk) (A : Option Addr) (c : Nat) (w : World) : Calls Try.prog 14 #[.agg #[.string ⟨t.s.1.toArray⟩, .string ⟨t.s.2.toArray⟩, .int .i64 t.k, .slice A t.b.length c]] w fun e w' => e = .returned (.bool (decide (t = tk0))) ∧ Below w.heap.size w w' := by
  obtain ⟨⟨r, n⟩, k, b⟩ := t
  have HB := Lib.hid ((Below.refl w.heap.size w).alloc (Nat.le_refl _) (.cells #[.string ⟨r.toArray⟩, .string ⟨n.toArray⟩, .int .i64 k, .slice A b.length c] 28))
  simp only
  by_cases hr : r = []
  · subst hr
    by_cases hn : n = []
    · subst hn
      by_cases hk : k = 0
      · subst hk
        by_cases hb : b = []
        · subst hb
          have E := Lib.hid (show decide ((⟨([], []), 0, []⟩ : Tk) = tk0) = true from rfl)
          go_enter Try.func14, Try.ntmps14
          go_wp2
          go_ret
          exact ⟨by rw [E.out]; rfl, HB.out⟩
        · have t1 : ((b.length : Int) == 0) = false := by simpa using hb
          have E := Lib.hid (show decide ((⟨([], []), 0, b⟩ : Tk) = tk0) = false from decide_eq_false (fun h => hb (congrArg Tk.b h)))
          go_enter Try.func14, Try.ntmps14
          go_wp2
          go_ret
          exact ⟨by rw [E.out]; rfl, HB.out⟩
      · have t1 : (k == 0) = false := by simpa using hk
        have E := Lib.hid (show decide ((⟨([], []), k, b⟩ : Tk) = tk0) = false from decide_eq_false (fun h => hk (congrArg Tk.k h)))
        go_enter Try.func14, Try.ntmps14
        go_wp2
        go_ret
        exact ⟨by rw [E.out]; rfl, HB.out⟩
    · have t1 : (n == []) = false := by simpa using hn
      have E := Lib.hid (show decide ((⟨([], n), k, b⟩ : Tk) = tk0) = false from decide_eq_false (fun h => hn (congrArg (fun t => t.s.2) h)))
      go_enter Try.func14, Try.ntmps14
      go_wp2
      go_ret
      exact ⟨by rw [E.out]; rfl, HB.out⟩
  · have t1 : (r == []) = false := by simpa using hr
    have E := Lib.hid (show decide ((⟨(r, n), k, b⟩ : Tk) = tk0) = false from decide_eq_false (fun h => hr (congrArg (fun t => t.s.1) h)))
    go_enter Try.func14, Try.ntmps14
    go_wp2
    go_ret
    exact ⟨by rw [E.out]; rfl, HB.out⟩
end Go.Proofs.Yteeabfplnaknfaa.Ms
end

section
set_option linter.unusedVariables false
set_option linter.unusedSimpArgs false
namespace Go.Proofs.Yteeabfplnaknfaa.Ms
open Go.RowKit Go.Proofs.Yteeabfplnaknfaa.Mem Go.Proofs.Yteeabfplnaknfaa.DerP

def mSm (m : Mg) : Prop := (pSm m.aq.c ∧ pSm m.aq.s) ∧ (pSm m.tg.t.s ∧ pSm m.tg.s) ∧ (pSm m.re.c ∧ pSm m.re.t.s) ∧ pSm m.ap.t.s
section
variable {α : Type}
theorem as_ifs (x : As) (f : Bool → α) : (if x.c.1 = [] then if x.c.2 = [] then if x.s.1 = [] then if x.s.2 = [] then if x.t = 0 then if x.no = 0 then f true else f false else f false else f false else f false else f false else f false) = f (decide (x = as0)) := by
  obtain ⟨⟨a, b⟩, ⟨c, d⟩, t, n⟩ := x
  by_cases h1 : a = []
  · by_cases h2 : b = []
    · by_cases h3 : c = []
      · by_cases h4 : d = []
        · by_cases h5 : t = 0
          · by_cases h6 : n = 0
            · simp [h1, h2, h3, h4, h5, h6, as0, pr0]
            · simp [h1, h2, h3, h4, h5, h6, as0, pr0]
          · simp [h1, h2, h3, h4, h5, as0, pr0]
        · simp [h1, h2, h3, h4, as0, pr0]
      · simp [h1, h2, h3, as0, pr0]
    · simp [h1, h2, as0, pr0]
  · simp [h1, as0, pr0]
theorem pr_ifs (x : Pr) (f : Bool → α) : (if x.1 = [] then if x.2 = [] then f true else f false else f false) = f (decide (x = pr0)) := by
  obtain ⟨a, b⟩ := x
  by_cases h1 : a = []
  · by_cases h2 : b = []
    · simp [h1, h2, pr0]
    · simp [h1, h2, pr0]
  · simp [h1, pr0]
theorem fa_ifs (x : Fa) (f : Bool → α) : (if x.e = 0 then if x.no = 0 then f true else f false else f false) = f (decide (x = fa0)) := by
  obtain ⟨a, b⟩ := x
  by_cases h1 : a = 0
  · by_cases h2 : b = 0
    · simp [h1, h2, fa0]
    · simp [h1, h2, fa0]
  · simp [h1, fa0]
end
theorem tg_form (x : Tg) : decide (x = tg0) = (decide (x.t = tk0) && (decide (x.a = []) && (decide (x.s = pr0) && (decide (x.u = 0) && decide (x.no = 0))))) := by
  obtain ⟨t, a, s, u, n⟩ := x
  simp [tg0, Bool.decide_and]
theorem re_form (x : Re) : decide (x = re0) = (decide (x.c = pr0) && (decide (x.t = tk0) && decide (x.b = []))) := by
  obtain ⟨c, t, b⟩ := x
  simp [re0, Bool.decide_and]
theorem ap_form (x : Ap) : decide (x = ap0) = (decide (x.t = tk0) && decide (x.a = [])) := by
  obtain ⟨t, a⟩ := x
  simp [ap0, Bool.decide_and]
theorem mg_form (m : Mg) : mgB m = if m.k = 1 then asB m.aq && (decide (m.tg = tg0) && (decide (m.re = re0) && (decide (m.ap = ap0) && decide (m.fa = fa0))))
    else if m.k = 2 then tgB m.tg && (decide (m.aq = as0) && (decide (m.re = re0) && (decide (m.ap = ap0) && decide (m.fa = fa0))))
    else if m.k = 3 then (prB m.re.c && (tkB m.re.t && blobB m.re.b)) && (decide (m.aq = as0) && (decide (m.tg = tg0) && (decide (m.ap = ap0) && decide (m.fa = fa0))))
    else if m.k = 4 then (tkB m.ap.t && blobB m.ap.a) && (decide (m.aq = as0) && (decide (m.tg = tg0) && (decide (m.re = re0) && decide (m.fa = fa0))))
    else if m.k = 5 then (inB m.fa.e 1 255 && tmB m.fa.no) && (decide (m.aq = as0) && (decide (m.tg = tg0) && (decide (m.re = re0) && decide (m.ap = ap0)))) else false := by
  obtain ⟨k, a, t, r, p, f⟩ := m
  unfold mgB
  simp only [Mg.mk.injEq, true_and, and_true]
  by_cases h1 : k = 1
  · simp [h1, Bool.decide_and]
  · rw [if_neg h1, if_neg h1]
    by_cases h2 : k = 2
    · simp [h2, Bool.decide_and]
    · rw [if_neg h2, if_neg h2]
      by_cases h3 : k = 3
      · simp [h3, reB, Bool.decide_and]
      · rw [if_neg h3, if_neg h3]
        by_cases h4 : k = 4
        · simp [h4, apB, Bool.decide_and]
        · rw [if_neg h4, if_neg h4]
          by_cases h5 : k = 5
          · simp [h5, faB, Bool.decide_and]
          · rw [if_neg h5, if_neg h5]
end Go.Proofs.Yteeabfplnaknfaa.Ms
end
