import Derived.Deep.RegionHeld3
import Derived.Deep.LoopGhost
import Derived.Test.YteeabfplnaknfaaGreatZA1
import Derived.Test.YteeabfplnaknfaaGreatZA2
import Derived.Test.YteeabfplnaknfaaGreatZA3
import Derived.Test.YteeabfplnaknfaaGreatZA5
import Derived.Test.YteeabfplnaknfaaGreatZA6
section
set_option linter.unusedVariables false
set_option linter.unusedSimpArgs false
namespace Go.Proofs.YteeabfplnaknfaaGreat.Mc
open Go.RowKit Go.Proofs.YteeabfplnaknfaaGreat.Mem Go.Proofs.YteeabfplnaknfaaGreat.DerP Go.Proofs.YteeabfplnaknfaaGreat.Ms

theorem isprinc_any (p : Pr) (w : World) (h1 : p.1.length ≤ 1000000000) (h2 : p.2.length ≤ 1000000000) : Calls Tryz.prog 100 #[prV p] w fun e w' => e = .returned (.bool (prB p)) ∧ Below w.heap.size w w' := Nm.isprinc_any p.1 p.2 w h1 h2
theorem within_any (n a b : Int) (w : World) : Calls Tryz.prog 117 #[.int .i64 n, .int .i64 a, .int .i64 b] w fun e w' => e = .returned (.bool (inB n a b)) ∧ w = w' := by
  cases h1 : decide (a ≤ n) with
  | false =>
    go_enter Tryz.func117, Tryz.ntmps117
    go_wp2
    go_ret
    exact ⟨by rw [inB, h1]; rfl, rfl⟩
  | true =>
    go_enter Tryz.func117, Tryz.ntmps117
    go_wp2
    go_ret
    exact ⟨by rw [inB, h1]; rfl, rfl⟩
theorem time_any (n : Int) (w : World) : Calls Tryz.prog 102 #[.int .i64 n] w fun e w' => e = .returned (.bool (tmB n)) ∧ w = w' := by
  have c1 := within_any n 0 1073741824 w
  rw [show inB n 0 1073741824 = tmB n from rfl] at c1
  go_enter Tryz.func102, Tryz.ntmps102
  go_wp2_with (go_at_call 117; refine Calls.mono c1 ?_; rintro e w1 ⟨rfl, rfl⟩)
  go_ret
  exact ⟨rfl, rfl⟩
theorem nonce_any (n : Int) (w : World) : Calls Tryz.prog 108 #[.int .i64 n] w fun e w' => e = .returned (.bool (tmB n)) ∧ w = w' := by
  have c1 := within_any n 0 1073741824 w
  rw [show inB n 0 1073741824 = tmB n from rfl] at c1
  go_enter Tryz.func108, Tryz.ntmps108
  go_wp2_with (go_at_call 117; refine Calls.mono c1 ?_; rintro e w1 ⟨rfl, rfl⟩)
  go_ret
  exact ⟨rfl, rfl⟩
theorem isblob_any (b : L) (A : Option Addr) (c : Nat) (w : World) : Calls Tryz.prog 116 #[.slice A b.length c] w fun e w' => e = .returned (.bool (blobB b)) ∧ w = w' := by
  have c1 := within_any (b.length : Int) 1 800 w
  rw [blob_in] at c1
  go_enter Tryz.func116, Tryz.ntmps116
  go_wp2_with (go_at_call 117; refine Calls.mono c1 ?_; rintro e w1 ⟨rfl, rfl⟩)
  go_ret
  exact ⟨rfl, rfl⟩
set_option maxHeartbeats 3200000 in
theorem isticket_any (t : Tk) (A : Option Addr) (c : Nat) (w : World) (hs : pSm t.s) : Calls Tryz.prog 115 #[.agg #[.string ⟨t.s.1.toArray⟩, .string ⟨t.s.2.toArray⟩, .int .i64 t.k, .slice A t.b.length c]] w fun e w' => e = .returned (.bool (tkB t)) ∧ Below w.heap.size w w' := by
  have hb0 := (Below.refl w.heap.size w).alloc (Nat.le_refl _) (.cells #[.string ⟨t.s.1.toArray⟩, .string ⟨t.s.2.toArray⟩, .int .i64 t.k, .slice A t.b.length c] 28)
  have HB := Lib.hid hb0
  have HK := Lib.hid (Blk.new w 28 #[.string ⟨t.s.1.toArray⟩, .string ⟨t.s.2.toArray⟩, .int .i64 t.k, .slice A t.b.length c])
  clear hb0
  have T1 := Lib.hid (fun w1 => isprinc_any t.s w1 hs.1 hs.2)
  have T2 := Lib.hid (fun w1 => within_any t.k 1 255 w1)
  have T3 := Lib.hid (fun w1 => isblob_any t.b A c w1)
  cases h1 : prB t.s with
  | false =>
    rw [h1] at T1
    have E := Lib.hid (show tkB t = false by rw [tkB, h1]; rfl)
    clear h1
    go_enter Tryz.func115, Tryz.ntmps115
    go_wp2_with (go_at_call 100; (with_reducible refine Calls.mono (T1.out _) ?_); rintro e w1 ⟨rfl, hb⟩; replace HK := Lib.hid (HK.out.below hb); replace HB := Lib.hid (HB.out.trans (hb.mono HB.out.size)); clear hb T1; (try clear k0 k1 k2 k3); have k0 := HK.out.cell 0; have k1 := HK.out.cell 1; have k2 := HK.out.cell 2; have k3 := HK.out.cell 3; simp only [List.getElem?_toArray, List.getElem?_cons_zero, List.getElem?_cons_succ] at k0 k1 k2 k3)
    go_ret
    exact ⟨by rw [E.out]; rfl, HB.out⟩
  | true =>
    rw [h1] at T1
    cases h2 : inB t.k 1 255 with
    | false =>
      rw [h2] at T2
      have E := Lib.hid (show tkB t = false by rw [tkB, h1, h2]; rfl)
      clear h1 h2
      go_enter Tryz.func115, Tryz.ntmps115
      go_wp2_with (first
        | (go_at_call 100; (with_reducible refine Calls.mono (T1.out _) ?_); rintro e w1 ⟨rfl, hb⟩; replace HK := Lib.hid (HK.out.below hb); replace HB := Lib.hid (HB.out.trans (hb.mono HB.out.size)); clear hb T1; (try clear k0 k1 k2 k3); have k0 := HK.out.cell 0; have k1 := HK.out.cell 1; have k2 := HK.out.cell 2; have k3 := HK.out.cell 3; simp only [List.getElem?_toArray, List.getElem?_cons_zero, List.getElem?_cons_succ] at k0 k1 k2 k3)
        | (go_at_call 117; (with_reducible refine Calls.mono (T2.out _) ?_); rintro e w2 ⟨rfl, hw⟩; subst hw; clear T2))
      go_ret
      exact ⟨by rw [E.out]; rfl, HB.out⟩
    | true =>
      rw [h2] at T2
      have E := Lib.hid (show tkB t = blobB t.b by rw [tkB, h1, h2]; rfl)
      clear h1 h2
      go_enter Tryz.func115, Tryz.ntmps115
      go_wp2_with (first
        | (go_at_call 100; (with_reducible refine Calls.mono (T1.out _) ?_); rintro e w1 ⟨rfl, hb⟩; replace HK := Lib.hid (HK.out.below hb); replace HB := Lib.hid (HB.out.trans (hb.mono HB.out.size)); clear hb T1; (try clear k0 k1 k2 k3); have k0 := HK.out.cell 0; have k1 := HK.out.cell 1; have k2 := HK.out.cell 2; have k3 := HK.out.cell 3; simp only [List.getElem?_toArray, List.getElem?_cons_zero, List.getElem?_cons_succ] at k0 k1 k2 k3)
        | (go_at_call 117; (with_reducible refine Calls.mono (T2.out _) ?_); rintro e w2 ⟨rfl, hw⟩; subst hw; clear T2)
        | (go_at_call 116; (with_reducible refine Calls.mono (T3.out _) ?_); rintro e w3 ⟨rfl, hw⟩; subst hw; clear T3))
      go_ret
      exact ⟨by rw [E.out]; rfl, HB.out⟩
set_option maxHeartbeats 3200000 in
theorem isas_any (q : As) (w : World) (hs : pSm q.c) (hs2 : pSm q.s) : Calls Tryz.prog 71 #[.agg #[.string ⟨q.c.1.toArray⟩, .string ⟨q.c.2.toArray⟩, .string ⟨q.s.1.toArray⟩, .string ⟨q.s.2.toArray⟩, .int .i64 q.t, .int .i64 q.no]] w fun e w' => e = .returned (.bool (asB q)) ∧ Below w.heap.size w w' := by
  have hb0 := (Below.refl w.heap.size w).alloc (Nat.le_refl _) (.cells #[.string ⟨q.c.1.toArray⟩, .string ⟨q.c.2.toArray⟩, .string ⟨q.s.1.toArray⟩, .string ⟨q.s.2.toArray⟩, .int .i64 q.t, .int .i64 q.no] 25)
  have HB := Lib.hid hb0
  have HK := Lib.hid (Blk.new w 25 #[.string ⟨q.c.1.toArray⟩, .string ⟨q.c.2.toArray⟩, .string ⟨q.s.1.toArray⟩, .string ⟨q.s.2.toArray⟩, .int .i64 q.t, .int .i64 q.no])
  clear hb0
  have T1 := Lib.hid (fun w1 => isprinc_any q.c w1 hs.1 hs.2)
  have T2 := Lib.hid (fun w1 => isprinc_any q.s w1 hs2.1 hs2.2)
  have T3 := Lib.hid (fun w1 => time_any q.t w1)
  have T4 := Lib.hid (fun w1 => nonce_any q.no w1)
  cases h1 : prB q.c with
  | false =>
    rw [h1] at T1
    have E := Lib.hid (show asB q = false by rw [asB, h1]; rfl)
    clear h1
    go_enter Tryz.func71, Tryz.ntmps71
    go_wp2_with (go_at_call 100; (with_reducible refine Calls.mono (T1.out _) ?_); rintro e w1 ⟨rfl, hb⟩; replace HK := Lib.hid (HK.out.below hb); replace HB := Lib.hid (HB.out.trans (hb.mono HB.out.size)); clear hb T1; (try clear k0 k1 k2 k3 k4 k5); have k0 := HK.out.cell 0; have k1 := HK.out.cell 1; have k2 := HK.out.cell 2; have k3 := HK.out.cell 3; have k4 := HK.out.cell 4; have k5 := HK.out.cell 5; simp only [List.getElem?_toArray, List.getElem?_cons_zero, List.getElem?_cons_succ] at k0 k1 k2 k3 k4 k5)
    go_ret
    exact ⟨by rw [E.out]; rfl, HB.out⟩
  | true =>
    rw [h1] at T1
    cases h2 : prB q.s with
    | false =>
      rw [h2] at T2
      have E := Lib.hid (show asB q = false by rw [asB, h1, h2]; rfl)
      clear h1 h2
      go_enter Tryz.func71, Tryz.ntmps71
      go_wp2_with (first
        | (go_at_call 100; (with_reducible refine Calls.mono (T1.out _) ?_); rintro e w1 ⟨rfl, hb⟩; replace HK := Lib.hid (HK.out.below hb); replace HB := Lib.hid (HB.out.trans (hb.mono HB.out.size)); clear hb T1; (try clear k0 k1 k2 k3 k4 k5); have k0 := HK.out.cell 0; have k1 := HK.out.cell 1; have k2 := HK.out.cell 2; have k3 := HK.out.cell 3; have k4 := HK.out.cell 4; have k5 := HK.out.cell 5; simp only [List.getElem?_toArray, List.getElem?_cons_zero, List.getElem?_cons_succ] at k0 k1 k2 k3 k4 k5)
        | (go_at_call 100; (with_reducible refine Calls.mono (T2.out _) ?_); rintro e w2 ⟨rfl, hb⟩; replace HK := Lib.hid (HK.out.below hb); replace HB := Lib.hid (HB.out.trans (hb.mono HB.out.size)); clear hb T2; (try clear k0 k1 k2 k3 k4 k5); have k0 := HK.out.cell 0; have k1 := HK.out.cell 1; have k2 := HK.out.cell 2; have k3 := HK.out.cell 3; have k4 := HK.out.cell 4; have k5 := HK.out.cell 5; simp only [List.getElem?_toArray, List.getElem?_cons_zero, List.getElem?_cons_succ] at k0 k1 k2 k3 k4 k5))
      go_ret
      exact ⟨by rw [E.out]; rfl, HB.out⟩
    | true =>
      rw [h2] at T2
      cases h3 : tmB q.t with
      | false =>
        rw [h3] at T3
        have E := Lib.hid (show asB q = false by rw [asB, h1, h2, h3]; rfl)
        clear h1 h2 h3
        go_enter Tryz.func71, Tryz.ntmps71
        go_wp2_with (first
          | (go_at_call 100; (with_reducible refine Calls.mono (T1.out _) ?_); rintro e w1 ⟨rfl, hb⟩; replace HK := Lib.hid (HK.out.below hb); replace HB := Lib.hid (HB.out.trans (hb.mono HB.out.size)); clear hb T1; (try clear k0 k1 k2 k3 k4 k5); have k0 := HK.out.cell 0; have k1 := HK.out.cell 1; have k2 := HK.out.cell 2; have k3 := HK.out.cell 3; have k4 := HK.out.cell 4; have k5 := HK.out.cell 5; simp only [List.getElem?_toArray, List.getElem?_cons_zero, List.getElem?_cons_succ] at k0 k1 k2 k3 k4 k5)
          | (go_at_call 100; (with_reducible refine Calls.mono (T2.out _) ?_); rintro e w2 ⟨rfl, hb⟩; replace HK := Lib.hid (HK.out.below hb); replace HB := Lib.hid (HB.out.trans (hb.mono HB.out.size)); clear hb T2; (try clear k0 k1 k2 k3 k4 k5); have k0 := HK.out.cell 0; have k1 := HK.out.cell 1; have k2 := HK.out.cell 2; have k3 := HK.out.cell 3; have k4 := HK.out.cell 4; have k5 := HK.out.cell 5; simp only [List.getElem?_toArray, List.getElem?_cons_zero, List.getElem?_cons_succ] at k0 k1 k2 k3 k4 k5)
          | (go_at_call 102; (with_reducible refine Calls.mono (T3.out _) ?_); rintro e w3 ⟨rfl, hw⟩; subst hw; clear T3))
        go_ret
        exact ⟨by rw [E.out]; rfl, HB.out⟩
      | true =>
        rw [h3] at T3
        have E := Lib.hid (show asB q = tmB q.no by rw [asB, h1, h2, h3]; rfl)
        clear h1 h2 h3
        go_enter Tryz.func71, Tryz.ntmps71
        go_wp2_with (first
          | (go_at_call 100; (with_reducible refine Calls.mono (T1.out _) ?_); rintro e w1 ⟨rfl, hb⟩; replace HK := Lib.hid (HK.out.below hb); replace HB := Lib.hid (HB.out.trans (hb.mono HB.out.size)); clear hb T1; (try clear k0 k1 k2 k3 k4 k5); have k0 := HK.out.cell 0; have k1 := HK.out.cell 1; have k2 := HK.out.cell 2; have k3 := HK.out.cell 3; have k4 := HK.out.cell 4; have k5 := HK.out.cell 5; simp only [List.getElem?_toArray, List.getElem?_cons_zero, List.getElem?_cons_succ] at k0 k1 k2 k3 k4 k5)
          | (go_at_call 100; (with_reducible refine Calls.mono (T2.out _) ?_); rintro e w2 ⟨rfl, hb⟩; replace HK := Lib.hid (HK.out.below hb); replace HB := Lib.hid (HB.out.trans (hb.mono HB.out.size)); clear hb T2; (try clear k0 k1 k2 k3 k4 k5); have k0 := HK.out.cell 0; have k1 := HK.out.cell 1; have k2 := HK.out.cell 2; have k3 := HK.out.cell 3; have k4 := HK.out.cell 4; have k5 := HK.out.cell 5; simp only [List.getElem?_toArray, List.getElem?_cons_zero, List.getElem?_cons_succ] at k0 k1 k2 k3 k4 k5)
          | (go_at_call 102; (with_reducible refine Calls.mono (T3.out _) ?_); rintro e w3 ⟨rfl, hw⟩; subst hw; clear T3)
          | (go_at_call 108; (with_reducible refine Calls.mono (T4.out _) ?_); rintro e w4 ⟨rfl, hw⟩; subst hw; clear T4))
        go_ret
        exact ⟨by rw [E.out]; rfl, HB.out⟩
set_option maxHeartbeats 3200000 in
theorem istgs_any (q : Tg) (A1 A2 : Option Addr) (c1 c2 : Nat) (w : World) (hs : pSm q.t.s) (hs2 : pSm q.s) : Calls Tryz.prog 72 #[.agg #[.string ⟨q.t.s.1.toArray⟩, .string ⟨q.t.s.2.toArray⟩, .int .i64 q.t.k, .slice A1 q.t.b.length c1, .slice A2 q.a.length c2, .string ⟨q.s.1.toArray⟩, .string ⟨q.s.2.toArray⟩, .int .i64 q.u, .int .i64 q.no]] w fun e w' => e = .returned (.bool (tgB q)) ∧ Below w.heap.size w w' := by
  have hb0 := (Below.refl w.heap.size w).alloc (Nat.le_refl _) (.cells #[.string ⟨q.t.s.1.toArray⟩, .string ⟨q.t.s.2.toArray⟩, .int .i64 q.t.k, .slice A1 q.t.b.length c1, .slice A2 q.a.length c2, .string ⟨q.s.1.toArray⟩, .string ⟨q.s.2.toArray⟩, .int .i64 q.u, .int .i64 q.no] 30)
  have HB := Lib.hid hb0
  have HK := Lib.hid (Blk.new w 30 #[.string ⟨q.t.s.1.toArray⟩, .string ⟨q.t.s.2.toArray⟩, .int .i64 q.t.k, .slice A1 q.t.b.length c1, .slice A2 q.a.length c2, .string ⟨q.s.1.toArray⟩, .string ⟨q.s.2.toArray⟩, .int .i64 q.u, .int .i64 q.no])
  clear hb0
  have T1 := Lib.hid (fun w1 => isticket_any q.t A1 c1 w1 hs)
  have T2 := Lib.hid (fun w1 => isblob_any q.a A2 c2 w1)
  have T3 := Lib.hid (fun w1 => isprinc_any q.s w1 hs2.1 hs2.2)
  have T4 := Lib.hid (fun w1 => time_any q.u w1)
  have T5 := Lib.hid (fun w1 => nonce_any q.no w1)
  cases h1 : tkB q.t with
  | false =>
    rw [h1] at T1
    have E := Lib.hid (show tgB q = false by rw [tgB, h1]; rfl)
    clear h1
    go_enter Tryz.func72, Tryz.ntmps72
    go_wp2_with (go_at_call 115; (with_reducible refine Calls.mono (T1.out _) ?_); rintro e w1 ⟨rfl, hb⟩; replace HK := Lib.hid (HK.out.below hb); replace HB := Lib.hid (HB.out.trans (hb.mono HB.out.size)); clear hb T1; (try clear k0 k1 k2 k3 k4 k5 k6 k7 k8); have k0 := HK.out.cell 0; have k1 := HK.out.cell 1; have k2 := HK.out.cell 2; have k3 := HK.out.cell 3; have k4 := HK.out.cell 4; have k5 := HK.out.cell 5; have k6 := HK.out.cell 6; have k7 := HK.out.cell 7; have k8 := HK.out.cell 8; simp only [List.getElem?_toArray, List.getElem?_cons_zero, List.getElem?_cons_succ] at k0 k1 k2 k3 k4 k5 k6 k7 k8)
    go_ret
    exact ⟨by rw [E.out]; rfl, HB.out⟩
  | true =>
    rw [h1] at T1
    cases h2 : blobB q.a with
    | false =>
      rw [h2] at T2
      have E := Lib.hid (show tgB q = false by rw [tgB, h1, h2]; rfl)
      clear h1 h2
      go_enter Tryz.func72, Tryz.ntmps72
      go_wp2_with (first
        | (go_at_call 115; (with_reducible refine Calls.mono (T1.out _) ?_); rintro e w1 ⟨rfl, hb⟩; replace HK := Lib.hid (HK.out.below hb); replace HB := Lib.hid (HB.out.trans (hb.mono HB.out.size)); clear hb T1; (try clear k0 k1 k2 k3 k4 k5 k6 k7 k8); have k0 := HK.out.cell 0; have k1 := HK.out.cell 1; have k2 := HK.out.cell 2; have k3 := HK.out.cell 3; have k4 := HK.out.cell 4; have k5 := HK.out.cell 5; have k6 := HK.out.cell 6; have k7 := HK.out.cell 7; have k8 := HK.out.cell 8; simp only [List.getElem?_toArray, List.getElem?_cons_zero, List.getElem?_cons_succ] at k0 k1 k2 k3 k4 k5 k6 k7 k8)
        | (go_at_call 116; (with_reducible refine Calls.mono (T2.out _) ?_); rintro e w2 ⟨rfl, hw⟩; subst hw; clear T2))
      go_ret
      exact ⟨by rw [E.out]; rfl, HB.out⟩
    | true =>
      rw [h2] at T2
      cases h3 : prB q.s with
      | false =>
        rw [h3] at T3
        have E := Lib.hid (show tgB q = false by rw [tgB, h1, h2, h3]; rfl)
        clear h1 h2 h3
        go_enter Tryz.func72, Tryz.ntmps72
        go_wp2_with (first
          | (go_at_call 115; (with_reducible refine Calls.mono (T1.out _) ?_); rintro e w1 ⟨rfl, hb⟩; replace HK := Lib.hid (HK.out.below hb); replace HB := Lib.hid (HB.out.trans (hb.mono HB.out.size)); clear hb T1; (try clear k0 k1 k2 k3 k4 k5 k6 k7 k8); have k0 := HK.out.cell 0; have k1 := HK.out.cell 1; have k2 := HK.out.cell 2; have k3 := HK.out.cell 3; have k4 := HK.out.cell 4; have k5 := HK.out.cell 5; have k6 := HK.out.cell 6; have k7 := HK.out.cell 7; have k8 := HK.out.cell 8; simp only [List.getElem?_toArray, List.getElem?_cons_zero, List.getElem?_cons_succ] at k0 k1 k2 k3 k4 k5 k6 k7 k8)
          | (go_at_call 116; (with_reducible refine Calls.mono (T2.out _) ?_); rintro e w2 ⟨rfl, hw⟩; subst hw; clear T2)
          | (go_at_call 100; (with_reducible refine Calls.mono (T3.out _) ?_); rintro e w3 ⟨rfl, hb⟩; replace HK := Lib.hid (HK.out.below hb); replace HB := Lib.hid (HB.out.trans (hb.mono HB.out.size)); clear hb T3; (try clear k0 k1 k2 k3 k4 k5 k6 k7 k8); have k0 := HK.out.cell 0; have k1 := HK.out.cell 1; have k2 := HK.out.cell 2; have k3 := HK.out.cell 3; have k4 := HK.out.cell 4; have k5 := HK.out.cell 5; have k6 := HK.out.cell 6; have k7 := HK.out.cell 7; have k8 := HK.out.cell 8; simp only [List.getElem?_toArray, List.getElem?_cons_zero, List.getElem?_cons_succ] at k0 k1 k2 k3 k4 k5 k6 k7 k8))
        go_ret
        exact ⟨by rw [E.out]; rfl, HB.out⟩
      | true =>
        rw [h3] at T3
        cases h4 : tmB q.u with
        | false =>
          rw [h4] at T4
          have E := Lib.hid (show tgB q = false by rw [tgB, h1, h2, h3, h4]; rfl)
          clear h1 h2 h3 h4
          go_enter Tryz.func72, Tryz.ntmps72
          go_wp2_with (first
            | (go_at_call 115; (with_reducible refine Calls.mono (T1.out _) ?_); rintro e w1 ⟨rfl, hb⟩; replace HK := Lib.hid (HK.out.below hb); replace HB := Lib.hid (HB.out.trans (hb.mono HB.out.size)); clear hb T1; (try clear k0 k1 k2 k3 k4 k5 k6 k7 k8); have k0 := HK.out.cell 0; have k1 := HK.out.cell 1; have k2 := HK.out.cell 2; have k3 := HK.out.cell 3; have k4 := HK.out.cell 4; have k5 := HK.out.cell 5; have k6 := HK.out.cell 6; have k7 := HK.out.cell 7; have k8 := HK.out.cell 8; simp only [List.getElem?_toArray, List.getElem?_cons_zero, List.getElem?_cons_succ] at k0 k1 k2 k3 k4 k5 k6 k7 k8)
            | (go_at_call 116; (with_reducible refine Calls.mono (T2.out _) ?_); rintro e w2 ⟨rfl, hw⟩; subst hw; clear T2)
            | (go_at_call 100; (with_reducible refine Calls.mono (T3.out _) ?_); rintro e w3 ⟨rfl, hb⟩; replace HK := Lib.hid (HK.out.below hb); replace HB := Lib.hid (HB.out.trans (hb.mono HB.out.size)); clear hb T3; (try clear k0 k1 k2 k3 k4 k5 k6 k7 k8); have k0 := HK.out.cell 0; have k1 := HK.out.cell 1; have k2 := HK.out.cell 2; have k3 := HK.out.cell 3; have k4 := HK.out.cell 4; have k5 := HK.out.cell 5; have k6 := HK.out.cell 6; have k7 := HK.out.cell 7; have k8 := HK.out.cell 8; simp only [List.getElem?_toArray, List.getElem?_cons_zero, List.getElem?_cons_succ] at k0 k1 k2 k3 k4 k5 k6 k7 k8)
            | (go_at_call 102; (with_reducible refine Calls.mono (T4.out _) ?_); rintro e w4 ⟨rfl, hw⟩; subst hw; clear T4))
          go_ret
          exact ⟨by rw [E.out]; rfl, HB.out⟩
        | true =>
          rw [h4] at T4
          have E := Lib.hid (show tgB q = tmB q.no by rw [tgB, h1, h2, h3, h4]; rfl)
          clear h1 h2 h3 h4
          go_enter Tryz.func72, Tryz.ntmps72
          go_wp2_with (first
            | (go_at_call 115; (with_reducible refine Calls.mono (T1.out _) ?_); rintro e w1 ⟨rfl, hb⟩; replace HK := Lib.hid (HK.out.below hb); replace HB := Lib.hid (HB.out.trans (hb.mono HB.out.size)); clear hb T1; (try clear k0 k1 k2 k3 k4 k5 k6 k7 k8); have k0 := HK.out.cell 0; have k1 := HK.out.cell 1; have k2 := HK.out.cell 2; have k3 := HK.out.cell 3; have k4 := HK.out.cell 4; have k5 := HK.out.cell 5; have k6 := HK.out.cell 6; have k7 := HK.out.cell 7; have k8 := HK.out.cell 8; simp only [List.getElem?_toArray, List.getElem?_cons_zero, List.getElem?_cons_succ] at k0 k1 k2 k3 k4 k5 k6 k7 k8)
            | (go_at_call 116; (with_reducible refine Calls.mono (T2.out _) ?_); rintro e w2 ⟨rfl, hw⟩; subst hw; clear T2)
            | (go_at_call 100; (with_reducible refine Calls.mono (T3.out _) ?_); rintro e w3 ⟨rfl, hb⟩; replace HK := Lib.hid (HK.out.below hb); replace HB := Lib.hid (HB.out.trans (hb.mono HB.out.size)); clear hb T3; (try clear k0 k1 k2 k3 k4 k5 k6 k7 k8); have k0 := HK.out.cell 0; have k1 := HK.out.cell 1; have k2 := HK.out.cell 2; have k3 := HK.out.cell 3; have k4 := HK.out.cell 4; have k5 := HK.out.cell 5; have k6 := HK.out.cell 6; have k7 := HK.out.cell 7; have k8 := HK.out.cell 8; simp only [List.getElem?_toArray, List.getElem?_cons_zero, List.getElem?_cons_succ] at k0 k1 k2 k3 k4 k5 k6 k7 k8)
            | (go_at_call 102; (with_reducible refine Calls.mono (T4.out _) ?_); rintro e w4 ⟨rfl, hw⟩; subst hw; clear T4)
            | (go_at_call 108; (with_reducible refine Calls.mono (T5.out _) ?_); rintro e w5 ⟨rfl, hw⟩; subst hw; clear T5))
          go_ret
          exact ⟨by rw [E.out]; rfl, HB.out⟩
set_option maxHeartbeats 3200000 in
theorem isre_any (q : Re) (A1 A2 : Option Addr) (c1 c2 : Nat) (w : World) (hs : pSm q.t.s) (hs2 : pSm q.c) : Calls Tryz.prog 73 #[.agg #[.string ⟨q.c.1.toArray⟩, .string ⟨q.c.2.toArray⟩, .string ⟨q.t.s.1.toArray⟩, .string ⟨q.t.s.2.toArray⟩, .int .i64 q.t.k, .slice A1 q.t.b.length c1, .slice A2 q.b.length c2]] w fun e w' => e = .returned (.bool (reB q)) ∧ Below w.heap.size w w' := by
  have hb0 := (Below.refl w.heap.size w).alloc (Nat.le_refl _) (.cells #[.string ⟨q.c.1.toArray⟩, .string ⟨q.c.2.toArray⟩, .string ⟨q.t.s.1.toArray⟩, .string ⟨q.t.s.2.toArray⟩, .int .i64 q.t.k, .slice A1 q.t.b.length c1, .slice A2 q.b.length c2] 32)
  have HB := Lib.hid hb0
  have HK := Lib.hid (Blk.new w 32 #[.string ⟨q.c.1.toArray⟩, .string ⟨q.c.2.toArray⟩, .string ⟨q.t.s.1.toArray⟩, .string ⟨q.t.s.2.toArray⟩, .int .i64 q.t.k, .slice A1 q.t.b.length c1, .slice A2 q.b.length c2])
  clear hb0
  have T1 := Lib.hid (fun w1 => isprinc_any q.c w1 hs2.1 hs2.2)
  have T2 := Lib.hid (fun w1 => isticket_any q.t A1 c1 w1 hs)
  have T3 := Lib.hid (fun w1 => isblob_any q.b A2 c2 w1)
  cases h1 : prB q.c with
  | false =>
    rw [h1] at T1
    have E := Lib.hid (show reB q = false by rw [reB, h1]; rfl)
    clear h1
    go_enter Tryz.func73, Tryz.ntmps73
    go_wp2_with (go_at_call 100; (with_reducible refine Calls.mono (T1.out _) ?_); rintro e w1 ⟨rfl, hb⟩; replace HK := Lib.hid (HK.out.below hb); replace HB := Lib.hid (HB.out.trans (hb.mono HB.out.size)); clear hb T1; (try clear k0 k1 k2 k3 k4 k5 k6); have k0 := HK.out.cell 0; have k1 := HK.out.cell 1; have k2 := HK.out.cell 2; have k3 := HK.out.cell 3; have k4 := HK.out.cell 4; have k5 := HK.out.cell 5; have k6 := HK.out.cell 6; simp only [List.getElem?_toArray, List.getElem?_cons_zero, List.getElem?_cons_succ] at k0 k1 k2 k3 k4 k5 k6)
    go_ret
    exact ⟨by rw [E.out]; rfl, HB.out⟩
  | true =>
    rw [h1] at T1
    cases h2 : tkB q.t with
    | false =>
      rw [h2] at T2
      have E := Lib.hid (show reB q = false by rw [reB, h1, h2]; rfl)
      clear h1 h2
      go_enter Tryz.func73, Tryz.ntmps73
      go_wp2_with (first
        | (go_at_call 100; (with_reducible refine Calls.mono (T1.out _) ?_); rintro e w1 ⟨rfl, hb⟩; replace HK := Lib.hid (HK.out.below hb); replace HB := Lib.hid (HB.out.trans (hb.mono HB.out.size)); clear hb T1; (try clear k0 k1 k2 k3 k4 k5 k6); have k0 := HK.out.cell 0; have k1 := HK.out.cell 1; have k2 := HK.out.cell 2; have k3 := HK.out.cell 3; have k4 := HK.out.cell 4; have k5 := HK.out.cell 5; have k6 := HK.out.cell 6; simp only [List.getElem?_toArray, List.getElem?_cons_zero, List.getElem?_cons_succ] at k0 k1 k2 k3 k4 k5 k6)
        | (go_at_call 115; (with_reducible refine Calls.mono (T2.out _) ?_); rintro e w2 ⟨rfl, hb⟩; replace HK := Lib.hid (HK.out.below hb); replace HB := Lib.hid (HB.out.trans (hb.mono HB.out.size)); clear hb T2; (try clear k0 k1 k2 k3 k4 k5 k6); have k0 := HK.out.cell 0; have k1 := HK.out.cell 1; have k2 := HK.out.cell 2; have k3 := HK.out.cell 3; have k4 := HK.out.cell 4; have k5 := HK.out.cell 5; have k6 := HK.out.cell 6; simp only [List.getElem?_toArray, List.getElem?_cons_zero, List.getElem?_cons_succ] at k0 k1 k2 k3 k4 k5 k6))
      go_ret
      exact ⟨by rw [E.out]; rfl, HB.out⟩
    | true =>
      rw [h2] at T2
      have E := Lib.hid (show reB q = blobB q.b by rw [reB, h1, h2]; rfl)
      clear h1 h2
      go_enter Tryz.func73, Tryz.ntmps73
      go_wp2_with (first
        | (go_at_call 100; (with_reducible refine Calls.mono (T1.out _) ?_); rintro e w1 ⟨rfl, hb⟩; replace HK := Lib.hid (HK.out.below hb); replace HB := Lib.hid (HB.out.trans (hb.mono HB.out.size)); clear hb T1; (try clear k0 k1 k2 k3 k4 k5 k6); have k0 := HK.out.cell 0; have k1 := HK.out.cell 1; have k2 := HK.out.cell 2; have k3 := HK.out.cell 3; have k4 := HK.out.cell 4; have k5 := HK.out.cell 5; have k6 := HK.out.cell 6; simp only [List.getElem?_toArray, List.getElem?_cons_zero, List.getElem?_cons_succ] at k0 k1 k2 k3 k4 k5 k6)
        | (go_at_call 115; (with_reducible refine Calls.mono (T2.out _) ?_); rintro e w2 ⟨rfl, hb⟩; replace HK := Lib.hid (HK.out.below hb); replace HB := Lib.hid (HB.out.trans (hb.mono HB.out.size)); clear hb T2; (try clear k0 k1 k2 k3 k4 k5 k6); have k0 := HK.out.cell 0; have k1 := HK.out.cell 1; have k2 := HK.out.cell 2; have k3 := HK.out.cell 3; have k4 := HK.out.cell 4; have k5 := HK.out.cell 5; have k6 := HK.out.cell 6; simp only [List.getElem?_toArray, List.getElem?_cons_zero, List.getElem?_cons_succ] at k0 k1 k2 k3 k4 k5 k6)
        | (go_at_call 116; (with_reducible refine Calls.mono (T3.out _) ?_); rintro e w3 ⟨rfl, hw⟩; subst hw; clear T3))
      go_ret
      exact ⟨by rw [E.out]; rfl, HB.out⟩
set_option maxHeartbeats 3200000 in
theorem isap_any (q : Ap) (A1 A2 : Option Addr) (c1 c2 : Nat) (w : World) (hs : pSm q.t.s) : Calls Tryz.prog 74 #[.agg #[.string ⟨q.t.s.1.toArray⟩, .string ⟨q.t.s.2.toArray⟩, .int .i64 q.t.k, .slice A1 q.t.b.length c1, .slice A2 q.a.length c2]] w fun e w' => e = .returned (.bool (apB q)) ∧ Below w.heap.size w w' := by
  have hb0 := (Below.refl w.heap.size w).alloc (Nat.le_refl _) (.cells #[.string ⟨q.t.s.1.toArray⟩, .string ⟨q.t.s.2.toArray⟩, .int .i64 q.t.k, .slice A1 q.t.b.length c1, .slice A2 q.a.length c2] 34)
  have HB := Lib.hid hb0
  have HK := Lib.hid (Blk.new w 34 #[.string ⟨q.t.s.1.toArray⟩, .string ⟨q.t.s.2.toArray⟩, .int .i64 q.t.k, .slice A1 q.t.b.length c1, .slice A2 q.a.length c2])
  clear hb0
  have T1 := Lib.hid (fun w1 => isticket_any q.t A1 c1 w1 hs)
  have T2 := Lib.hid (fun w1 => isblob_any q.a A2 c2 w1)
  cases h1 : tkB q.t with
  | false =>
    rw [h1] at T1
    have E := Lib.hid (show apB q = false by rw [apB, h1]; rfl)
    clear h1
    go_enter Tryz.func74, Tryz.ntmps74
    go_wp2_with (go_at_call 115; (with_reducible refine Calls.mono (T1.out _) ?_); rintro e w1 ⟨rfl, hb⟩; replace HK := Lib.hid (HK.out.below hb); replace HB := Lib.hid (HB.out.trans (hb.mono HB.out.size)); clear hb T1; (try clear k0 k1 k2 k3 k4); have k0 := HK.out.cell 0; have k1 := HK.out.cell 1; have k2 := HK.out.cell 2; have k3 := HK.out.cell 3; have k4 := HK.out.cell 4; simp only [List.getElem?_toArray, List.getElem?_cons_zero, List.getElem?_cons_succ] at k0 k1 k2 k3 k4)
    go_ret
    exact ⟨by rw [E.out]; rfl, HB.out⟩
  | true =>
    rw [h1] at T1
    have E := Lib.hid (show apB q = blobB q.a by rw [apB, h1]; rfl)
    clear h1
    go_enter Tryz.func74, Tryz.ntmps74
    go_wp2_with (first
      | (go_at_call 115; (with_reducible refine Calls.mono (T1.out _) ?_); rintro e w1 ⟨rfl, hb⟩; replace HK := Lib.hid (HK.out.below hb); replace HB := Lib.hid (HB.out.trans (hb.mono HB.out.size)); clear hb T1; (try clear k0 k1 k2 k3 k4); have k0 := HK.out.cell 0; have k1 := HK.out.cell 1; have k2 := HK.out.cell 2; have k3 := HK.out.cell 3; have k4 := HK.out.cell 4; simp only [List.getElem?_toArray, List.getElem?_cons_zero, List.getElem?_cons_succ] at k0 k1 k2 k3 k4)
      | (go_at_call 116; (with_reducible refine Calls.mono (T2.out _) ?_); rintro e w2 ⟨rfl, hw⟩; subst hw; clear T2))
    go_ret
    exact ⟨by rw [E.out]; rfl, HB.out⟩
set_option maxHeartbeats 3200000 in
theorem isfa_any (q : Fa) (w : World) : Calls Tryz.prog 75 #[.agg #[.int .i64 q.e, .int .i64 q.no]] w fun e w' => e = .returned (.bool (faB q)) ∧ Below w.heap.size w w' := by
  have hb0 := (Below.refl w.heap.size w).alloc (Nat.le_refl _) (.cells #[.int .i64 q.e, .int .i64 q.no] 37)
  have HB := Lib.hid hb0
  have HK := Lib.hid (Blk.new w 37 #[.int .i64 q.e, .int .i64 q.no])
  clear hb0
  have T1 := Lib.hid (fun w1 => within_any q.e 1 255 w1)
  have T2 := Lib.hid (fun w1 => nonce_any q.no w1)
  cases h1 : inB q.e 1 255 with
  | false =>
    rw [h1] at T1
    have E := Lib.hid (show faB q = false by rw [faB, h1]; rfl)
    clear h1
    go_enter Tryz.func75, Tryz.ntmps75
    go_wp2_with (go_at_call 117; (with_reducible refine Calls.mono (T1.out _) ?_); rintro e w1 ⟨rfl, hw⟩; subst hw; clear T1)
    go_ret
    exact ⟨by rw [E.out]; rfl, HB.out⟩
  | true =>
    rw [h1] at T1
    have E := Lib.hid (show faB q = tmB q.no by rw [faB, h1]; rfl)
    clear h1
    go_enter Tryz.func75, Tryz.ntmps75
    go_wp2_with (first
      | (go_at_call 117; (with_reducible refine Calls.mono (T1.out _) ?_); rintro e w1 ⟨rfl, hw⟩; subst hw; clear T1)
      | (go_at_call 108; (with_reducible refine Calls.mono (T2.out _) ?_); rintro e w2 ⟨rfl, hw⟩; subst hw; clear T2))
    go_ret
    exact ⟨by rw [E.out]; rfl, HB.out⟩
end Go.Proofs.YteeabfplnaknfaaGreat.Mc
end
