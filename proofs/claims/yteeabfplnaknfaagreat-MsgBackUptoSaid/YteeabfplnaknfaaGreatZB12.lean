import Derived.Deep.RegionHeld3
import Derived.Deep.LoopGhost
import Derived.Test.YteeabfplnaknfaaGreatZB1
import Derived.Test.YteeabfplnaknfaaGreatZB2
import Derived.Test.YteeabfplnaknfaaGreatZB3
import Derived.Test.YteeabfplnaknfaaGreatZB5
import Derived.Test.YteeabfplnaknfaaGreatZB6
import Derived.Test.YteeabfplnaknfaaGreatZB7
import Derived.Test.YteeabfplnaknfaaGreatZB9
import Derived.Test.YteeabfplnaknfaaGreatZB10
section
set_option linter.unusedVariables false
set_option linter.unusedSimpArgs false
namespace Go.Proofs.YteeabfplnaknfaaGreat.Mc
open Go.RowKit Go.Proofs.YteeabfplnaknfaaGreat.Mem Go.Proofs.YteeabfplnaknfaaGreat.DerP Go.Proofs.YteeabfplnaknfaaGreat.Ms

theorem isprinc_any (p : Pr) (w : World) (h1 : p.1.length ≤ 1000000000) (h2 : p.2.length ≤ 1000000000) : Calls Tryz.prog 100 #[prV p] w fun e w' => e = .returned (.bool (prB p)) ∧ Below w.heap.size w w' := Nm.isprinc_any p.1 p.2 w h1 h2
theorem within_any (n a b : Int) (w : World) : Calls Tryz.prog 117 #[.int .i64 n, .int .i64 a, .int .i64 b] w fun e w' => e = .returned (.bool (inB n a b)) ∧ w = w' := by
  cases h1 : decide (a ≤ n) with
  | false =>
    go_enter Tryz.func117, Tryz.ntmps117
    go_wp2
    go_ret
    exact ⟨by rw [inB, h1]; rfl, rfl⟩
  | true =>
    go_enter Tryz.func117, Tryz.ntmps117
    go_wp2
    go_ret
    exact ⟨by rw [inB, h1]; rfl, rfl⟩
theorem time_any (n : Int) (w : World) : Calls Tryz.prog 102 #[.int .i64 n] w fun e w' => e = .returned (.bool (tmB n)) ∧ w = w' := by
  have c1 := within_any n 0 1073741824 w
  rw [show inB n 0 1073741824 = tmB n from rfl] at c1
  go_enter Tryz.func102, Tryz.ntmps102
  go_wp2_with (go_at_call 117; refine Calls.mono c1 ?_; rintro e w1 ⟨rfl, rfl⟩)
  go_ret
  exact ⟨rfl, rfl⟩
theorem nonce_any (n : Int) (w : World) : Calls Tryz.prog 108 #[.int .i64 n] w fun e w' => e = .returned (.bool (tmB n)) ∧ w = w' := by
  have c1 := within_any n 0 1073741824 w
  rw [show inB n 0 1073741824 = tmB n from rfl] at c1
  go_enter Tryz.func108, Tryz.ntmps108
  go_wp2_with (go_at_call 117; refine Calls.mono c1 ?_; rintro e w1 ⟨rfl, rfl⟩)
  go_ret
  exact ⟨rfl, rfl⟩
theorem isblob_any (b : L) (A : Option Addr) (c : Nat) (w : World) : Calls Tryz.prog 116 #[.slice A b.length c] w fun e w' => e = .returned (.bool (blobB b)) ∧ w = w' := by
  have c1 := within_any (b.length : Int) 1 800 w
  rw [blob_in] at c1
  go_enter Tryz.func116, Tryz.ntmps116
  go_wp2_with (go_at_call 117; refine Calls.mono c1 ?_; rintro e w1 ⟨rfl, rfl⟩)
  go_ret
  exact ⟨rfl, rfl⟩
set_option maxHeartbeats 3200000 in
theorem isticket_any (t : Tk) (A : Option Addr) (c : Nat) (w : World) (hs : pSm t.s) : Calls Tryz.prog 115 #[.agg #[.string ⟨t.s.1.toArray⟩, .string ⟨t.s.2.toArray⟩, .int .i64 t.k, .slice A t.b.length c]] w fun e w' => e = .returned (.bool (tkB t)) ∧ Below w.heap.size w w' := by
  have hb0 := (Below.refl w.heap.size w).alloc (Nat.le_refl _) (.cells #[.string ⟨t.s.1.toArray⟩, .string ⟨t.s.2.toArray⟩, .int .i64 t.k, .slice A t.b.length c] 28)
  have HB := Lib.hid hb0
  have HK := Lib.hid (Blk.new w 28 #[.string ⟨t.s.1.toArray⟩, .string ⟨t.s.2.toArray⟩, .int .i64 t.k, .slice A t.b.length c])
  clear hb0
  have T1 := Lib.hid (fun w1 => isprinc_any t.s w1 hs.1 hs.2)
  have T2 := Lib.hid (fun w1 => within_any t.k 1 255 w1)
  have T3 := Lib.hid (fun w1 => isblob_any t.b A c w1)
  cases h1 : prB t.s with
  | false =>
    rw [h1] at T1
    have E := Lib.hid (show tkB t = false by rw [tkB, h1]; rfl)
    clear h1
    go_enter Tryz.func115, Tryz.ntmps115
    go_wp2_with (go_at_call 100; (with_reducible refine Calls.mono (T1.out _) ?_); rintro e w1 ⟨rfl, hb⟩; replace HK := Lib.hid (HK.out.below hb); replace HB := Lib.hid (HB.out.trans (hb.mono HB.out.size)); clear hb T1; (try clear k0 k1 k2 k3); have k0 := HK.out.cell 0; have k1 := HK.out.cell 1; have k2 := HK.out.cell 2; have k3 := HK.out.cell 3; simp only [List.getElem?_toArray, List.getElem?_cons_zero, List.getElem?_cons_succ] at k0 k1 k2 k3)
    go_ret
    exact ⟨by rw [E.out]; rfl, HB.out⟩
  | true =>
    rw [h1] at T1
    cases h2 : inB t.k 1 255 with
    | false =>
      rw [h2] at T2
      have E := Lib.hid (show tkB t = false by rw [tkB, h1, h2]; rfl)
      clear h1 h2
      go_enter Tryz.func115, Tryz.ntmps115
      go_wp2_with (first
        | (go_at_call 100; (with_reducible refine Calls.mono (T1.out _) ?_); rintro e w1 ⟨rfl, hb⟩; replace HK := Lib.hid (HK.out.below hb); replace HB := Lib.hid (HB.out.trans (hb.mono HB.out.size)); clear hb T1; (try clear k0 k1 k2 k3); have k0 := HK.out.cell 0; have k1 := HK.out.cell 1; have k2 := HK.out.cell 2; have k3 := HK.out.cell 3; simp only [List.getElem?_toArray, List.getElem?_cons_zero, List.getElem?_cons_succ] at k0 k1 k2 k3)
        | (go_at_call 117; (with_reducible refine Calls.mono (T2.out _) ?_); rintro e w2 ⟨rfl, hw⟩; subst hw; clear T2))
      go_ret
      exact ⟨by rw [E.out]; rfl, HB.out⟩
    | true =>
      rw [h2] at T2
      have E := Lib.hid (show tkB t = blobB t.b by rw [tkB, h1, h2]; rfl)
      clear h1 h2
      go_enter Tryz.func115, Tryz.ntmps115
      go_wp2_with (first
        | (go_at_call 100; (with_reducible refine Calls.mono (T1.out _) ?_); rintro e w1 ⟨rfl, hb⟩; replace HK := Lib.hid (HK.out.below hb); replace HB := Lib.hid (HB.out.trans (hb.mono HB.out.size)); clear hb T1; (try clear k0 k1 k2 k3); have k0 := HK.out.cell 0; have k1 := HK.out.cell 1; have k2 := HK.out.cell 2; have k3 := HK.out.cell 3; simp only [List.getElem?_toArray, List.getElem?_cons_zero, List.getElem?_cons_succ] at k0 k1 k2 k3)
        | (go_at_call 117; (with_reducible refine Calls.mono (T2.out _) ?_); rintro e w2 ⟨rfl, hw⟩; subst hw; clear T2)
        | (go_at_call 116; (with_reducible refine Calls.mono (T3.out _) ?_); rintro e w3 ⟨rfl, hw⟩; subst hw; clear T3))
      go_ret
      exact ⟨by rw [E.out]; rfl, HB.out⟩
set_option maxHeartbeats 3200000 in
theorem isauthn_any (a : An) (w : World) (hs : pSm a.c) : Calls Tryz.prog 57 #[.agg #[.string ⟨a.c.1.toArray⟩, .string ⟨a.c.2.toArray⟩, .int .i64 a.t, .int .i64 a.q]] w fun e w' => e = .returned (.bool (anB a)) ∧ Below w.heap.size w w' := by
  have hb0 := (Below.refl w.heap.size w).alloc (Nat.le_refl _) (.cells #[.string ⟨a.c.1.toArray⟩, .string ⟨a.c.2.toArray⟩, .int .i64 a.t, .int .i64 a.q] 57)
  have HB := Lib.hid hb0
  have HK := Lib.hid (Blk.new w 57 #[.string ⟨a.c.1.toArray⟩, .string ⟨a.c.2.toArray⟩, .int .i64 a.t, .int .i64 a.q])
  clear hb0
  have T1 := Lib.hid (fun w1 => isprinc_any a.c w1 hs.1 hs.2)
  have T2 := Lib.hid (fun w1 => time_any a.t w1)
  have T3 := Lib.hid (fun w1 => nonce_any a.q w1)
  cases h1 : prB a.c with
  | false =>
    rw [h1] at T1
    have E := Lib.hid (show anB a = false by rw [anB, h1]; rfl)
    clear h1
    go_enter Tryz.func57, Tryz.ntmps57
    go_wp2_with (go_at_call 100; (with_reducible refine Calls.mono (T1.out _) ?_); rintro e w1 ⟨rfl, hb⟩; replace HK := Lib.hid (HK.out.below hb); replace HB := Lib.hid (HB.out.trans (hb.mono HB.out.size)); clear hb T1; (try clear k0 k1 k2 k3); have k0 := HK.out.cell 0; have k1 := HK.out.cell 1; have k2 := HK.out.cell 2; have k3 := HK.out.cell 3; simp only [List.getElem?_toArray, List.getElem?_cons_zero, List.getElem?_cons_succ] at k0 k1 k2 k3)
    go_ret
    exact ⟨by rw [E.out]; rfl, HB.out⟩
  | true =>
    rw [h1] at T1
    cases h2 : tmB a.t with
    | false =>
      rw [h2] at T2
      have E := Lib.hid (show anB a = false by rw [anB, h1, h2]; rfl)
      clear h1 h2
      go_enter Tryz.func57, Tryz.ntmps57
      go_wp2_with (first
        | (go_at_call 100; (with_reducible refine Calls.mono (T1.out _) ?_); rintro e w1 ⟨rfl, hb⟩; replace HK := Lib.hid (HK.out.below hb); replace HB := Lib.hid (HB.out.trans (hb.mono HB.out.size)); clear hb T1; (try clear k0 k1 k2 k3); have k0 := HK.out.cell 0; have k1 := HK.out.cell 1; have k2 := HK.out.cell 2; have k3 := HK.out.cell 3; simp only [List.getElem?_toArray, List.getElem?_cons_zero, List.getElem?_cons_succ] at k0 k1 k2 k3)
        | (go_at_call 102; (with_reducible refine Calls.mono (T2.out _) ?_); rintro e w2 ⟨rfl, hw⟩; subst hw; clear T2))
      go_ret
      exact ⟨by rw [E.out]; rfl, HB.out⟩
    | true =>
      rw [h2] at T2
      have E := Lib.hid (show anB a = tmB a.q by rw [anB, h1, h2]; rfl)
      clear h1 h2
      go_enter Tryz.func57, Tryz.ntmps57
      go_wp2_with (first
        | (go_at_call 100; (with_reducible refine Calls.mono (T1.out _) ?_); rintro e w1 ⟨rfl, hb⟩; replace HK := Lib.hid (HK.out.below hb); replace HB := Lib.hid (HB.out.trans (hb.mono HB.out.size)); clear hb T1; (try clear k0 k1 k2 k3); have k0 := HK.out.cell 0; have k1 := HK.out.cell 1; have k2 := HK.out.cell 2; have k3 := HK.out.cell 3; simp only [List.getElem?_toArray, List.getElem?_cons_zero, List.getElem?_cons_succ] at k0 k1 k2 k3)
        | (go_at_call 102; (with_reducible refine Calls.mono (T2.out _) ?_); rintro e w2 ⟨rfl, hw⟩; subst hw; clear T2)
        | (go_at_call 108; (with_reducible refine Calls.mono (T3.out _) ?_); rintro e w3 ⟨rfl, hw⟩; subst hw; clear T3))
      go_ret
      exact ⟨by rw [E.out]; rfl, HB.out⟩
set_option maxHeartbeats 3200000 in
theorem isas_any (q : As) (w : World) (hs : pSm q.c) (hs2 : pSm q.s) : Calls Tryz.prog 71 #[.agg #[.string ⟨q.c.1.toArray⟩, .string ⟨q.c.2.toArray⟩, .string ⟨q.s.1.toArray⟩, .string ⟨q.s.2.toArray⟩, .int .i64 q.t, .int .i64 q.no]] w fun e w' => e = .returned (.bool (asB q)) ∧ Below w.heap.size w w' := by
  have hb0 := (Below.refl w.heap.size w).alloc (Nat.le_refl _) (.cells #[.string ⟨q.c.1.toArray⟩, .string ⟨q.c.2.toArray⟩, .string ⟨q.s.1.toArray⟩, .string ⟨q.s.2.toArray⟩, .int .i64 q.t, .int .i64 q.no] 25)
  have HB := Lib.hid hb0
  have HK := Lib.hid (Blk.new w 25 #[.string ⟨q.c.1.toArray⟩, .string ⟨q.c.2.toArray⟩, .string ⟨q.s.1.toArray⟩, .string ⟨q.s.2.toArray⟩, .int .i64 q.t, .int .i64 q.no])
  clear hb0
  have T1 := Lib.hid (fun w1 => isprinc_any q.c w1 hs.1 hs.2)
  have T2 := Lib.hid (fun w1 => isprinc_any q.s w1 hs2.1 hs2.2)
  have T3 := Lib.hid (fun w1 => time_any q.t w1)
  have T4 := Lib.hid (fun w1 => nonce_any q.no w1)
  cases h1 : prB q.c with
  | false =>
    rw [h1] at T1
    have E := Lib.hid (show asB q = false by rw [asB, h1]; rfl)
    clear h1
    go_enter Tryz.func71, Tryz.ntmps71
    go_wp2_with (go_at_call 100; (with_reducible refine Calls.mono (T1.out _) ?_); rintro e w1 ⟨rfl, hb⟩; replace HK := Lib.hid (HK.out.below hb); replace HB := Lib.hid (HB.out.trans (hb.mono HB.out.size)); clear hb T1; (try clear k0 k1 k2 k3 k4 k5); have k0 := HK.out.cell 0; have k1 := HK.out.cell 1; have k2 := HK.out.cell 2; have k3 := HK.out.cell 3; have k4 := HK.out.cell 4; have k5 := HK.out.cell 5; simp only [List.getElem?_toArray, List.getElem?_cons_zero, List.getElem?_cons_succ] at k0 k1 k2 k3 k4 k5)
    go_ret
    exact ⟨by rw [E.out]; rfl, HB.out⟩
  | true =>
    rw [h1] at T1
    cases h2 : prB q.s with
    | false =>
      rw [h2] at T2
      have E := Lib.hid (show asB q = false by rw [asB, h1, h2]; rfl)
      clear h1 h2
      go_enter Tryz.func71, Tryz.ntmps71
      go_wp2_with (first
        | (go_at_call 100; (with_reducible refine Calls.mono (T1.out _) ?_); rintro e w1 ⟨rfl, hb⟩; replace HK := Lib.hid (HK.out.below hb); replace HB := Lib.hid (HB.out.trans (hb.mono HB.out.size)); clear hb T1; (try clear k0 k1 k2 k3 k4 k5); have k0 := HK.out.cell 0; have k1 := HK.out.cell 1; have k2 := HK.out.cell 2; have k3 := HK.out.cell 3; have k4 := HK.out.cell 4; have k5 := HK.out.cell 5; simp only [List.getElem?_toArray, List.getElem?_cons_zero, List.getElem?_cons_succ] at k0 k1 k2 k3 k4 k5)
        | (go_at_call 100; (with_reducible refine Calls.mono (T2.out _) ?_); rintro e w2 ⟨rfl, hb⟩; replace HK := Lib.hid (HK.out.below hb); replace HB := Lib.hid (HB.out.trans (hb.mono HB.out.size)); clear hb T2; (try clear k0 k1 k2 k3 k4 k5); have k0 := HK.out.cell 0; have k1 := HK.out.cell 1; have k2 := HK.out.cell 2; have k3 := HK.out.cell 3; have k4 := HK.out.cell 4; have k5 := HK.out.cell 5; simp only [List.getElem?_toArray, List.getElem?_cons_zero, List.getElem?_cons_succ] at k0 k1 k2 k3 k4 k5))
      go_ret
      exact ⟨by rw [E.out]; rfl, HB.out⟩
    | true =>
      rw [h2] at T2
      cases h3 : tmB q.t with
      | false =>
        rw [h3] at T3
        have E := Lib.hid (show asB q = false by rw [asB, h1, h2, h3]; rfl)
        clear h1 h2 h3
        go_enter Tryz.func71, Tryz.ntmps71
        go_wp2_with (first
          | (go_at_call 100; (with_reducible refine Calls.mono (T1.out _) ?_); rintro e w1 ⟨rfl, hb⟩; replace HK := Lib.hid (HK.out.below hb); replace HB := Lib.hid (HB.out.trans (hb.mono HB.out.size)); clear hb T1; (try clear k0 k1 k2 k3 k4 k5); have k0 := HK.out.cell 0; have k1 := HK.out.cell 1; have k2 := HK.out.cell 2; have k3 := HK.out.cell 3; have k4 := HK.out.cell 4; have k5 := HK.out.cell 5; simp only [List.getElem?_toArray, List.getElem?_cons_zero, List.getElem?_cons_succ] at k0 k1 k2 k3 k4 k5)
          | (go_at_call 100; (with_reducible refine Calls.mono (T2.out _) ?_); rintro e w2 ⟨rfl, hb⟩; replace HK := Lib.hid (HK.out.below hb); replace HB := Lib.hid (HB.out.trans (hb.mono HB.out.size)); clear hb T2; (try clear k0 k1 k2 k3 k4 k5); have k0 := HK.out.cell 0; have k1 := HK.out.cell 1; have k2 := HK.out.cell 2; have k3 := HK.out.cell 3; have k4 := HK.out.cell 4; have k5 := HK.out.cell 5; simp only [List.getElem?_toArray, List.getElem?_cons_zero, List.getElem?_cons_succ] at k0 k1 k2 k3 k4 k5)
          | (go_at_call 102; (with_reducible refine Calls.mono (T3.out _) ?_); rintro e w3 ⟨rfl, hw⟩; subst hw; clear T3))
        go_ret
        exact ⟨by rw [E.out]; rfl, HB.out⟩
      | true =>
        rw [h3] at T3
        have E := Lib.hid (show asB q = tmB q.no by rw [asB, h1, h2, h3]; rfl)
        clear h1 h2 h3
        go_enter Tryz.func71, Tryz.ntmps71
        go_wp2_with (first
          | (go_at_call 100; (with_reducible refine Calls.mono (T1.out _) ?_); rintro e w1 ⟨rfl, hb⟩; replace HK := Lib.hid (HK.out.below hb); replace HB := Lib.hid (HB.out.trans (hb.mono HB.out.size)); clear hb T1; (try clear k0 k1 k2 k3 k4 k5); have k0 := HK.out.cell 0; have k1 := HK.out.cell 1; have k2 := HK.out.cell 2; have k3 := HK.out.cell 3; have k4 := HK.out.cell 4; have k5 := HK.out.cell 5; simp only [List.getElem?_toArray, List.getElem?_cons_zero, List.getElem?_cons_succ] at k0 k1 k2 k3 k4 k5)
          | (go_at_call 100; (with_reducible refine Calls.mono (T2.out _) ?_); rintro e w2 ⟨rfl, hb⟩; replace HK := Lib.hid (HK.out.below hb); replace HB := Lib.hid (HB.out.trans (hb.mono HB.out.size)); clear hb T2; (try clear k0 k1 k2 k3 k4 k5); have k0 := HK.out.cell 0; have k1 := HK.out.cell 1; have k2 := HK.out.cell 2; have k3 := HK.out.cell 3; have k4 := HK.out.cell 4; have k5 := HK.out.cell 5; simp only [List.getElem?_toArray, List.getElem?_cons_zero, List.getElem?_cons_succ] at k0 k1 k2 k3 k4 k5)
          | (go_at_call 102; (with_reducible refine Calls.mono (T3.out _) ?_); rintro e w3 ⟨rfl, hw⟩; subst hw; clear T3)
          | (go_at_call 108; (with_reducible refine Calls.mono (T4.out _) ?_); rintro e w4 ⟨rfl, hw⟩; subst hw; clear T4))
        go_ret
        exact ⟨by rw [E.out]; rfl, HB.out⟩
set_option maxHeartbeats 3200000 in
theorem istgs_any (q : Tg) (A1 A2 : Option Addr) (c1 c2 : Nat) (w : World) (hs : pSm q.t.s) (hs2 : pSm q.s) : Calls Tryz.prog 72 #[.agg #[.string ⟨q.t.s.1.toArray⟩, .string ⟨q.t.s.2.toArray⟩, .int .i64 q.t.k, .slice A1 q.t.b.length c1, .slice A2 q.a.length c2, .string ⟨q.s.1.toArray⟩, .string ⟨q.s.2.toArray⟩, .int .i64 q.u, .int .i64 q.no]] w fun e w' => e = .returned (.bool (tgB q)) ∧ Below w.heap.size w w' := by
  have hb0 := (Below.refl w.heap.size w).alloc (Nat.le_refl _) (.cells #[.string ⟨q.t.s.1.toArray⟩, .string ⟨q.t.s.2.toArray⟩, .int .i64 q.t.k, .slice A1 q.t.b.length c1, .slice A2 q.a.length c2, .string ⟨q.s.1.toArray⟩, .string ⟨q.s.2.toArray⟩, .int .i64 q.u, .int .i64 q.no] 30)
  have HB := Lib.hid hb0
  have HK := Lib.hid (Blk.new w 30 #[.string ⟨q.t.s.1.toArray⟩, .string ⟨q.t.s.2.toArray⟩, .int .i64 q.t.k, .slice A1 q.t.b.length c1, .slice A2 q.a.length c2, .string ⟨q.s.1.toArray⟩, .string ⟨q.s.2.toArray⟩, .int .i64 q.u, .int .i64 q.no])
  clear hb0
  have T1 := Lib.hid (fun w1 => isticket_any q.t A1 c1 w1 hs)
  have T2 := Lib.hid (fun w1 => isblob_any q.a A2 c2 w1)
  have T3 := Lib.hid (fun w1 => isprinc_any q.s w1 hs2.1 hs2.2)
  have T4 := Lib.hid (fun w1 => time_any q.u w1)
  have T5 := Lib.hid (fun w1 => nonce_any q.no w1)
  cases h1 : tkB q.t with
  | false =>
    rw [h1] at T1
    have E := Lib.hid (show tgB q = false by rw [tgB, h1]; rfl)
    clear h1
    go_enter Tryz.func72, Tryz.ntmps72
    go_wp2_with (go_at_call 115; (with_reducible refine Calls.mono (T1.out _) ?_); rintro e w1 ⟨rfl, hb⟩; replace HK := Lib.hid (HK.out.below hb); replace HB := Lib.hid (HB.out.trans (hb.mono HB.out.size)); clear hb T1; (try clear k0 k1 k2 k3 k4 k5 k6 k7 k8); have k0 := HK.out.cell 0; have k1 := HK.out.cell 1; have k2 := HK.out.cell 2; have k3 := HK.out.cell 3; have k4 := HK.out.cell 4; have k5 := HK.out.cell 5; have k6 := HK.out.cell 6; have k7 := HK.out.cell 7; have k8 := HK.out.cell 8; simp only [List.getElem?_toArray, List.getElem?_cons_zero, List.getElem?_cons_succ] at k0 k1 k2 k3 k4 k5 k6 k7 k8)
    go_ret
    exact ⟨by rw [E.out]; rfl, HB.out⟩
  | true =>
    rw [h1] at T1
    cases h2 : blobB q.a with
    | false =>
      rw [h2] at T2
      have E := Lib.hid (show tgB q = false by rw [tgB, h1, h2]; rfl)
      clear h1 h2
      go_enter Tryz.func72, Tryz.ntmps72
      go_wp2_with (first
        | (go_at_call 115; (with_reducible refine Calls.mono (T1.out _) ?_); rintro e w1 ⟨rfl, hb⟩; replace HK := Lib.hid (HK.out.below hb); replace HB := Lib.hid (HB.out.trans (hb.mono HB.out.size)); clear hb T1; (try clear k0 k1 k2 k3 k4 k5 k6 k7 k8); have k0 := HK.out.cell 0; have k1 := HK.out.cell 1; have k2 := HK.out.cell 2; have k3 := HK.out.cell 3; have k4 := HK.out.cell 4; have k5 := HK.out.cell 5; have k6 := HK.out.cell 6; have k7 := HK.out.cell 7; have k8 := HK.out.cell 8; simp only [List.getElem?_toArray, List.getElem?_cons_zero, List.getElem?_cons_succ] at k0 k1 k2 k3 k4 k5 k6 k7 k8)
        | (go_at_call 116; (with_reducible refine Calls.mono (T2.out _) ?_); rintro e w2 ⟨rfl, hw⟩; subst hw; clear T2))
      go_ret
      exact ⟨by rw [E.out]; rfl, HB.out⟩
    | true =>
      rw [h2] at T2
      cases h3 : prB q.s with
      | false =>
        rw [h3] at T3
        have E := Lib.hid (show tgB q = false by rw [tgB, h1, h2, h3]; rfl)
        clear h1 h2 h3
        go_enter Tryz.func72, Tryz.ntmps72
        go_wp2_with (first
          | (go_at_call 115; (with_reducible refine Calls.mono (T1.out _) ?_); rintro e w1 ⟨rfl, hb⟩; replace HK := Lib.hid (HK.out.below hb); replace HB := Lib.hid (HB.out.trans (hb.mono HB.out.size)); clear hb T1; (try clear k0 k1 k2 k3 k4 k5 k6 k7 k8); have k0 := HK.out.cell 0; have k1 := HK.out.cell 1; have k2 := HK.out.cell 2; have k3 := HK.out.cell 3; have k4 := HK.out.cell 4; have k5 := HK.out.cell 5; have k6 := HK.out.cell 6; have k7 := HK.out.cell 7; have k8 := HK.out.cell 8; simp only [List.getElem?_toArray, List.getElem?_cons_zero, List.getElem?_cons_succ] at k0 k1 k2 k3 k4 k5 k6 k7 k8)
          | (go_at_call 116; (with_reducible refine Calls.mono (T2.out _) ?_); rintro e w2 ⟨rfl, hw⟩; subst hw; clear T2)
          | (go_at_call 100; (with_reducible refine Calls.mono (T3.out _) ?_); rintro e w3 ⟨rfl, hb⟩; replace HK := Lib.hid (HK.out.below hb); replace HB := Lib.hid (HB.out.trans (hb.mono HB.out.size)); clear hb T3; (try clear k0 k1 k2 k3 k4 k5 k6 k7 k8); have k0 := HK.out.cell 0; have k1 := HK.out.cell 1; have k2 := HK.out.cell 2; have k3 := HK.out.cell 3; have k4 := HK.out.cell 4; have k5 := HK.out.cell 5; have k6 := HK.out.cell 6; have k7 := HK.out.cell 7; have k8 := HK.out.cell 8; simp only [List.getElem?_toArray, List.getElem?_cons_zero, List.getElem?_cons_succ] at k0 k1 k2 k3 k4 k5 k6 k7 k8))
        go_ret
        exact ⟨by rw [E.out]; rfl, HB.out⟩
      | true =>
        rw [h3] at T3
        cases h4 : tmB q.u with
        | false =>
          rw [h4] at T4
          have E := Lib.hid (show tgB q = false by rw [tgB, h1, h2, h3, h4]; rfl)
          clear h1 h2 h3 h4
          go_enter Tryz.func72, Tryz.ntmps72
          go_wp2_with (first
            | (go_at_call 115; (with_reducible refine Calls.mono (T1.out _) ?_); rintro e w1 ⟨rfl, hb⟩; replace HK := Lib.hid (HK.out.below hb); replace HB := Lib.hid (HB.out.trans (hb.mono HB.out.size)); clear hb T1; (try clear k0 k1 k2 k3 k4 k5 k6 k7 k8); have k0 := HK.out.cell 0; have k1 := HK.out.cell 1; have k2 := HK.out.cell 2; have k3 := HK.out.cell 3; have k4 := HK.out.cell 4; have k5 := HK.out.cell 5; have k6 := HK.out.cell 6; have k7 := HK.out.cell 7; have k8 := HK.out.cell 8; simp only [List.getElem?_toArray, List.getElem?_cons_zero, List.getElem?_cons_succ] at k0 k1 k2 k3 k4 k5 k6 k7 k8)
            | (go_at_call 116; (with_reducible refine Calls.mono (T2.out _) ?_); rintro e w2 ⟨rfl, hw⟩; subst hw; clear T2)
            | (go_at_call 100; (with_reducible refine Calls.mono (T3.out _) ?_); rintro e w3 ⟨rfl, hb⟩; replace HK := Lib.hid (HK.out.below hb); replace HB := Lib.hid (HB.out.trans (hb.mono HB.out.size)); clear hb T3; (try clear k0 k1 k2 k3 k4 k5 k6 k7 k8); have k0 := HK.out.cell 0; have k1 := HK.out.cell 1; have k2 := HK.out.cell 2; have k3 := HK.out.cell 3; have k4 := HK.out.cell 4; have k5 := HK.out.cell 5; have k6 := HK.out.cell 6; have k7 := HK.out.cell 7; have k8 := HK.out.cell 8; simp only [List.getElem?_toArray, List.getElem?_cons_zero, List.getElem?_cons_succ] at k0 k1 k2 k3 k4 k5 k6 k7 k8)
            | (go_at_call 102; (with_reducible refine Calls.mono (T4.out _) ?_); rintro e w4 ⟨rfl, hw⟩; subst hw; clear T4))
          go_ret
          exact ⟨by rw [E.out]; rfl, HB.out⟩
        | true =>
          rw [h4] at T4
          have E := Lib.hid (show tgB q = tmB q.no by rw [tgB, h1, h2, h3, h4]; rfl)
          clear h1 h2 h3 h4
          go_enter Tryz.func72, Tryz.ntmps72
          go_wp2_with (first
            | (go_at_call 115; (with_reducible refine Calls.mono (T1.out _) ?_); rintro e w1 ⟨rfl, hb⟩; replace HK := Lib.hid (HK.out.below hb); replace HB := Lib.hid (HB.out.trans (hb.mono HB.out.size)); clear hb T1; (try clear k0 k1 k2 k3 k4 k5 k6 k7 k8); have k0 := HK.out.cell 0; have k1 := HK.out.cell 1; have k2 := HK.out.cell 2; have k3 := HK.out.cell 3; have k4 := HK.out.cell 4; have k5 := HK.out.cell 5; have k6 := HK.out.cell 6; have k7 := HK.out.cell 7; have k8 := HK.out.cell 8; simp only [List.getElem?_toArray, List.getElem?_cons_zero, List.getElem?_cons_succ] at k0 k1 k2 k3 k4 k5 k6 k7 k8)
            | (go_at_call 116; (with_reducible refine Calls.mono (T2.out _) ?_); rintro e w2 ⟨rfl, hw⟩; subst hw; clear T2)
            | (go_at_call 100; (with_reducible refine Calls.mono (T3.out _) ?_); rintro e w3 ⟨rfl, hb⟩; replace HK := Lib.hid (HK.out.below hb); replace HB := Lib.hid (HB.out.trans (hb.mono HB.out.size)); clear hb T3; (try clear k0 k1 k2 k3 k4 k5 k6 k7 k8); have k0 := HK.out.cell 0; have k1 := HK.out.cell 1; have k2 := HK.out.cell 2; have k3 := HK.out.cell 3; have k4 := HK.out.cell 4; have k5 := HK.out.cell 5; have k6 := HK.out.cell 6; have k7 := HK.out.cell 7; have k8 := HK.out.cell 8; simp only [List.getElem?_toArray, List.getElem?_cons_zero, List.getElem?_cons_succ] at k0 k1 k2 k3 k4 k5 k6 k7 k8)
            | (go_at_call 102; (with_reducible refine Calls.mono (T4.out _) ?_); rintro e w4 ⟨rfl, hw⟩; subst hw; clear T4)
            | (go_at_call 108; (with_reducible refine Calls.mono (T5.out _) ?_); rintro e w5 ⟨rfl, hw⟩; subst hw; clear T5))
          go_ret
          exact ⟨by rw [E.out]; rfl, HB.out⟩
set_option maxHeartbeats 3200000 in
theorem isre_any (q : Re) (A1 A2 : Option Addr) (c1 c2 : Nat) (w : World) (hs : pSm q.t.s) (hs2 : pSm q.c) : Calls Tryz.prog 73 #[.agg #[.string ⟨q.c.1.toArray⟩, .string ⟨q.c.2.toArray⟩, .string ⟨q.t.s.1.toArray⟩, .string ⟨q.t.s.2.toArray⟩, .int .i64 q.t.k, .slice A1 q.t.b.length c1, .slice A2 q.b.length c2]] w fun e w' => e = .returned (.bool (reB q)) ∧ Below w.heap.size w w' := by
  have hb0 := (Below.refl w.heap.size w).alloc (Nat.le_refl _) (.cells #[.string ⟨q.c.1.toArray⟩, .string ⟨q.c.2.toArray⟩, .string ⟨q.t.s.1.toArray⟩, .string ⟨q.t.s.2.toArray⟩, .int .i64 q.t.k, .slice A1 q.t.b.length c1, .slice A2 q.b.length c2] 32)
  have HB := Lib.hid hb0
  have HK := Lib.hid (Blk.new w 32 #[.string ⟨q.c.1.toArray⟩, .string ⟨q.c.2.toArray⟩, .string ⟨q.t.s.1.toArray⟩, .string ⟨q.t.s.2.toArray⟩, .int .i64 q.t.k, .slice A1 q.t.b.length c1, .slice A2 q.b.length c2])
  clear hb0
  have T1 := Lib.hid (fun w1 => isprinc_any q.c w1 hs2.1 hs2.2)
  have T2 := Lib.hid (fun w1 => isticket_any q.t A1 c1 w1 hs)
  have T3 := Lib.hid (fun w1 => isblob_any q.b A2 c2 w1)
  cases h1 : prB q.c with
  | false =>
    rw [h1] at T1
    have E := Lib.hid (show reB q = false by rw [reB, h1]; rfl)
    clear h1
    go_enter Tryz.func73, Tryz.ntmps73
    go_wp2_with (go_at_call 100; (with_reducible refine Calls.mono (T1.out _) ?_); rintro e w1 ⟨rfl, hb⟩; replace HK := Lib.hid (HK.out.below hb); replace HB := Lib.hid (HB.out.trans (hb.mono HB.out.size)); clear hb T1; (try clear k0 k1 k2 k3 k4 k5 k6); have k0 := HK.out.cell 0; have k1 := HK.out.cell 1; have k2 := HK.out.cell 2; have k3 := HK.out.cell 3; have k4 := HK.out.cell 4; have k5 := HK.out.cell 5; have k6 := HK.out.cell 6; simp only [List.getElem?_toArray, List.getElem?_cons_zero, List.getElem?_cons_succ] at k0 k1 k2 k3 k4 k5 k6)
    go_ret
    exact ⟨by rw [E.out]; rfl, HB.out⟩
  | true =>
    rw [h1] at T1
    cases h2 : tkB q.t with
    | false =>
      rw [h2] at T2
      have E := Lib.hid (show reB q = false by rw [reB, h1, h2]; rfl)
      clear h1 h2
      go_enter Tryz.func73, Tryz.ntmps73
      go_wp2_with (first
        | (go_at_call 100; (with_reducible refine Calls.mono (T1.out _) ?_); rintro e w1 ⟨rfl, hb⟩; replace HK := Lib.hid (HK.out.below hb); replace HB := Lib.hid (HB.out.trans (hb.mono HB.out.size)); clear hb T1; (try clear k0 k1 k2 k3 k4 k5 k6); have k0 := HK.out.cell 0; have k1 := HK.out.cell 1; have k2 := HK.out.cell 2; have k3 := HK.out.cell 3; have k4 := HK.out.cell 4; have k5 := HK.out.cell 5; have k6 := HK.out.cell 6; simp only [List.getElem?_toArray, List.getElem?_cons_zero, List.getElem?_cons_succ] at k0 k1 k2 k3 k4 k5 k6)
        | (go_at_call 115; (with_reducible refine Calls.mono (T2.out _) ?_); rintro e w2 ⟨rfl, hb⟩; replace HK := Lib.hid (HK.out.below hb); replace HB := Lib.hid (HB.out.trans (hb.mono HB.out.size)); clear hb T2; (try clear k0 k1 k2 k3 k4 k5 k6); have k0 := HK.out.cell 0; have k1 := HK.out.cell 1; have k2 := HK.out.cell 2; have k3 := HK.out.cell 3; have k4 := HK.out.cell 4; have k5 := HK.out.cell 5; have k6 := HK.out.cell 6; simp only [List.getElem?_toArray, List.getElem?_cons_zero, List.getElem?_cons_succ] at k0 k1 k2 k3 k4 k5 k6))
      go_ret
      exact ⟨by rw [E.out]; rfl, HB.out⟩
    | true =>
      rw [h2] at T2
      have E := Lib.hid (show reB q = blobB q.b by rw [reB, h1, h2]; rfl)
      clear h1 h2
      go_enter Tryz.func73, Tryz.ntmps73
      go_wp2_with (first
        | (go_at_call 100; (with_reducible refine Calls.mono (T1.out _) ?_); rintro e w1 ⟨rfl, hb⟩; replace HK := Lib.hid (HK.out.below hb); replace HB := Lib.hid (HB.out.trans (hb.mono HB.out.size)); clear hb T1; (try clear k0 k1 k2 k3 k4 k5 k6); have k0 := HK.out.cell 0; have k1 := HK.out.cell 1; have k2 := HK.out.cell 2; have k3 := HK.out.cell 3; have k4 := HK.out.cell 4; have k5 := HK.out.cell 5; have k6 := HK.out.cell 6; simp only [List.getElem?_toArray, List.getElem?_cons_zero, List.getElem?_cons_succ] at k0 k1 k2 k3 k4 k5 k6)
        | (go_at_call 115; (with_reducible refine Calls.mono (T2.out _) ?_); rintro e w2 ⟨rfl, hb⟩; replace HK := Lib.hid (HK.out.below hb); replace HB := Lib.hid (HB.out.trans (hb.mono HB.out.size)); clear hb T2; (try clear k0 k1 k2 k3 k4 k5 k6); have k0 := HK.out.cell 0; have k1 := HK.out.cell 1; have k2 := HK.out.cell 2; have k3 := HK.out.cell 3; have k4 := HK.out.cell 4; have k5 := HK.out.cell 5; have k6 := HK.out.cell 6; simp only [List.getElem?_toArray, List.getElem?_cons_zero, List.getElem?_cons_succ] at k0 k1 k2 k3 k4 k5 k6)
        | (go_at_call 116; (with_reducible refine Calls.mono (T3.out _) ?_); rintro e w3 ⟨rfl, hw⟩; subst hw; clear T3))
      go_ret
      exact ⟨by rw [E.out]; rfl, HB.out⟩
set_option maxHeartbeats 3200000 in
theorem isap_any (q : Ap) (A1 A2 : Option Addr) (c1 c2 : Nat) (w : World) (hs : pSm q.t.s) : Calls Tryz.prog 74 #[.agg #[.string ⟨q.t.s.1.toArray⟩, .string ⟨q.t.s.2.toArray⟩, .int .i64 q.t.k, .slice A1 q.t.b.length c1, .slice A2 q.a.length c2]] w fun e w' => e = .returned (.bool (apB q)) ∧ Below w.heap.size w w' := by
  have hb0 := (Below.refl w.heap.size w).alloc (Nat.le_refl _) (.cells #[.string ⟨q.t.s.1.toArray⟩, .string ⟨q.t.s.2.toArray⟩, .int .i64 q.t.k, .slice A1 q.t.b.length c1, .slice A2 q.a.length c2] 34)
  have HB := Lib.hid hb0
  have HK := Lib.hid (Blk.new w 34 #[.string ⟨q.t.s.1.toArray⟩, .string ⟨q.t.s.2.toArray⟩, .int .i64 q.t.k, .slice A1 q.t.b.length c1, .slice A2 q.a.length c2])
  clear hb0
  have T1 := Lib.hid (fun w1 => isticket_any q.t A1 c1 w1 hs)
  have T2 := Lib.hid (fun w1 => isblob_any q.a A2 c2 w1)
  cases h1 : tkB q.t with
  | false =>
    rw [h1] at T1
    have E := Lib.hid (show apB q = false by rw [apB, h1]; rfl)
    clear h1
    go_enter Tryz.func74, Tryz.ntmps74
    go_wp2_with (go_at_call 115; (with_reducible refine Calls.mono (T1.out _) ?_); rintro e w1 ⟨rfl, hb⟩; replace HK := Lib.hid (HK.out.below hb); replace HB := Lib.hid (HB.out.trans (hb.mono HB.out.size)); clear hb T1; (try clear k0 k1 k2 k3 k4); have k0 := HK.out.cell 0; have k1 := HK.out.cell 1; have k2 := HK.out.cell 2; have k3 := HK.out.cell 3; have k4 := HK.out.cell 4; simp only [List.getElem?_toArray, List.getElem?_cons_zero, List.getElem?_cons_succ] at k0 k1 k2 k3 k4)
    go_ret
    exact ⟨by rw [E.out]; rfl, HB.out⟩
  | true =>
    rw [h1] at T1
    have E := Lib.hid (show apB q = blobB q.a by rw [apB, h1]; rfl)
    clear h1
    go_enter Tryz.func74, Tryz.ntmps74
    go_wp2_with (first
      | (go_at_call 115; (with_reducible refine Calls.mono (T1.out _) ?_); rintro e w1 ⟨rfl, hb⟩; replace HK := Lib.hid (HK.out.below hb); replace HB := Lib.hid (HB.out.trans (hb.mono HB.out.size)); clear hb T1; (try clear k0 k1 k2 k3 k4); have k0 := HK.out.cell 0; have k1 := HK.out.cell 1; have k2 := HK.out.cell 2; have k3 := HK.out.cell 3; have k4 := HK.out.cell 4; simp only [List.getElem?_toArray, List.getElem?_cons_zero, List.getElem?_cons_succ] at k0 k1 k2 k3 k4)
      | (go_at_call 116; (with_reducible refine Calls.mono (T2.out _) ?_); rintro e w2 ⟨rfl, hw⟩; subst hw; clear T2))
    go_ret
    exact ⟨by rw [E.out]; rfl, HB.out⟩
set_option maxHeartbeats 3200000 in
theorem isfa_any (q : Fa) (w : World) : Calls Tryz.prog 75 #[.agg #[.int .i64 q.e, .int .i64 q.no]] w fun e w' => e = .returned (.bool (faB q)) ∧ Below w.heap.size w w' := by
  have hb0 := (Below.refl w.heap.size w).alloc (Nat.le_refl _) (.cells #[.int .i64 q.e, .int .i64 q.no] 37)
  have HB := Lib.hid hb0
  have HK := Lib.hid (Blk.new w 37 #[.int .i64 q.e, .int .i64 q.no])
  clear hb0
  have T1 := Lib.hid (fun w1 => within_any q.e 1 255 w1)
  have T2 := Lib.hid (fun w1 => nonce_any q.no w1)
  cases h1 : inB q.e 1 255 with
  | false =>
    rw [h1] at T1
    have E := Lib.hid (show faB q = false by rw [faB, h1]; rfl)
    clear h1
    go_enter Tryz.func75, Tryz.ntmps75
    go_wp2_with (go_at_call 117; (with_reducible refine Calls.mono (T1.out _) ?_); rintro e w1 ⟨rfl, hw⟩; subst hw; clear T1)
    go_ret
    exact ⟨by rw [E.out]; rfl, HB.out⟩
  | true =>
    rw [h1] at T1
    have E := Lib.hid (show faB q = tmB q.no by rw [faB, h1]; rfl)
    clear h1
    go_enter Tryz.func75, Tryz.ntmps75
    go_wp2_with (first
      | (go_at_call 117; (with_reducible refine Calls.mono (T1.out _) ?_); rintro e w1 ⟨rfl, hw⟩; subst hw; clear T1)
      | (go_at_call 108; (with_reducible refine Calls.mono (T2.out _) ?_); rintro e w2 ⟨rfl, hw⟩; subst hw; clear T2))
    go_ret
    exact ⟨by rw [E.out]; rfl, HB.out⟩
end Go.Proofs.YteeabfplnaknfaaGreat.Mc
end

section
set_option linter.unusedVariables false
set_option linter.unusedSimpArgs false
namespace Go.Proofs.YteeabfplnaknfaaGreat.Mc
open Go.RowKit Go.Proofs.YteeabfplnaknfaaGreat.Mem Go.Proofs.YteeabfplnaknfaaGreat.DerP Go.Proofs.YteeabfplnaknfaaGreat.Ms

def trB (l : L) : Bool := decide (l.length ≤ 300) && txtB l
def ptB' (p : Pt) : Bool := prB p.c && (trB p.tr && (tmB p.st && tmB p.en))
theorem ptB_eq (p : Pt) : ptB' p = ptB p := by
  unfold ptB' ptB trB
  cases txtB p.tr <;> cases prB p.c <;> cases decide (p.tr.length ≤ 300) <;> rfl
theorem txtf {l : L} {k : Nat} (h : k < l.length) (hb : l[k].toNat < 32 ∨ 126 < l[k].toNat) : txtB l = false := txt_bad h hb
section
attribute [local go_sem] mk_at List.getElem_cons_zero List.getElem_cons_succ
set_option maxRecDepth 4000 in
set_option maxHeartbeats 1600000 in
theorem transited_any (l : L) (w : World) (ht : l.length ≤ 1000000000) : Calls Tryz.prog 101 #[.string ⟨l.toArray⟩] w fun e w' => e = .returned (.bool (trB l)) ∧ w = w' := by
  by_cases h3 : l.length ≤ 300
  · have g3 : decide ((300 : Int) < (l.length : Int)) = false := decide_eq_false (by omega)
    have E3 := Lib.hid (show trB l = txtB l by rw [trB, decide_eq_true h3]; rfl)
    rw [E3.out]
    clear h3
    go_enter Tryz.func101, Tryz.ntmps101
    go_wp2
    go_loop [9] (fun iv => ∃ k : Nat, k ≤ l.length ∧ iv = .int .i64 (k : Int) ∧ FitT l k) (fun iv => l.length - (intOf iv).toNat)
    case atStart => exact ⟨0, Nat.zero_le _, rfl, fun i _ h => by omega⟩
    case round =>
      obtain ⟨k, hk2, rfl, hf⟩ := hrel
      have HF := Lib.hid hf; clear hf
      by_cases hlt : k < l.length
      · have e1 : (k : Int) < (l.length : Int) := by omega
        by_cases b1 : l[k].toNat < 32
        · have E := Lib.hid (txtf hlt (Or.inl b1))
          have b1' : decide ((l[k].toNat : Int) < 32) = true := by simp; omega
          clear b1
          go_wp2
          go_ret
          exact ⟨by rw [E.out]; rfl, rfl⟩
        · have b1' : decide ((l[k].toNat : Int) < 32) = false := by simp; omega
          by_cases b2 : 126 < l[k].toNat
          · have E := Lib.hid (txtf hlt (Or.inr b2))
            have b2' : decide (126 < (l[k].toNat : Int)) = true := by simp; omega
            clear b1 b2
            go_wp2
            go_ret
            exact ⟨by rw [E.out]; rfl, rfl⟩
          · have b2' : decide (126 < (l[k].toNat : Int)) = false := by simp; omega
            have HP := Lib.hid (show 32 ≤ l[k].toNat ∧ l[k].toNat ≤ 126 from ⟨by omega, by omega⟩)
            clear b1 b2
            go_wp2
            go_round
            case rel => exact ⟨k + 1, by omega, by go_num, fun i hi hik => by
              by_cases q : i = k
              · subst q; exact HP.out
              · exact HF.out i hi (by omega)⟩
            case measure => simp [intOf]; omega
      · have HT := Lib.hid (txt_all (fun i hi _ => HF.out i hi (by omega)))
        have e1 : ¬ (k : Int) < (l.length : Int) := by omega
        clear HF
        go_wp2
        go_ret
        exact ⟨by rw [HT.out]; rfl, rfl⟩
  · have g3 : decide ((300 : Int) < (l.length : Int)) = true := decide_eq_true (by omega)
    have E := Lib.hid (show trB l = false by rw [trB, decide_eq_false h3]; rfl)
    clear h3
    go_enter Tryz.func101, Tryz.ntmps101
    go_wp2
    go_ret
    exact ⟨by rw [E.out]; rfl, rfl⟩
end
set_option maxHeartbeats 3200000 in
theorem isrep_any (p : Rp) (w : World) (hk : p.ss.length = 32) (hs : pSm p.s) : Calls Tryz.prog 59 #[.agg (rpC p).toArray] w fun e w' => e = .returned (.bool (rpB p)) ∧ Below w.heap.size w w' := by
  have HI := Lib.hid (show (Tryz.prog.info? 59).map (·.size) = some (rpC p).toArray.size by rw [rp_size hk]; kernel_rfl)
  have CF := Lib.hid (show ∀ w' : World, Blk w' w.heap.size 59 (rpC p).toArray → w'.cell? ⟨w.heap.size, 32, none⟩ = some (.string ⟨p.s.1.toArray⟩) ∧ w'.cell? ⟨w.heap.size, 33, none⟩ = some (.string ⟨p.s.2.toArray⟩) ∧ w'.cell? ⟨w.heap.size, 34, none⟩ = some (.int .i64 p.st) ∧ w'.cell? ⟨w.heap.size, 35, none⟩ = some (.int .i64 p.en) ∧ w'.cell? ⟨w.heap.size, 36, none⟩ = some (.int .i64 p.no) from fun w' h => rp_cells hk h)
  obtain ⟨cs, ecs⟩ : ∃ cs, cs = (rpC p).toArray := ⟨_, rfl⟩
  rw [← ecs] at HI CF ⊢
  clear ecs
  have HB := Lib.hid ((Below.refl w.heap.size w).alloc (Nat.le_refl _) (.cells cs 59))
  have HK := Lib.hid (Blk.new w 59 cs)
  have T1 := Lib.hid (fun w1 => isprinc_any p.s w1 hs.1 hs.2)
  have T2 := Lib.hid (fun w1 => time_any p.st w1)
  have T3 := Lib.hid (fun w1 => time_any p.en w1)
  have T4 := Lib.hid (fun w1 => nonce_any p.no w1)
  obtain ⟨k0, k1, k2, k3, k4⟩ := CF.out _ HK.out
  cases h1 : prB p.s with
  | false =>
    rw [h1] at T1
    have E := Lib.hid (show rpB p = false by rw [rpB, h1]; rfl)
    clear h1
    go_enter Tryz.func59, Tryz.ntmps59
    go_wp2_with (go_at_call 100; (with_reducible refine Calls.mono (T1.out _) ?_); rintro e w1 ⟨rfl, hb⟩; replace HK := Lib.hid (HK.out.below hb); replace HB := Lib.hid (HB.out.trans (hb.mono HB.out.size)); clear hb T1; (try clear k0 k1 k2 k3 k4); obtain ⟨k0, k1, k2, k3, k4⟩ := CF.out _ HK.out)
    go_ret
    exact ⟨by rw [E.out]; rfl, HB.out⟩
  | true =>
    rw [h1] at T1
    cases h2 : tmB p.st with
    | false =>
      rw [h2] at T2
      have E := Lib.hid (show rpB p = false by rw [rpB, h1, h2]; rfl)
      clear h1 h2
      go_enter Tryz.func59, Tryz.ntmps59
      go_wp2_with (first
        | (go_at_call 100; (with_reducible refine Calls.mono (T1.out _) ?_); rintro e w1 ⟨rfl, hb⟩; replace HK := Lib.hid (HK.out.below hb); replace HB := Lib.hid (HB.out.trans (hb.mono HB.out.size)); clear hb T1; (try clear k0 k1 k2 k3 k4); obtain ⟨k0, k1, k2, k3, k4⟩ := CF.out _ HK.out)
        | (go_at_call 102; (with_reducible refine Calls.mono (T2.out _) ?_); rintro e w2 ⟨rfl, hw⟩; subst hw; clear T2))
      go_ret
      exact ⟨by rw [E.out]; rfl, HB.out⟩
    | true =>
      rw [h2] at T2
      cases h3 : tmB p.en with
      | false =>
        rw [h3] at T3
        have E := Lib.hid (show rpB p = false by rw [rpB, h1, h2, h3]; rfl)
        clear h1 h2 h3
        go_enter Tryz.func59, Tryz.ntmps59
        go_wp2_with (first
          | (go_at_call 100; (with_reducible refine Calls.mono (T1.out _) ?_); rintro e w1 ⟨rfl, hb⟩; replace HK := Lib.hid (HK.out.below hb); replace HB := Lib.hid (HB.out.trans (hb.mono HB.out.size)); clear hb T1; (try clear k0 k1 k2 k3 k4); obtain ⟨k0, k1, k2, k3, k4⟩ := CF.out _ HK.out)
          | (go_at_call 102; (with_reducible refine Calls.mono (T2.out _) ?_); rintro e w2 ⟨rfl, hw⟩; subst hw; clear T2)
          | (go_at_call 102; (with_reducible refine Calls.mono (T3.out _) ?_); rintro e w3 ⟨rfl, hw⟩; subst hw; clear T3))
        go_ret
        exact ⟨by rw [E.out]; rfl, HB.out⟩
      | true =>
        rw [h3] at T3
        have E := Lib.hid (show rpB p = tmB p.no by rw [rpB, h1, h2, h3]; rfl)
        clear h1 h2 h3
        go_enter Tryz.func59, Tryz.ntmps59
        go_wp2_with (first
          | (go_at_call 100; (with_reducible refine Calls.mono (T1.out _) ?_); rintro e w1 ⟨rfl, hb⟩; replace HK := Lib.hid (HK.out.below hb); replace HB := Lib.hid (HB.out.trans (hb.mono HB.out.size)); clear hb T1; (try clear k0 k1 k2 k3 k4); obtain ⟨k0, k1, k2, k3, k4⟩ := CF.out _ HK.out)
          | (go_at_call 102; (with_reducible refine Calls.mono (T2.out _) ?_); rintro e w2 ⟨rfl, hw⟩; subst hw; clear T2)
          | (go_at_call 102; (with_reducible refine Calls.mono (T3.out _) ?_); rintro e w3 ⟨rfl, hw⟩; subst hw; clear T3)
          | (go_at_call 108; (with_reducible refine Calls.mono (T4.out _) ?_); rintro e w4 ⟨rfl, hw⟩; subst hw; clear T4))
        go_ret
        exact ⟨by rw [E.out]; rfl, HB.out⟩
set_option maxHeartbeats 3200000 in
theorem ispart_any0 (p : Pt) (w : World) (hk : p.ss.length = 32) (hs : pSm p.c) (ht : p.tr.length ≤ 1000000000) : Calls Tryz.prog 54 #[.agg (ptC p).toArray] w fun e w' => e = .returned (.bool (ptB' p)) ∧ Below w.heap.size w w' := by
  have HI := Lib.hid (show (Tryz.prog.info? 55).map (·.size) = some (ptC p).toArray.size by rw [pt_size hk]; kernel_rfl)
  have CF := Lib.hid (show ∀ w' : World, Blk w' w.heap.size 55 (ptC p).toArray → w'.cell? ⟨w.heap.size, 0, none⟩ = some (.string ⟨p.c.1.toArray⟩) ∧ w'.cell? ⟨w.heap.size, 1, none⟩ = some (.string ⟨p.c.2.toArray⟩) ∧ w'.cell? ⟨w.heap.size, 34, none⟩ = some (.string ⟨p.tr.toArray⟩) ∧ w'.cell? ⟨w.heap.size, 35, none⟩ = some (.int .i64 p.st) ∧ w'.cell? ⟨w.heap.size, 36, none⟩ = some (.int .i64 p.en) from fun w' h => pt_cells hk h)
  obtain ⟨cs, ecs⟩ : ∃ cs, cs = (ptC p).toArray := ⟨_, rfl⟩
  rw [← ecs] at HI CF ⊢
  clear ecs
  have HB := Lib.hid ((Below.refl w.heap.size w).alloc (Nat.le_refl _) (.cells cs 55))
  have HK := Lib.hid (Blk.new w 55 cs)
  have T1 := Lib.hid (fun w1 => isprinc_any p.c w1 hs.1 hs.2)
  have T2 := Lib.hid (fun w1 => transited_any p.tr w1 ht)
  have T3 := Lib.hid (fun w1 => time_any p.st w1)
  have T4 := Lib.hid (fun w1 => time_any p.en w1)
  obtain ⟨k0, k1, k2, k3, k4⟩ := CF.out _ HK.out
  cases h1 : prB p.c with
  | false =>
    rw [h1] at T1
    have E := Lib.hid (show ptB' p = false by rw [ptB', h1]; rfl)
    clear h1
    go_enter Tryz.func54, Tryz.ntmps54
    go_wp2_with (go_at_call 100; (with_reducible refine Calls.mono (T1.out _) ?_); rintro e w1 ⟨rfl, hb⟩; replace HK := Lib.hid (HK.out.below hb); replace HB := Lib.hid (HB.out.trans (hb.mono HB.out.size)); clear hb T1; (try clear k0 k1 k2 k3 k4); obtain ⟨k0, k1, k2, k3, k4⟩ := CF.out _ HK.out)
    go_ret
    exact ⟨by rw [E.out]; rfl, HB.out⟩
  | true =>
    rw [h1] at T1
    cases h2 : trB p.tr with
    | false =>
      rw [h2] at T2
      have E := Lib.hid (show ptB' p = false by rw [ptB', h1, h2]; rfl)
      clear h1 h2
      go_enter Tryz.func54, Tryz.ntmps54
      go_wp2_with (first
        | (go_at_call 100; (with_reducible refine Calls.mono (T1.out _) ?_); rintro e w1 ⟨rfl, hb⟩; replace HK := Lib.hid (HK.out.below hb); replace HB := Lib.hid (HB.out.trans (hb.mono HB.out.size)); clear hb T1; (try clear k0 k1 k2 k3 k4); obtain ⟨k0, k1, k2, k3, k4⟩ := CF.out _ HK.out)
        | (go_at_call 101; (with_reducible refine Calls.mono (T2.out _) ?_); rintro e w2 ⟨rfl, hw⟩; subst hw; clear T2))
      go_ret
      exact ⟨by rw [E.out]; rfl, HB.out⟩
    | true =>
      rw [h2] at T2
      cases h3 : tmB p.st with
      | false =>
        rw [h3] at T3
        have E := Lib.hid (show ptB' p = false by rw [ptB', h1, h2, h3]; rfl)
        clear h1 h2 h3
        go_enter Tryz.func54, Tryz.ntmps54
        go_wp2_with (first
          | (go_at_call 100; (with_reducible refine Calls.mono (T1.out _) ?_); rintro e w1 ⟨rfl, hb⟩; replace HK := Lib.hid (HK.out.below hb); replace HB := Lib.hid (HB.out.trans (hb.mono HB.out.size)); clear hb T1; (try clear k0 k1 k2 k3 k4); obtain ⟨k0, k1, k2, k3, k4⟩ := CF.out _ HK.out)
          | (go_at_call 101; (with_reducible refine Calls.mono (T2.out _) ?_); rintro e w2 ⟨rfl, hw⟩; subst hw; clear T2)
          | (go_at_call 102; (with_reducible refine Calls.mono (T3.out _) ?_); rintro e w3 ⟨rfl, hw⟩; subst hw; clear T3))
        go_ret
        exact ⟨by rw [E.out]; rfl, HB.out⟩
      | true =>
        rw [h3] at T3
        have E := Lib.hid (show ptB' p = tmB p.en by rw [ptB', h1, h2, h3]; rfl)
        clear h1 h2 h3
        go_enter Tryz.func54, Tryz.ntmps54
        go_wp2_with (first
          | (go_at_call 100; (with_reducible refine Calls.mono (T1.out _) ?_); rintro e w1 ⟨rfl, hb⟩; replace HK := Lib.hid (HK.out.below hb); replace HB := Lib.hid (HB.out.trans (hb.mono HB.out.size)); clear hb T1; (try clear k0 k1 k2 k3 k4); obtain ⟨k0, k1, k2, k3, k4⟩ := CF.out _ HK.out)
          | (go_at_call 101; (with_reducible refine Calls.mono (T2.out _) ?_); rintro e w2 ⟨rfl, hw⟩; subst hw; clear T2)
          | (go_at_call 102; (with_reducible refine Calls.mono (T3.out _) ?_); rintro e w3 ⟨rfl, hw⟩; subst hw; clear T3)
          | (go_at_call 102; (with_reducible refine Calls.mono (T4.out _) ?_); rintro e w4 ⟨rfl, hw⟩; subst hw; clear T4))
        go_ret
        exact ⟨by rw [E.out]; rfl, HB.out⟩
theorem ispart_any (p : Pt) (w : World) (hk : p.ss.length = 32) (hs : pSm p.c) (ht : p.tr.length ≤ 1000000000) : Calls Tryz.prog 54 #[.agg (ptC p).toArray] w fun e w' => e = .returned (.bool (ptB p)) ∧ Below w.heap.size w w' := by
  rw [← ptB_eq]; exact ispart_any0 p w hk hs ht
end Go.Proofs.YteeabfplnaknfaaGreat.Mc
end
