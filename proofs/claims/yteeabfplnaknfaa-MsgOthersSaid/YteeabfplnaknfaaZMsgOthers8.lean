import Derived.Lib.MinMax
import Derived.Deep.LoopGhost
import Derived.Test.YteeabfplnaknfaaZMsgOthers1
import Derived.Test.YteeabfplnaknfaaZMsgOthers2
import Derived.Test.YteeabfplnaknfaaZMsgOthers3
import Derived.Test.YteeabfplnaknfaaZMsgOthers4
import Derived.Test.YteeabfplnaknfaaZMsgOthers5
section
set_option linter.unusedVariables false
set_option linter.unusedSimpArgs false
namespace Go.Proofs.Yteeabfplnaknfaa.Mc
open Go.RowKit Go.Proofs.Yteeabfplnaknfaa.Mem Go.Proofs.Yteeabfplnaknfaa.DerP Go.Proofs.Yteeabfplnaknfaa.Ms

theorem beq_any (a b : L) (A D : Option Addr) (c d B : Nat) (w : World) (h : Rd w B A (bvs a)) (g : Rd w B D (bvs b)) : Calls Try.prog 50 #[.slice A a.length c, .slice D b.length d] w fun e w' => e = .returned (.bool (decide (a = b))) ∧ w = w' := by
  have hcv1 := run_bytes_str (P := Try.prog) w 26 5 Try.underlying26 Try.underlying5 h a.length c rfl 9 Try.underlying9
  have hcv2 := run_bytes_str (P := Try.prog) w 26 5 Try.underlying26 Try.underlying5 g b.length d rfl 9 Try.underlying9
  clear h g
  by_cases e : a = b
  · have t1 : (a == b) = true := by simpa using e
    have E := Lib.hid (decide_eq_true e)
    clear e
    go_enter Try.func50, Try.ntmps50
    go_wp2
    go_ret
    exact ⟨by rw [E.out]; rfl, rfl⟩
  · have t1 : (a == b) = false := by simpa using e
    have E := Lib.hid (decide_eq_false e)
    clear e
    go_enter Try.func50, Try.ntmps50
    go_wp2
    go_ret
    exact ⟨by rw [E.out]; rfl, rfl⟩
set_option maxHeartbeats 3200000 in
theorem equalt_any (x y : Tk) (A1 D1 : Option Addr) (c1 d1 : Nat) (w : World) (h1 : Rd w w.heap.size A1 (bvs x.b)) (g1 : Rd w w.heap.size D1 (bvs y.b)) :
    Calls Try.prog 79 #[.agg #[.string ⟨x.s.1.toArray⟩, .string ⟨x.s.2.toArray⟩, .int .i64 x.k, .slice A1 x.b.length c1], .agg #[.string ⟨y.s.1.toArray⟩, .string ⟨y.s.2.toArray⟩, .int .i64 y.k, .slice D1 y.b.length d1]] w fun e w' => e = .returned (.bool (decide (x = y))) ∧ Below w.heap.size w w' := by
  obtain ⟨⟨r, n⟩, k, b⟩ := x
  obtain ⟨⟨r2, n2⟩, k2, b2⟩ := y
  simp only at h1 g1 ⊢
  have HB := Lib.hid (((Below.refl w.heap.size w).alloc (Nat.le_refl _) (.cells #[.string ⟨List.toArray r⟩, .string ⟨List.toArray n⟩, .int .i64 k, .slice A1 b.length c1] 28)).alloc (by simp) (.cells #[.string ⟨List.toArray r2⟩, .string ⟨List.toArray n2⟩, .int .i64 k2, .slice D1 b2.length d1] 28))
  have HX := Lib.hid ((Blk.new w 28 #[.string ⟨List.toArray r⟩, .string ⟨List.toArray n⟩, .int .i64 k, .slice A1 b.length c1]).alloc (.cells #[.string ⟨List.toArray r2⟩, .string ⟨List.toArray n2⟩, .int .i64 k2, .slice D1 b2.length d1] 28))
  have hy := Blk.new (w.alloc (.cells #[.string ⟨List.toArray r⟩, .string ⟨List.toArray n⟩, .int .i64 k, .slice A1 b.length c1] 28)) 28 #[.string ⟨List.toArray r2⟩, .string ⟨List.toArray n2⟩, .int .i64 k2, .slice D1 b2.length d1]
  rw [show (w.alloc (.cells #[.string ⟨List.toArray r⟩, .string ⟨List.toArray n⟩, .int .i64 k, .slice A1 b.length c1] 28)).heap.size = w.heap.size + 1 by simp] at hy
  have HY := Lib.hid hy
  clear hy
  have T1 := Lib.hid (fun w1 (h : Below w.heap.size w w1) => beq_any b b2 A1 D1 c1 d1 w.heap.size w1 (h1.below h) (g1.below h))
  clear h1 g1
  by_cases e0a : r = r2
  · subst e0a
    by_cases e0b : n = n2
    · subst e0b
      by_cases e1 : k = k2
      · subst e1
        have t1 : (k == k) = true := by simp
        cases e2 : decide (b = b2) with
        | false =>
          have E := Lib.hid (show decide ((⟨(r, n), k, b⟩ : Tk) = ⟨(r, n), k, b2⟩) = false from decide_eq_false (fun h => of_decide_eq_false e2 (congrArg Tk.b h)))
          rw [e2] at T1
          clear e2
          go_enter Try.func79, Try.ntmps79
          go_wp2_with (go_at_call 50; refine Calls.mono (T1.out _ HB.out) ?_; rintro e4 wb1 ⟨rfl, hw⟩; subst hw; clear T1)
          go_ret
          exact ⟨by rw [E.out]; rfl, HB.out⟩
        | true =>
          rw [e2] at T1
          have e2' := of_decide_eq_true e2
          clear e2
          subst e2'
          have E := Lib.hid (show decide ((⟨(r, n), k, b⟩ : Tk) = ⟨(r, n), k, b⟩) = true from decide_eq_true rfl)
          go_enter Try.func79, Try.ntmps79
          go_wp2_with (go_at_call 50; refine Calls.mono (T1.out _ HB.out) ?_; rintro e4 wb1 ⟨rfl, hw⟩; subst hw; clear T1)
          go_ret
          exact ⟨by rw [E.out]; rfl, HB.out⟩
      · have t1 : (k == k2) = false := by simpa using e1
        have E := Lib.hid (show decide ((⟨(r, n), k, b⟩ : Tk) = ⟨(r, n), k2, b2⟩) = false from decide_eq_false (fun h => e1 (congrArg Tk.k h)))
        go_enter Try.func79, Try.ntmps79
        go_wp2
        go_ret
        exact ⟨by rw [E.out]; rfl, HB.out⟩
    · have E := Lib.hid (show decide ((⟨(r, n), k, b⟩ : Tk) = ⟨(r, n2), k2, b2⟩) = false from decide_eq_false (fun h => e0b (congrArg (fun t => t.s.2) h)))
      go_enter Try.func79, Try.ntmps79
      go_wp2
      go_ret
      exact ⟨by rw [E.out]; rfl, HB.out⟩
  · have E := Lib.hid (show decide ((⟨(r, n), k, b⟩ : Tk) = ⟨(r2, n2), k2, b2⟩) = false from decide_eq_false (fun h => e0a (congrArg (fun t => t.s.1) h)))
    go_enter Try.func79, Try.ntmps79
    go_wp2
    go_ret
    exact ⟨by rw [E.out]; rfl, HB.out⟩
set_option maxHeartbeats 3200000 in
theorem equaltg_any (x y : Tg) (A1 A2 D1 D2 : Option Addr) (c1 c2 d1 d2 : Nat) (w : World) (h1 : Rd w w.heap.size A1 (bvs x.t.b)) (g1 : Rd w w.heap.size D1 (bvs y.t.b)) (h2 : Rd w w.heap.size A2 (bvs x.a)) (g2 : Rd w w.heap.size D2 (bvs y.a)) :
    Calls Try.prog 58 #[.agg #[.string ⟨x.t.s.1.toArray⟩, .string ⟨x.t.s.2.toArray⟩, .int .i64 x.t.k, .slice A1 x.t.b.length c1, .slice A2 x.a.length c2, .string ⟨x.s.1.toArray⟩, .string ⟨x.s.2.toArray⟩, .int .i64 x.u, .int .i64 x.no], .agg #[.string ⟨y.t.s.1.toArray⟩, .string ⟨y.t.s.2.toArray⟩, .int .i64 y.t.k, .slice D1 y.t.b.length d1, .slice D2 y.a.length d2, .string ⟨y.s.1.toArray⟩, .string ⟨y.s.2.toArray⟩, .int .i64 y.u, .int .i64 y.no]] w fun e w' => e = .returned (.bool (decide (x = y))) ∧ Below w.heap.size w w' := by
  obtain ⟨t, a, ⟨r, n⟩, u, no⟩ := x
  obtain ⟨t2, a2, ⟨r2, n2⟩, u2, no2⟩ := y
  simp only at h1 g1 h2 g2 ⊢
  have HB := Lib.hid (((Below.refl w.heap.size w).alloc (Nat.le_refl _) (.cells #[.string ⟨t.s.1.toArray⟩, .string ⟨t.s.2.toArray⟩, .int .i64 t.k, .slice A1 t.b.length c1, .slice A2 a.length c2, .string ⟨List.toArray r⟩, .string ⟨List.toArray n⟩, .int .i64 u, .int .i64 no] 30)).alloc (by simp) (.cells #[.string ⟨t2.s.1.toArray⟩, .string ⟨t2.s.2.toArray⟩, .int .i64 t2.k, .slice D1 t2.b.length d1, .slice D2 a2.length d2, .string ⟨List.toArray r2⟩, .string ⟨List.toArray n2⟩, .int .i64 u2, .int .i64 no2] 30))
  have HX := Lib.hid ((Blk.new w 30 #[.string ⟨t.s.1.toArray⟩, .string ⟨t.s.2.toArray⟩, .int .i64 t.k, .slice A1 t.b.length c1, .slice A2 a.length c2, .string ⟨List.toArray r⟩, .string ⟨List.toArray n⟩, .int .i64 u, .int .i64 no]).alloc (.cells #[.string ⟨t2.s.1.toArray⟩, .string ⟨t2.s.2.toArray⟩, .int .i64 t2.k, .slice D1 t2.b.length d1, .slice D2 a2.length d2, .string ⟨List.toArray r2⟩, .string ⟨List.toArray n2⟩, .int .i64 u2, .int .i64 no2] 30))
  have hy := Blk.new (w.alloc (.cells #[.string ⟨t.s.1.toArray⟩, .string ⟨t.s.2.toArray⟩, .int .i64 t.k, .slice A1 t.b.length c1, .slice A2 a.length c2, .string ⟨List.toArray r⟩, .string ⟨List.toArray n⟩, .int .i64 u, .int .i64 no] 30)) 30 #[.string ⟨t2.s.1.toArray⟩, .string ⟨t2.s.2.toArray⟩, .int .i64 t2.k, .slice D1 t2.b.length d1, .slice D2 a2.length d2, .string ⟨List.toArray r2⟩, .string ⟨List.toArray n2⟩, .int .i64 u2, .int .i64 no2]
  rw [show (w.alloc (.cells #[.string ⟨t.s.1.toArray⟩, .string ⟨t.s.2.toArray⟩, .int .i64 t.k, .slice A1 t.b.length c1, .slice A2 a.length c2, .string ⟨List.toArray r⟩, .string ⟨List.toArray n⟩, .int .i64 u, .int .i64 no] 30)).heap.size = w.heap.size + 1 by simp] at hy
  have HY := Lib.hid hy
  clear hy
  have T1 := Lib.hid (fun w1 (h : Below w.heap.size w w1) => equalt_any t t2 A1 D1 c1 d1 w1 ((h1.below h).more h.size) ((g1.below h).more h.size))
  have T2 := Lib.hid (fun w1 (h : Below w.heap.size w w1) => beq_any a a2 A2 D2 c2 d2 w.heap.size w1 (h2.below h) (g2.below h))
  clear h1 g1 h2 g2
  cases e0 : decide (t = t2) with
  | false =>
    have E := Lib.hid (show decide ((⟨t, a, (r, n), u, no⟩ : Tg) = ⟨t2, a2, (r2, n2), u2, no2⟩) = false from decide_eq_false (fun h => of_decide_eq_false e0 (congrArg Tg.t h)))
    rw [e0] at T1
    clear e0
    go_enter Try.func58, Try.ntmps58
    go_wp2_with (go_at_call 79; refine Calls.mono (T1.out _ HB.out) ?_; rintro e3 w1 ⟨rfl, hb⟩; replace HX := Lib.hid (HX.out.below hb); replace HY := Lib.hid (HY.out.below hb); replace HB := Lib.hid (HB.out.trans (hb.mono HB.out.size)); clear hb T1; have kx4 : w1.cell? ⟨w.heap.size, 4, none⟩ = some (.slice A2 a.length c2) := HX.out.cell 4; have ky4 : w1.cell? ⟨w.heap.size + 1, 4, none⟩ = some (.slice D2 a2.length d2) := HY.out.cell 4; have kx5 : w1.cell? ⟨w.heap.size, 5, none⟩ = some (.string ⟨List.toArray r⟩) := HX.out.cell 5; have ky5 : w1.cell? ⟨w.heap.size + 1, 5, none⟩ = some (.string ⟨List.toArray r2⟩) := HY.out.cell 5; have kx6 : w1.cell? ⟨w.heap.size, 6, none⟩ = some (.string ⟨List.toArray n⟩) := HX.out.cell 6; have ky6 : w1.cell? ⟨w.heap.size + 1, 6, none⟩ = some (.string ⟨List.toArray n2⟩) := HY.out.cell 6; have kx7 : w1.cell? ⟨w.heap.size, 7, none⟩ = some (.int .i64 u) := HX.out.cell 7; have ky7 : w1.cell? ⟨w.heap.size + 1, 7, none⟩ = some (.int .i64 u2) := HY.out.cell 7; have kx8 : w1.cell? ⟨w.heap.size, 8, none⟩ = some (.int .i64 no) := HX.out.cell 8; have ky8 : w1.cell? ⟨w.heap.size + 1, 8, none⟩ = some (.int .i64 no2) := HY.out.cell 8)
    go_ret
    exact ⟨by rw [E.out]; rfl, HB.out⟩
  | true =>
    rw [e0] at T1
    have e0' := of_decide_eq_true e0
    clear e0
    subst e0'
    cases e1 : decide (a = a2) with
    | false =>
      have E := Lib.hid (show decide ((⟨t, a, (r, n), u, no⟩ : Tg) = ⟨t, a2, (r2, n2), u2, no2⟩) = false from decide_eq_false (fun h => of_decide_eq_false e1 (congrArg Tg.a h)))
      rw [e1] at T2
      clear e1
      go_enter Try.func58, Try.ntmps58
      go_wp2_with (first
        | (go_at_call 79; refine Calls.mono (T1.out _ HB.out) ?_; rintro e3 w1 ⟨rfl, hb⟩; replace HX := Lib.hid (HX.out.below hb); replace HY := Lib.hid (HY.out.below hb); replace HB := Lib.hid (HB.out.trans (hb.mono HB.out.size)); clear hb T1; have kx4 : w1.cell? ⟨w.heap.size, 4, none⟩ = some (.slice A2 a.length c2) := HX.out.cell 4; have ky4 : w1.cell? ⟨w.heap.size + 1, 4, none⟩ = some (.slice D2 a2.length d2) := HY.out.cell 4; have kx5 : w1.cell? ⟨w.heap.size, 5, none⟩ = some (.string ⟨List.toArray r⟩) := HX.out.cell 5; have ky5 : w1.cell? ⟨w.heap.size + 1, 5, none⟩ = some (.string ⟨List.toArray r2⟩) := HY.out.cell 5; have kx6 : w1.cell? ⟨w.heap.size, 6, none⟩ = some (.string ⟨List.toArray n⟩) := HX.out.cell 6; have ky6 : w1.cell? ⟨w.heap.size + 1, 6, none⟩ = some (.string ⟨List.toArray n2⟩) := HY.out.cell 6; have kx7 : w1.cell? ⟨w.heap.size, 7, none⟩ = some (.int .i64 u) := HX.out.cell 7; have ky7 : w1.cell? ⟨w.heap.size + 1, 7, none⟩ = some (.int .i64 u2) := HY.out.cell 7; have kx8 : w1.cell? ⟨w.heap.size, 8, none⟩ = some (.int .i64 no) := HX.out.cell 8; have ky8 : w1.cell? ⟨w.heap.size + 1, 8, none⟩ = some (.int .i64 no2) := HY.out.cell 8)
        | (go_at_call 50; refine Calls.mono (T2.out _ HB.out) ?_; rintro e4 wb2 ⟨rfl, hw⟩; subst hw; clear T2))
      go_ret
      exact ⟨by rw [E.out]; rfl, HB.out⟩
    | true =>
      rw [e1] at T2
      have e1' := of_decide_eq_true e1
      clear e1
      subst e1'
      by_cases e2a : r = r2
      · subst e2a
        by_cases e2b : n = n2
        · subst e2b
          by_cases e3 : u = u2
          · subst e3
            have t3 : (u == u) = true := by simp
            by_cases e4 : no = no2
            · subst e4
              have t4 : (no == no) = true := by simp
              have E := Lib.hid (show decide ((⟨t, a, (r, n), u, no⟩ : Tg) = ⟨t, a, (r, n), u, no⟩) = true from decide_eq_true rfl)
              go_enter Try.func58, Try.ntmps58
              go_wp2_with (first
                | (go_at_call 79; refine Calls.mono (T1.out _ HB.out) ?_; rintro e3 w1 ⟨rfl, hb⟩; replace HX := Lib.hid (HX.out.below hb); replace HY := Lib.hid (HY.out.below hb); replace HB := Lib.hid (HB.out.trans (hb.mono HB.out.size)); clear hb T1; have kx4 : w1.cell? ⟨w.heap.size, 4, none⟩ = some (.slice A2 a.length c2) := HX.out.cell 4; have ky4 : w1.cell? ⟨w.heap.size + 1, 4, none⟩ = some (.slice D2 a.length d2) := HY.out.cell 4; have kx5 : w1.cell? ⟨w.heap.size, 5, none⟩ = some (.string ⟨List.toArray r⟩) := HX.out.cell 5; have ky5 : w1.cell? ⟨w.heap.size + 1, 5, none⟩ = some (.string ⟨List.toArray r⟩) := HY.out.cell 5; have kx6 : w1.cell? ⟨w.heap.size, 6, none⟩ = some (.string ⟨List.toArray n⟩) := HX.out.cell 6; have ky6 : w1.cell? ⟨w.heap.size + 1, 6, none⟩ = some (.string ⟨List.toArray n⟩) := HY.out.cell 6; have kx7 : w1.cell? ⟨w.heap.size, 7, none⟩ = some (.int .i64 u) := HX.out.cell 7; have ky7 : w1.cell? ⟨w.heap.size + 1, 7, none⟩ = some (.int .i64 u) := HY.out.cell 7; have kx8 : w1.cell? ⟨w.heap.size, 8, none⟩ = some (.int .i64 no) := HX.out.cell 8; have ky8 : w1.cell? ⟨w.heap.size + 1, 8, none⟩ = some (.int .i64 no) := HY.out.cell 8)
                | (go_at_call 50; refine Calls.mono (T2.out _ HB.out) ?_; rintro e4 wb2 ⟨rfl, hw⟩; subst hw; clear T2))
              go_ret
              exact ⟨by rw [E.out]; rfl, HB.out⟩
            · have t4 : (no == no2) = false := by simpa using e4
              have E := Lib.hid (show decide ((⟨t, a, (r, n), u, no⟩ : Tg) = ⟨t, a, (r, n), u, no2⟩) = false from decide_eq_false (fun h => e4 (congrArg Tg.no h)))
              go_enter Try.func58, Try.ntmps58
              go_wp2_with (first
                | (go_at_call 79; refine Calls.mono (T1.out _ HB.out) ?_; rintro e3 w1 ⟨rfl, hb⟩; replace HX := Lib.hid (HX.out.below hb); replace HY := Lib.hid (HY.out.below hb); replace HB := Lib.hid (HB.out.trans (hb.mono HB.out.size)); clear hb T1; have kx4 : w1.cell? ⟨w.heap.size, 4, none⟩ = some (.slice A2 a.length c2) := HX.out.cell 4; have ky4 : w1.cell? ⟨w.heap.size + 1, 4, none⟩ = some (.slice D2 a.length d2) := HY.out.cell 4; have kx5 : w1.cell? ⟨w.heap.size, 5, none⟩ = some (.string ⟨List.toArray r⟩) := HX.out.cell 5; have ky5 : w1.cell? ⟨w.heap.size + 1, 5, none⟩ = some (.string ⟨List.toArray r⟩) := HY.out.cell 5; have kx6 : w1.cell? ⟨w.heap.size, 6, none⟩ = some (.string ⟨List.toArray n⟩) := HX.out.cell 6; have ky6 : w1.cell? ⟨w.heap.size + 1, 6, none⟩ = some (.string ⟨List.toArray n⟩) := HY.out.cell 6; have kx7 : w1.cell? ⟨w.heap.size, 7, none⟩ = some (.int .i64 u) := HX.out.cell 7; have ky7 : w1.cell? ⟨w.heap.size + 1, 7, none⟩ = some (.int .i64 u) := HY.out.cell 7; have kx8 : w1.cell? ⟨w.heap.size, 8, none⟩ = some (.int .i64 no) := HX.out.cell 8; have ky8 : w1.cell? ⟨w.heap.size + 1, 8, none⟩ = some (.int .i64 no2) := HY.out.cell 8)
                | (go_at_call 50; refine Calls.mono (T2.out _ HB.out) ?_; rintro e4 wb2 ⟨rfl, hw⟩; subst hw; clear T2))
              go_ret
              exact ⟨by rw [E.out]; rfl, HB.out⟩
          · have t3 : (u == u2) = false := by simpa using e3
            have E := Lib.hid (show decide ((⟨t, a, (r, n), u, no⟩ : Tg) = ⟨t, a, (r, n), u2, no2⟩) = false from decide_eq_false (fun h => e3 (congrArg Tg.u h)))
            go_enter Try.func58, Try.ntmps58
            go_wp2_with (first
              | (go_at_call 79; refine Calls.mono (T1.out _ HB.out) ?_; rintro e3 w1 ⟨rfl, hb⟩; replace HX := Lib.hid (HX.out.below hb); replace HY := Lib.hid (HY.out.below hb); replace HB := Lib.hid (HB.out.trans (hb.mono HB.out.size)); clear hb T1; have kx4 : w1.cell? ⟨w.heap.size, 4, none⟩ = some (.slice A2 a.length c2) := HX.out.cell 4; have ky4 : w1.cell? ⟨w.heap.size + 1, 4, none⟩ = some (.slice D2 a.length d2) := HY.out.cell 4; have kx5 : w1.cell? ⟨w.heap.size, 5, none⟩ = some (.string ⟨List.toArray r⟩) := HX.out.cell 5; have ky5 : w1.cell? ⟨w.heap.size + 1, 5, none⟩ = some (.string ⟨List.toArray r⟩) := HY.out.cell 5; have kx6 : w1.cell? ⟨w.heap.size, 6, none⟩ = some (.string ⟨List.toArray n⟩) := HX.out.cell 6; have ky6 : w1.cell? ⟨w.heap.size + 1, 6, none⟩ = some (.string ⟨List.toArray n⟩) := HY.out.cell 6; have kx7 : w1.cell? ⟨w.heap.size, 7, none⟩ = some (.int .i64 u) := HX.out.cell 7; have ky7 : w1.cell? ⟨w.heap.size + 1, 7, none⟩ = some (.int .i64 u2) := HY.out.cell 7; have kx8 : w1.cell? ⟨w.heap.size, 8, none⟩ = some (.int .i64 no) := HX.out.cell 8; have ky8 : w1.cell? ⟨w.heap.size + 1, 8, none⟩ = some (.int .i64 no2) := HY.out.cell 8)
              | (go_at_call 50; refine Calls.mono (T2.out _ HB.out) ?_; rintro e4 wb2 ⟨rfl, hw⟩; subst hw; clear T2))
            go_ret
            exact ⟨by rw [E.out]; rfl, HB.out⟩
        · have E := Lib.hid (show decide ((⟨t, a, (r, n), u, no⟩ : Tg) = ⟨t, a, (r, n2), u2, no2⟩) = false from decide_eq_false (fun h => e2b (congrArg (fun t => t.s.2) h)))
          go_enter Try.func58, Try.ntmps58
          go_wp2_with (first
            | (go_at_call 79; refine Calls.mono (T1.out _ HB.out) ?_; rintro e3 w1 ⟨rfl, hb⟩; replace HX := Lib.hid (HX.out.below hb); replace HY := Lib.hid (HY.out.below hb); replace HB := Lib.hid (HB.out.trans (hb.mono HB.out.size)); clear hb T1; have kx4 : w1.cell? ⟨w.heap.size, 4, none⟩ = some (.slice A2 a.length c2) := HX.out.cell 4; have ky4 : w1.cell? ⟨w.heap.size + 1, 4, none⟩ = some (.slice D2 a.length d2) := HY.out.cell 4; have kx5 : w1.cell? ⟨w.heap.size, 5, none⟩ = some (.string ⟨List.toArray r⟩) := HX.out.cell 5; have ky5 : w1.cell? ⟨w.heap.size + 1, 5, none⟩ = some (.string ⟨List.toArray r⟩) := HY.out.cell 5; have kx6 : w1.cell? ⟨w.heap.size, 6, none⟩ = some (.string ⟨List.toArray n⟩) := HX.out.cell 6; have ky6 : w1.cell? ⟨w.heap.size + 1, 6, none⟩ = some (.string ⟨List.toArray n2⟩) := HY.out.cell 6; have kx7 : w1.cell? ⟨w.heap.size, 7, none⟩ = some (.int .i64 u) := HX.out.cell 7; have ky7 : w1.cell? ⟨w.heap.size + 1, 7, none⟩ = some (.int .i64 u2) := HY.out.cell 7; have kx8 : w1.cell? ⟨w.heap.size, 8, none⟩ = some (.int .i64 no) := HX.out.cell 8; have ky8 : w1.cell? ⟨w.heap.size + 1, 8, none⟩ = some (.int .i64 no2) := HY.out.cell 8)
            | (go_at_call 50; refine Calls.mono (T2.out _ HB.out) ?_; rintro e4 wb2 ⟨rfl, hw⟩; subst hw; clear T2))
          go_ret
          exact ⟨by rw [E.out]; rfl, HB.out⟩
      · have E := Lib.hid (show decide ((⟨t, a, (r, n), u, no⟩ : Tg) = ⟨t, a, (r2, n2), u2, no2⟩) = false from decide_eq_false (fun h => e2a (congrArg (fun t => t.s.1) h)))
        go_enter Try.func58, Try.ntmps58
        go_wp2_with (first
          | (go_at_call 79; refine Calls.mono (T1.out _ HB.out) ?_; rintro e3 w1 ⟨rfl, hb⟩; replace HX := Lib.hid (HX.out.below hb); replace HY := Lib.hid (HY.out.below hb); replace HB := Lib.hid (HB.out.trans (hb.mono HB.out.size)); clear hb T1; have kx4 : w1.cell? ⟨w.heap.size, 4, none⟩ = some (.slice A2 a.length c2) := HX.out.cell 4; have ky4 : w1.cell? ⟨w.heap.size + 1, 4, none⟩ = some (.slice D2 a.length d2) := HY.out.cell 4; have kx5 : w1.cell? ⟨w.heap.size, 5, none⟩ = some (.string ⟨List.toArray r⟩) := HX.out.cell 5; have ky5 : w1.cell? ⟨w.heap.size + 1, 5, none⟩ = some (.string ⟨List.toArray r2⟩) := HY.out.cell 5; have kx6 : w1.cell? ⟨w.heap.size, 6, none⟩ = some (.string ⟨List.toArray n⟩) := HX.out.cell 6; have ky6 : w1.cell? ⟨w.heap.size + 1, 6, none⟩ = some (.string ⟨List.toArray n2⟩) := HY.out.cell 6; have kx7 : w1.cell? ⟨w.heap.size, 7, none⟩ = some (.int .i64 u) := HX.out.cell 7; have ky7 : w1.cell? ⟨w.heap.size + 1, 7, none⟩ = some (.int .i64 u2) := HY.out.cell 7; have kx8 : w1.cell? ⟨w.heap.size, 8, none⟩ = some (.int .i64 no) := HX.out.cell 8; have ky8 : w1.cell? ⟨w.heap.size + 1, 8, none⟩ = some (.int .i64 no2) := HY.out.cell 8)
          | (go_at_call 50; refine Calls.mono (T2.out _ HB.out) ?_; rintro e4 wb2 ⟨rfl, hw⟩; subst hw; clear T2))
        go_ret
        exact ⟨by rw [E.out]; rfl, HB.out⟩
set_option maxHeartbeats 3200000 in
theorem equalre_any (x y : Re) (A1 A2 D1 D2 : Option Addr) (c1 c2 d1 d2 : Nat) (w : World) (h1 : Rd w w.heap.size A1 (bvs x.t.b)) (g1 : Rd w w.heap.size D1 (bvs y.t.b)) (h2 : Rd w w.heap.size A2 (bvs x.b)) (g2 : Rd w w.heap.size D2 (bvs y.b)) :
    Calls Try.prog 59 #[.agg #[.string ⟨x.c.1.toArray⟩, .string ⟨x.c.2.toArray⟩, .string ⟨x.t.s.1.toArray⟩, .string ⟨x.t.s.2.toArray⟩, .int .i64 x.t.k, .slice A1 x.t.b.length c1, .slice A2 x.b.length c2], .agg #[.string ⟨y.c.1.toArray⟩, .string ⟨y.c.2.toArray⟩, .string ⟨y.t.s.1.toArray⟩, .string ⟨y.t.s.2.toArray⟩, .int .i64 y.t.k, .slice D1 y.t.b.length d1, .slice D2 y.b.length d2]] w fun e w' => e = .returned (.bool (decide (x = y))) ∧ Below w.heap.size w w' := by
  obtain ⟨⟨r, n⟩, t, b⟩ := x
  obtain ⟨⟨r2, n2⟩, t2, b2⟩ := y
  simp only at h1 g1 h2 g2 ⊢
  have HB := Lib.hid (((Below.refl w.heap.size w).alloc (Nat.le_refl _) (.cells #[.string ⟨List.toArray r⟩, .string ⟨List.toArray n⟩, .string ⟨t.s.1.toArray⟩, .string ⟨t.s.2.toArray⟩, .int .i64 t.k, .slice A1 t.b.length c1, .slice A2 b.length c2] 32)).alloc (by simp) (.cells #[.string ⟨List.toArray r2⟩, .string ⟨List.toArray n2⟩, .string ⟨t2.s.1.toArray⟩, .string ⟨t2.s.2.toArray⟩, .int .i64 t2.k, .slice D1 t2.b.length d1, .slice D2 b2.length d2] 32))
  have HX := Lib.hid ((Blk.new w 32 #[.string ⟨List.toArray r⟩, .string ⟨List.toArray n⟩, .string ⟨t.s.1.toArray⟩, .string ⟨t.s.2.toArray⟩, .int .i64 t.k, .slice A1 t.b.length c1, .slice A2 b.length c2]).alloc (.cells #[.string ⟨List.toArray r2⟩, .string ⟨List.toArray n2⟩, .string ⟨t2.s.1.toArray⟩, .string ⟨t2.s.2.toArray⟩, .int .i64 t2.k, .slice D1 t2.b.length d1, .slice D2 b2.length d2] 32))
  have hy := Blk.new (w.alloc (.cells #[.string ⟨List.toArray r⟩, .string ⟨List.toArray n⟩, .string ⟨t.s.1.toArray⟩, .string ⟨t.s.2.toArray⟩, .int .i64 t.k, .slice A1 t.b.length c1, .slice A2 b.length c2] 32)) 32 #[.string ⟨List.toArray r2⟩, .string ⟨List.toArray n2⟩, .string ⟨t2.s.1.toArray⟩, .string ⟨t2.s.2.toArray⟩, .int .i64 t2.k, .slice D1 t2.b.length d1, .slice D2 b2.length d2]
  rw [show (w.alloc (.cells #[.string ⟨List.toArray r⟩, .string ⟨List.toArray n⟩, .string ⟨t.s.1.toArray⟩, .string ⟨t.s.2.toArray⟩, .int .i64 t.k, .slice A1 t.b.length c1, .slice A2 b.length c2] 32)).heap.size = w.heap.size + 1 by simp] at hy
  have HY := Lib.hid hy
  clear hy
  have T1 := Lib.hid (fun w1 (h : Below w.heap.size w w1) => equalt_any t t2 A1 D1 c1 d1 w1 ((h1.below h).more h.size) ((g1.below h).more h.size))
  have T2 := Lib.hid (fun w1 (h : Below w.heap.size w w1) => beq_any b b2 A2 D2 c2 d2 w.heap.size w1 (h2.below h) (g2.below h))
  clear h1 g1 h2 g2
  by_cases e0a : r = r2
  · subst e0a
    by_cases e0b : n = n2
    · subst e0b
      cases e1 : decide (t = t2) with
      | false =>
        have E := Lib.hid (show decide ((⟨(r, n), t, b⟩ : Re) = ⟨(r, n), t2, b2⟩) = false from decide_eq_false (fun h => of_decide_eq_false e1 (congrArg Re.t h)))
        rw [e1] at T1
        clear e1
        go_enter Try.func59, Try.ntmps59
        go_wp2_with (go_at_call 79; refine Calls.mono (T1.out _ HB.out) ?_; rintro e3 w1 ⟨rfl, hb⟩; replace HX := Lib.hid (HX.out.below hb); replace HY := Lib.hid (HY.out.below hb); replace HB := Lib.hid (HB.out.trans (hb.mono HB.out.size)); clear hb T1; have kx6 : w1.cell? ⟨w.heap.size, 6, none⟩ = some (.slice A2 b.length c2) := HX.out.cell 6; have ky6 : w1.cell? ⟨w.heap.size + 1, 6, none⟩ = some (.slice D2 b2.length d2) := HY.out.cell 6)
        go_ret
        exact ⟨by rw [E.out]; rfl, HB.out⟩
      | true =>
        rw [e1] at T1
        have e1' := of_decide_eq_true e1
        clear e1
        subst e1'
        cases e2 : decide (b = b2) with
        | false =>
          have E := Lib.hid (show decide ((⟨(r, n), t, b⟩ : Re) = ⟨(r, n), t, b2⟩) = false from decide_eq_false (fun h => of_decide_eq_false e2 (congrArg Re.b h)))
          rw [e2] at T2
          clear e2
          go_enter Try.func59, Try.ntmps59
          go_wp2_with (first
            | (go_at_call 79; refine Calls.mono (T1.out _ HB.out) ?_; rintro e3 w1 ⟨rfl, hb⟩; replace HX := Lib.hid (HX.out.below hb); replace HY := Lib.hid (HY.out.below hb); replace HB := Lib.hid (HB.out.trans (hb.mono HB.out.size)); clear hb T1; have kx6 : w1.cell? ⟨w.heap.size, 6, none⟩ = some (.slice A2 b.length c2) := HX.out.cell 6; have ky6 : w1.cell? ⟨w.heap.size + 1, 6, none⟩ = some (.slice D2 b2.length d2) := HY.out.cell 6)
            | (go_at_call 50; refine Calls.mono (T2.out _ HB.out) ?_; rintro e4 wb2 ⟨rfl, hw⟩; subst hw; clear T2))
          go_ret
          exact ⟨by rw [E.out]; rfl, HB.out⟩
        | true =>
          rw [e2] at T2
          have e2' := of_decide_eq_true e2
          clear e2
          subst e2'
          have E := Lib.hid (show decide ((⟨(r, n), t, b⟩ : Re) = ⟨(r, n), t, b⟩) = true from decide_eq_true rfl)
          go_enter Try.func59, Try.ntmps59
          go_wp2_with (first
            | (go_at_call 79; refine Calls.mono (T1.out _ HB.out) ?_; rintro e3 w1 ⟨rfl, hb⟩; replace HX := Lib.hid (HX.out.below hb); replace HY := Lib.hid (HY.out.below hb); replace HB := Lib.hid (HB.out.trans (hb.mono HB.out.size)); clear hb T1; have kx6 : w1.cell? ⟨w.heap.size, 6, none⟩ = some (.slice A2 b.length c2) := HX.out.cell 6; have ky6 : w1.cell? ⟨w.heap.size + 1, 6, none⟩ = some (.slice D2 b.length d2) := HY.out.cell 6)
            | (go_at_call 50; refine Calls.mono (T2.out _ HB.out) ?_; rintro e4 wb2 ⟨rfl, hw⟩; subst hw; clear T2))
          go_ret
          exact ⟨by rw [E.out]; rfl, HB.out⟩
    · have E := Lib.hid (show decide ((⟨(r, n), t, b⟩ : Re) = ⟨(r, n2), t2, b2⟩) = false from decide_eq_false (fun h => e0b (congrArg (fun t => t.c.2) h)))
      go_enter Try.func59, Try.ntmps59
      go_wp2
      go_ret
      exact ⟨by rw [E.out]; rfl, HB.out⟩
  · have E := Lib.hid (show decide ((⟨(r, n), t, b⟩ : Re) = ⟨(r2, n2), t2, b2⟩) = false from decide_eq_false (fun h => e0a (congrArg (fun t => t.c.1) h)))
    go_enter Try.func59, Try.ntmps59
    go_wp2
    go_ret
    exact ⟨by rw [E.out]; rfl, HB.out⟩
set_option maxHeartbeats 3200000 in
theorem equalap_any (x y : Ap) (A1 A2 D1 D2 : Option Addr) (c1 c2 d1 d2 : Nat) (w : World) (h1 : Rd w w.heap.size A1 (bvs x.t.b)) (g1 : Rd w w.heap.size D1 (bvs y.t.b)) (h2 : Rd w w.heap.size A2 (bvs x.a)) (g2 : Rd w w.heap.size D2 (bvs y.a)) :
    Calls Try.prog 60 #[.agg #[.string ⟨x.t.s.1.toArray⟩, .string ⟨x.t.s.2.toArray⟩, .int .i64 x.t.k, .slice A1 x.t.b.length c1, .slice A2 x.a.length c2], .agg #[.string ⟨y.t.s.1.toArray⟩, .string ⟨y.t.s.2.toArray⟩, .int .i64 y.t.k, .slice D1 y.t.b.length d1, .slice D2 y.a.length d2]] w fun e w' => e = .returned (.bool (decide (x = y))) ∧ Below w.heap.size w w' := by
  obtain ⟨t, a⟩ := x
  obtain ⟨t2, a2⟩ := y
  simp only at h1 g1 h2 g2 ⊢
  have HB := Lib.hid (((Below.refl w.heap.size w).alloc (Nat.le_refl _) (.cells #[.string ⟨t.s.1.toArray⟩, .string ⟨t.s.2.toArray⟩, .int .i64 t.k, .slice A1 t.b.length c1, .slice A2 a.length c2] 34)).alloc (by simp) (.cells #[.string ⟨t2.s.1.toArray⟩, .string ⟨t2.s.2.toArray⟩, .int .i64 t2.k, .slice D1 t2.b.length d1, .slice D2 a2.length d2] 34))
  have HX := Lib.hid ((Blk.new w 34 #[.string ⟨t.s.1.toArray⟩, .string ⟨t.s.2.toArray⟩, .int .i64 t.k, .slice A1 t.b.length c1, .slice A2 a.length c2]).alloc (.cells #[.string ⟨t2.s.1.toArray⟩, .string ⟨t2.s.2.toArray⟩, .int .i64 t2.k, .slice D1 t2.b.length d1, .slice D2 a2.length d2] 34))
  have hy := Blk.new (w.alloc (.cells #[.string ⟨t.s.1.toArray⟩, .string ⟨t.s.2.toArray⟩, .int .i64 t.k, .slice A1 t.b.length c1, .slice A2 a.length c2] 34)) 34 #[.string ⟨t2.s.1.toArray⟩, .string ⟨t2.s.2.toArray⟩, .int .i64 t2.k, .slice D1 t2.b.length d1, .slice D2 a2.length d2]
  rw [show (w.alloc (.cells #[.string ⟨t.s.1.toArray⟩, .string ⟨t.s.2.toArray⟩, .int .i64 t.k, .slice A1 t.b.length c1, .slice A2 a.length c2] 34)).heap.size = w.heap.size + 1 by simp] at hy
  have HY := Lib.hid hy
  clear hy
  have T1 := Lib.hid (fun w1 (h : Below w.heap.size w w1) => equalt_any t t2 A1 D1 c1 d1 w1 ((h1.below h).more h.size) ((g1.below h).more h.size))
  have T2 := Lib.hid (fun w1 (h : Below w.heap.size w w1) => beq_any a a2 A2 D2 c2 d2 w.heap.size w1 (h2.below h) (g2.below h))
  clear h1 g1 h2 g2
  cases e0 : decide (t = t2) with
  | false =>
    have E := Lib.hid (show decide ((⟨t, a⟩ : Ap) = ⟨t2, a2⟩) = false from decide_eq_false (fun h => of_decide_eq_false e0 (congrArg Ap.t h)))
    rw [e0] at T1
    clear e0
    go_enter Try.func60, Try.ntmps60
    go_wp2_with (go_at_call 79; refine Calls.mono (T1.out _ HB.out) ?_; rintro e3 w1 ⟨rfl, hb⟩; replace HX := Lib.hid (HX.out.below hb); replace HY := Lib.hid (HY.out.below hb); replace HB := Lib.hid (HB.out.trans (hb.mono HB.out.size)); clear hb T1; have kx4 : w1.cell? ⟨w.heap.size, 4, none⟩ = some (.slice A2 a.length c2) := HX.out.cell 4; have ky4 : w1.cell? ⟨w.heap.size + 1, 4, none⟩ = some (.slice D2 a2.length d2) := HY.out.cell 4)
    go_ret
    exact ⟨by rw [E.out]; rfl, HB.out⟩
  | true =>
    rw [e0] at T1
    have e0' := of_decide_eq_true e0
    clear e0
    subst e0'
    cases e1 : decide (a = a2) with
    | false =>
      have E := Lib.hid (show decide ((⟨t, a⟩ : Ap) = ⟨t, a2⟩) = false from decide_eq_false (fun h => of_decide_eq_false e1 (congrArg Ap.a h)))
      rw [e1] at T2
      clear e1
      go_enter Try.func60, Try.ntmps60
      go_wp2_with (first
        | (go_at_call 79; refine Calls.mono (T1.out _ HB.out) ?_; rintro e3 w1 ⟨rfl, hb⟩; replace HX := Lib.hid (HX.out.below hb); replace HY := Lib.hid (HY.out.below hb); replace HB := Lib.hid (HB.out.trans (hb.mono HB.out.size)); clear hb T1; have kx4 : w1.cell? ⟨w.heap.size, 4, none⟩ = some (.slice A2 a.length c2) := HX.out.cell 4; have ky4 : w1.cell? ⟨w.heap.size + 1, 4, none⟩ = some (.slice D2 a2.length d2) := HY.out.cell 4)
        | (go_at_call 50; refine Calls.mono (T2.out _ HB.out) ?_; rintro e4 wb2 ⟨rfl, hw⟩; subst hw; clear T2))
      go_ret
      exact ⟨by rw [E.out]; rfl, HB.out⟩
    | true =>
      rw [e1] at T2
      have e1' := of_decide_eq_true e1
      clear e1
      subst e1'
      have E := Lib.hid (show decide ((⟨t, a⟩ : Ap) = ⟨t, a⟩) = true from decide_eq_true rfl)
      go_enter Try.func60, Try.ntmps60
      go_wp2_with (first
        | (go_at_call 79; refine Calls.mono (T1.out _ HB.out) ?_; rintro e3 w1 ⟨rfl, hb⟩; replace HX := Lib.hid (HX.out.below hb); replace HY := Lib.hid (HY.out.below hb); replace HB := Lib.hid (HB.out.trans (hb.mono HB.out.size)); clear hb T1; have kx4 : w1.cell? ⟨w.heap.size, 4, none⟩ = some (.slice A2 a.length c2) := HX.out.cell 4; have ky4 : w1.cell? ⟨w.heap.size + 1, 4, none⟩ = some (.slice D2 a.length d2) := HY.out.cell 4)
        | (go_at_call 50; refine Calls.mono (T2.out _ HB.out) ?_; rintro e4 wb2 ⟨rfl, hw⟩; subst hw; clear T2))
      go_ret
      exact ⟨by rw [E.out]; rfl, HB.out⟩
end Go.Proofs.Yteeabfplnaknfaa.Mc
end
