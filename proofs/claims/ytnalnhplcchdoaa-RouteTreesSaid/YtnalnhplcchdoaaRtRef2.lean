/-
  The document's own of chapter 7: path.
-/
import Derived.Test.YtnalnhplcchdoaaRtRef
import Derived.Test.YtnalnhplcchdoaaRtIs3
set_option linter.unusedVariables false
namespace Go.Proofs.Ytnalnhplcchdoaa.Rt
open Go.RowKit Go.Proofs.Ytnalnhplcchdoaa.Mem Go.Proofs.Ytnalnhplcchdoaa.Nm

set_option maxHeartbeats 1600000 in
theorem rpath_yes (p : Pa) (T : Tp) (v u : Value) (B : Nat) (w : World) (hs : Sm T) (hp : p.v.length ≤ 3000) (hv : TpV w B v T) (hu : PaV w B u p) (hB : B ≤ w.heap.size) (hq : pairB T.R (p.f, p.t) = true) (h4 : p.v.length ≤ 4) :
    Calls Try.prog 36 #[v, u] w fun e w' => e = .returned (.bool (viaB T.R p)) ∧ Below w.heap.size w w' := by
  obtain ⟨v1, v2, v3, rfl, ⟨A1, d1, rfl, hc1, r1⟩, ⟨A2, d2, rfl, hc2, r2⟩, ⟨A3, d3, rfl, hc3, r3⟩⟩ := hv
  obtain ⟨u1, rfl, ⟨A5, d5, rfl, hc5, r5⟩⟩ := hu
  have hb1 := (Below.refl w.heap.size w).alloc (Nat.le_refl _) (.cells #[.slice A1 T.R.length d1, .slice A2 T.K.length d2, .slice A3 T.P.length d3] 26)
  have hb2 := hb1.alloc hb1.size (.cells #[.string ⟨p.f.toArray⟩, .string ⟨p.t.toArray⟩, .slice A5 p.v.length d5] 48)
  have HB := Lib.hid hb2
  have HK2 := Lib.hid (Blk.new (w.alloc (.cells #[.slice A1 T.R.length d1, .slice A2 T.K.length d2, .slice A3 T.P.length d3] 26)) 48 #[.string ⟨p.f.toArray⟩, .string ⟨p.t.toArray⟩, .slice A5 p.v.length d5])
  have HK1 := Lib.hid ((Blk.new w 26 #[.slice A1 T.R.length d1, .slice A2 T.K.length d2, .slice A3 T.P.length d3]).alloc (.cells #[.string ⟨p.f.toArray⟩, .string ⟨p.t.toArray⟩, .slice A5 p.v.length d5] 48))
  have HR := Lib.hid (r1.below (hb2.mono hB))
  have HV := Lib.hid (r5.below (hb2.mono hB))
  have PR := Lib.hid (fun x w1 (h : Rd w1 B A1 (strs T.R)) => place_any T.R A1 d1 B x w1 (by have := hs.r; omega) h)
  have PV := Lib.hid (fun (i : Nat) (hi : i < p.v.length) w1 (h : Rd w1 B A5 (strs p.v)) => place_any (p.v.take i) A5 d5 B (pl p.v i) w1 (by simp; omega) (rd_take h (by omega)))
  rw [pairB, Bool.and_eq_true, Bool.and_eq_true, decide_eq_true_eq, decide_eq_true_eq, decide_eq_true_eq] at hq
  obtain ⟨hft, hf, ht⟩ := hq
  simp only at hft hf ht
  have t1 : (p.f == p.t) = false := by simpa using hft
  obtain ⟨z1, ez1, hz1⟩ := place_in hf
  obtain ⟨z2, ez2, hz2⟩ := place_in ht
  have c1 := PR.out p.f
  have c2 := PR.out p.t
  rw [← ez1] at c1
  rw [← ez2] at c2
  have s1 : decide (z1 < 0) = false := decide_eq_false (by omega)
  have s2 : decide (z2 < 0) = false := decide_eq_false (by omega)
  have EQ := Lib.hid (show viaB T.R p = (p.v.all (onB T.R p) && decide p.v.Nodup) by rw [viaB, decide_eq_true h4]; rfl)
  obtain ⟨n, en⟩ : ∃ n, n = p.v.length := ⟨_, rfl⟩
  obtain ⟨m, em⟩ : ∃ m, m = T.R.length := ⟨_, rfl⟩
  clear hb1 hb2
  rw [← en] at HB HK1 HK2 HR HV hc5 h4 hp
  rw [← em] at HB HK1 HK2 HR HV PR c1 c2
  rw [← en, ← em]
  have s3 : decide (4 < (n : Int)) = false := by simp; omega
  have EN := Lib.hid en
  clear en em ez1 ez2 hz1 hz2 hft hf ht r1 r2 r3 r5 hB hs hc1 hc2 hc3 h4
  have C1 := Lib.hid c1; have C2 := Lib.hid c2; clear c1 c2
  go_enter Try.func36, Try.ntmps36
  go_wp2_with (first
    | (go_at_call 28; with_reducible refine Calls.mono (C1.out _ HR.out) ?_; rintro e w1 ⟨rfl, rfl⟩; clear C1)
    | (go_at_call 28; with_reducible refine Calls.mono (C2.out _ HR.out) ?_; rintro e w1 ⟨rfl, rfl⟩; clear C2))
  obtain ⟨W, eW⟩ : ∃ W, W = (w.alloc (.cells #[.slice A1 m d1, .slice A2 T.K.length d2, .slice A3 T.P.length d3] 26)).alloc (.cells #[.string ⟨p.f.toArray⟩, .string ⟨p.t.toArray⟩, .slice A5 n d5] 48) := ⟨_, rfl⟩
  rw [← eW] at HB HK1 HK2 HR HV ⊢
  clear eW
  have hsz : (w.alloc (.cells #[.slice A1 m d1, .slice A2 T.K.length d2, .slice A3 T.P.length d3] 26)).heap.size = w.heap.size + 1 := by simp
  rw [hsz] at HK2
  clear hsz
  go_loopw [5] (fun iv wr => ∃ i : Nat, i ≤ n ∧ iv = .int .i64 (i : Int) ∧ (p.v.take i).all (onB T.R p) = true ∧ (p.v.take i).Nodup ∧ Drawn W wr) (fun iv _ => n - (intOf iv).toNat)
  case atStart => exact ⟨0, Nat.zero_le _, rfl, by simp, by simp, Drawn.refl _⟩
  case round =>
    obtain ⟨i, hi, rfl, hn, hnd, hd⟩ := hrel
    have HN := Lib.hid hn; clear hn
    have HND := Lib.hid hnd; clear hnd
    have HRW := Lib.hid (show Rd wr B A1 (strs T.R) by obtain ⟨q, rfl⟩ := hd; exact HR.out.drewN q)
    have HVW := Lib.hid (show Rd wr B A5 (strs p.v) by obtain ⟨q, rfl⟩ := hd; exact HV.out.drewN q)
    have k0 : wr.cell? ⟨w.heap.size, 0, none⟩ = some (.slice A1 m d1) := by obtain ⟨q, rfl⟩ := hd; exact HK1.out.cell 0
    have k1 : wr.cell? ⟨w.heap.size + 1, 0, none⟩ = some (.string ⟨p.f.toArray⟩) := by obtain ⟨q, rfl⟩ := hd; exact HK2.out.cell 0
    have k2 : wr.cell? ⟨w.heap.size + 1, 1, none⟩ = some (.string ⟨p.t.toArray⟩) := by obtain ⟨q, rfl⟩ := hd; exact HK2.out.cell 1
    have k3 : wr.cell? ⟨w.heap.size + 1, 2, none⟩ = some (.slice A5 n d5) := by obtain ⟨q, rfl⟩ := hd; exact HK2.out.cell 2
    have HDR := Lib.hid hd; clear hd
    by_cases hlt : i < n
    · have e1 : (i : Int) < (n : Int) := by omega
      have e2 : (0 : Int) ≤ (i : Int) := by omega
      have e3 : (i : Int) ≤ (d5 : Int) := by omega
      have him : i < p.v.length := by rw [← EN.out]; exact hlt
      have hlen : (p.v.take i).length = i := by simp; omega
      have C4 := Lib.hid (PV.out i him)
      rw [hlen] at C4
      have hal := all_succ (p := onB T.R p) him
      rw [HN.out, Bool.true_and, ← pl_lt him] at hal
      have haf := all_false (p := onB T.R p) him
      rw [← pl_lt him] at haf
      have hnd := nodup_succ him
      rw [← pl_lt him] at hnd
      obtain ⟨b, o, eA, _, h1⟩ := rd_txt HVW.out him
      subst eA
      obtain ⟨x, ex⟩ : ∃ x, x = pl p.v i := ⟨_, rfl⟩
      rw [← ex] at hal haf hnd h1 C4
      have C3 := Lib.hid (PR.out x)
      have HAL := Lib.hid hal; have HAF := Lib.hid haf; have HNDS := Lib.hid hnd
      clear ex him hlen hal haf hnd
      by_cases q1 : x ∈ T.R
      · obtain ⟨y1, ey1, hy1⟩ := place_in q1
        rw [← ey1] at C3
        have s4 : decide (y1 < 0) = false := decide_eq_false (by omega)
        have Q1 := Lib.hid q1
        clear ey1 hy1 q1
        by_cases q2 : x ∈ p.v.take i
        · obtain ⟨y2, ey2, hy2⟩ := place_in q2
          rw [← ey2] at C4
          have s5 : decide (0 ≤ y2) = true := decide_eq_true hy2
          have E := Lib.hid (show viaB T.R p = false by rw [EQ.out, decide_eq_false (fun h => (HNDS.out.1 (nodup_take h)).2 q2)]; simp)
          clear ey2 hy2 q2
          go_wp2
          go_quiet (first
            | (go_at_call 28; with_reducible refine Calls.mono (C3.out _ (HRW.out.drewN _)) ?_; rintro e w9 ⟨rfl, rfl⟩; exact ⟨rfl, _, rfl⟩)
            | (go_at_call 28; with_reducible refine Calls.mono (C4.out _ (HVW.out.drewN _)) ?_; rintro e w9 ⟨rfl, rfl⟩; exact ⟨rfl, _, rfl⟩))
          go_wp2
          go_ret
          exact ⟨by rw [E.out]; rfl, HB.out.trans ((HDR.out.trans ⟨_, rfl⟩).below.mono HB.out.size)⟩
        · obtain ⟨y2, ey2, hy2⟩ := place_out q2
          rw [← ey2] at C4
          have s5 : decide (0 ≤ y2) = false := decide_eq_false (by omega)
          have E2 := Lib.hid (HNDS.out.2 ⟨HND.out, q2⟩)
          clear ey2 hy2 q2
          by_cases q3 : x = p.f
          · have t3 : (x == p.f) = true := by simpa using q3
            have E := Lib.hid (show viaB T.R p = false by rw [EQ.out, HAF.out (by rw [onB, decide_eq_false (fun h => h q3)]; rfl)]; rfl)
            clear q3
            go_wp2
            go_quiet (first
              | (go_at_call 28; with_reducible refine Calls.mono (C3.out _ (HRW.out.drewN _)) ?_; rintro e w9 ⟨rfl, rfl⟩; exact ⟨rfl, _, rfl⟩)
              | (go_at_call 28; with_reducible refine Calls.mono (C4.out _ (HVW.out.drewN _)) ?_; rintro e w9 ⟨rfl, rfl⟩; exact ⟨rfl, _, rfl⟩))
            go_wp2
            go_ret
            exact ⟨by rw [E.out]; rfl, HB.out.trans ((HDR.out.trans ⟨_, rfl⟩).below.mono HB.out.size)⟩
          · have t3 : (x == p.f) = false := by simpa using q3
            by_cases q4 : x = p.t
            · have t4 : (x == p.t) = true := by simpa using q4
              have E := Lib.hid (show viaB T.R p = false by rw [EQ.out, HAF.out (by rw [onB, decide_eq_false (p := x ≠ p.t) (fun h => h q4)]; simp)]; rfl)
              clear q3 q4
              go_wp2
              go_quiet (first
                | (go_at_call 28; with_reducible refine Calls.mono (C3.out _ (HRW.out.drewN _)) ?_; rintro e w9 ⟨rfl, rfl⟩; exact ⟨rfl, _, rfl⟩)
                | (go_at_call 28; with_reducible refine Calls.mono (C4.out _ (HVW.out.drewN _)) ?_; rintro e w9 ⟨rfl, rfl⟩; exact ⟨rfl, _, rfl⟩))
              go_wp2
              go_ret
              exact ⟨by rw [E.out]; rfl, HB.out.trans ((HDR.out.trans ⟨_, rfl⟩).below.mono HB.out.size)⟩
            · have t4 : (x == p.t) = false := by simpa using q4
              have E := Lib.hid (HAL.out.trans (show onB T.R p x = true by rw [onB, decide_eq_true q3, decide_eq_true q4, decide_eq_true Q1.out]; rfl))
              clear q3 q4
              go_wp2
              go_quiet (first
                | (go_at_call 28; with_reducible refine Calls.mono (C3.out _ (HRW.out.drewN _)) ?_; rintro e w9 ⟨rfl, rfl⟩; exact ⟨rfl, _, rfl⟩)
                | (go_at_call 28; with_reducible refine Calls.mono (C4.out _ (HVW.out.drewN _)) ?_; rintro e w9 ⟨rfl, rfl⟩; exact ⟨rfl, _, rfl⟩))
              go_wp2
              go_roundw
              case rel => exact ⟨i + 1, by omega, by go_num, E.out, E2.out, HDR.out.trans ⟨_, rfl⟩⟩
              case measure => simp [intOf]; omega
      · obtain ⟨y1, ey1, hy1⟩ := place_out q1
        rw [← ey1] at C3
        have s4 : decide (y1 < 0) = true := decide_eq_true hy1
        have E := Lib.hid (show viaB T.R p = false by rw [EQ.out, HAF.out (by rw [onB, decide_eq_false q1]; simp)]; rfl)
        clear ey1 hy1 q1
        go_wp2
        go_quiet (first
          | (go_at_call 28; with_reducible refine Calls.mono (C3.out _ (HRW.out.drewN _)) ?_; rintro e w9 ⟨rfl, rfl⟩; exact ⟨rfl, _, rfl⟩))
        go_wp2
        go_ret
        exact ⟨by rw [E.out]; rfl, HB.out.trans ((HDR.out.trans ⟨_, rfl⟩).below.mono HB.out.size)⟩
    · have e1 : ¬ (i : Int) < (n : Int) := by omega
      have hiP : p.v.length ≤ i := by have := EN.out; omega
      have E := Lib.hid (show viaB T.R p = true by
        have h := HND.out
        rw [List.take_of_length_le hiP] at h
        rw [EQ.out, all_take hiP HN.out, decide_eq_true h]; rfl)
      go_wp2
      go_ret
      exact ⟨by rw [E.out]; rfl, HB.out.trans (HDR.out.below.mono HB.out.size)⟩
end Go.Proofs.Ytnalnhplcchdoaa.Rt
