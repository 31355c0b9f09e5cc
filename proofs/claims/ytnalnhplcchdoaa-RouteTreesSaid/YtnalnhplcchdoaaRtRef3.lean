/-
  The document's own of chapter 7: path, whatever it is.
-/
import Derived.Test.YtnalnhplcchdoaaRtRef2
set_option linter.unusedVariables false
namespace Go.Proofs.Ytnalnhplcchdoaa.Rt
open Go.RowKit Go.Proofs.Ytnalnhplcchdoaa.Mem Go.Proofs.Ytnalnhplcchdoaa.Nm

theorem path_of {R : List L} {p : Pa} (h : pairB R (p.f, p.t) = true) : pathB R p = viaB R p := by rw [pathB, h]; rfl
theorem path_a {R : List L} {p : Pa} (h : p.f ∉ R) : pathB R p = false := by rw [pathB, pairB]; simp [h]
theorem path_b {R : List L} {p : Pa} (h : p.t ∉ R) : pathB R p = false := by rw [pathB, pairB]; simp [h]
theorem path_c {R : List L} {p : Pa} (h : p.f = p.t) : pathB R p = false := by rw [pathB, pairB]; simp [h]
theorem path_d {R : List L} {p : Pa} (h : ¬ p.v.length ≤ 4) : pathB R p = false := by rw [pathB, viaB, decide_eq_false h]; simp

set_option maxHeartbeats 1600000 in
theorem rpath_any (p : Pa) (T : Tp) (v u : Value) (B : Nat) (w : World) (hs : Sm T) (hp : p.v.length ≤ 3000) (hv : TpV w B v T) (hu : PaV w B u p) (hB : B ≤ w.heap.size) :
    Calls Try.prog 36 #[v, u] w fun e w' => e = .returned (.bool (pathB T.R p)) ∧ Below w.heap.size w w' := by
  by_cases hgood : pairB T.R (p.f, p.t) = true ∧ p.v.length ≤ 4
  · rw [path_of hgood.1]
    exact rpath_yes p T v u B w hs hp hv hu hB hgood.1 hgood.2
  obtain ⟨v1, v2, v3, rfl, ⟨A1, d1, rfl, hc1, r1⟩, ⟨A2, d2, rfl, hc2, r2⟩, ⟨A3, d3, rfl, hc3, r3⟩⟩ := hv
  obtain ⟨u1, rfl, ⟨A5, d5, rfl, hc5, r5⟩⟩ := hu
  have hb1 := (Below.refl w.heap.size w).alloc (Nat.le_refl _) (.cells #[.slice A1 T.R.length d1, .slice A2 T.K.length d2, .slice A3 T.P.length d3] 26)
  have hb2 := hb1.alloc hb1.size (.cells #[.string ⟨p.f.toArray⟩, .string ⟨p.t.toArray⟩, .slice A5 p.v.length d5] 48)
  have HB := Lib.hid hb2
  have HR := Lib.hid (r1.below (hb2.mono hB))
  have PR := Lib.hid (fun x w1 (h : Rd w1 B A1 (strs T.R)) => place_any T.R A1 d1 B x w1 (by have := hs.r; omega) h)
  have c1 := PR.out p.f
  have c2 := PR.out p.t
  have EA := Lib.hid (@path_a T.R p); have EB := Lib.hid (@path_b T.R p); have EC := Lib.hid (@path_c T.R p); have ED := Lib.hid (@path_d T.R p)
  have HG := Lib.hid (show ¬ (p.f ∈ T.R ∧ p.t ∈ T.R ∧ p.f ≠ p.t ∧ p.v.length ≤ 4) from fun h => hgood ⟨by rw [pairB]; simp [h.1, h.2.1, h.2.2.1], h.2.2.2⟩)
  obtain ⟨n, en⟩ : ∃ n, n = p.v.length := ⟨_, rfl⟩
  obtain ⟨m, em⟩ : ∃ m, m = T.R.length := ⟨_, rfl⟩
  clear hb1 hb2 hgood
  rw [← en] at HB HR ED HG hp
  rw [← em] at HB HR PR c1 c2
  rw [← en, ← em]
  clear en em r1 r2 r3 r5 hB hs hc1 hc2 hc3 hc5
  by_cases q1 : p.f ∈ T.R
  · obtain ⟨z1, ez1, hz1⟩ := place_in q1
    rw [← ez1] at c1
    have s1 : decide (z1 < 0) = false := decide_eq_false (by omega)
    have C1 := Lib.hid c1; clear c1 ez1 hz1
    by_cases q2 : p.t ∈ T.R
    · obtain ⟨z2, ez2, hz2⟩ := place_in q2
      rw [← ez2] at c2
      have s2 : decide (z2 < 0) = false := decide_eq_false (by omega)
      have C2 := Lib.hid c2; clear c2 ez2 hz2
      by_cases q3 : p.f = p.t
      · have t3 : (p.f == p.t) = true := by simpa using q3
        have E := Lib.hid (EC.out q3)
        clear q1 q2 q3
        go_enter Try.func36, Try.ntmps36
        go_wp2_with (first
          | (go_at_call 28; with_reducible refine Calls.mono (C1.out _ HR.out) ?_; rintro e w1 ⟨rfl, rfl⟩; clear C1)
          | (go_at_call 28; with_reducible refine Calls.mono (C2.out _ HR.out) ?_; rintro e w1 ⟨rfl, rfl⟩; clear C2))
        go_ret
        exact ⟨by rw [E.out]; rfl, HB.out⟩
      · have t3 : (p.f == p.t) = false := by simpa using q3
        have h4 : ¬ n ≤ 4 := fun h => HG.out ⟨q1, q2, q3, h⟩
        have s3 : decide (4 < (n : Int)) = true := by simp; omega
        have E := Lib.hid (ED.out h4)
        clear q1 q2 q3 h4
        go_enter Try.func36, Try.ntmps36
        go_wp2_with (first
          | (go_at_call 28; with_reducible refine Calls.mono (C1.out _ HR.out) ?_; rintro e w1 ⟨rfl, rfl⟩; clear C1)
          | (go_at_call 28; with_reducible refine Calls.mono (C2.out _ HR.out) ?_; rintro e w1 ⟨rfl, rfl⟩; clear C2))
        go_ret
        exact ⟨by rw [E.out]; rfl, HB.out⟩
    · obtain ⟨z2, ez2, hz2⟩ := place_out q2
      rw [← ez2] at c2
      have s2 : decide (z2 < 0) = true := decide_eq_true hz2
      have C2 := Lib.hid c2; clear c2 ez2 hz2
      have E := Lib.hid (EB.out q2)
      clear q1 q2
      go_enter Try.func36, Try.ntmps36
      go_wp2_with (first
        | (go_at_call 28; with_reducible refine Calls.mono (C1.out _ HR.out) ?_; rintro e w1 ⟨rfl, rfl⟩; clear C1)
        | (go_at_call 28; with_reducible refine Calls.mono (C2.out _ HR.out) ?_; rintro e w1 ⟨rfl, rfl⟩; clear C2))
      go_ret
      exact ⟨by rw [E.out]; rfl, HB.out⟩
  · obtain ⟨z1, ez1, hz1⟩ := place_out q1
    rw [← ez1] at c1
    have s1 : decide (z1 < 0) = true := decide_eq_true hz1
    have C1 := Lib.hid c1; clear c1 c2 ez1 hz1
    have E := Lib.hid (EA.out q1)
    clear q1
    go_enter Try.func36, Try.ntmps36
    go_wp2_with (go_at_call 28; with_reducible refine Calls.mono (C1.out _ HR.out) ?_; rintro e w1 ⟨rfl, rfl⟩; clear C1)
    go_ret
    exact ⟨by rw [E.out]; rfl, HB.out⟩
end Go.Proofs.Ytnalnhplcchdoaa.Rt
