/-
  The code's Linked and laid.
-/
import Derived.Test.YtnalnhplcchdoaaRtIs3
set_option linter.unusedVariables false
namespace Go.Proofs.Ytnalnhplcchdoaa.Rt
open Go.RowKit Go.Proofs.Ytnalnhplcchdoaa.Mem Go.Proofs.Ytnalnhplcchdoaa.Nm

set_option maxHeartbeats 400000 in
theorem linked_any (T : Tp) (v : Value) (B : Nat) (a b : L) (w : World) (hs : Sm T) (hv : TpV w B v T) (hB : B ≤ w.heap.size) :
    Calls Try.prog 21 #[v, .string ⟨a.toArray⟩, .string ⟨b.toArray⟩] w fun e w' => e = .returned (.bool (linkL T a b)) ∧ Below w.heap.size w w' := by
  obtain ⟨v1, v2, v3, rfl, ⟨A1, c1, rfl, hc1, r1⟩, ⟨A2, c2, rfl, hc2, r2⟩, ⟨A3, c3, rfl, hc3, r3⟩⟩ := hv
  have hb := (Below.refl w.heap.size w).alloc (Nat.le_refl _) (.cells #[.slice A1 T.R.length c1, .slice A2 T.K.length c2, .slice A3 T.P.length c3] 26)
  have C1 := pcontains_any T.K A2 c2 B (a, b) _ (by have := hs.k; omega) (r2.below (hb.mono hB)) (Nat.le_trans hB hb.size)
  have H := Lib.hid hb; clear hb r1 r2 r3 hc1 hc2 hc3 hB hs
  rw [stp, st, st] at C1
  have E := Lib.hid (show linkL T a b = decide ((a, b) ∈ T.K) from rfl)
  go_enter Try.func21, Try.ntmps21
  go_wp2_with (go_at_call 41; refine Calls.mono C1 ?_; rintro e w1 ⟨rfl, hb⟩; clear C1; have H1 := Lib.hid (H.out.trans (hb.mono H.out.size)); clear hb)
  go_ret
  exact ⟨by rw [E.out]; rfl, H1.out⟩

theorem isp_yes {a b : L} {p : Pa} (h1 : p.f = a) (h2 : p.t = b) : isP a b p = true := by rw [isP, decide_eq_true h1, decide_eq_true h2]; rfl
theorem isp_no1 {a b : L} {p : Pa} (h1 : p.f ≠ a) : isP a b p = false := by rw [isP, decide_eq_false h1]; rfl
theorem isp_no2 {a b : L} {p : Pa} (h2 : p.t ≠ b) : isP a b p = false := by rw [isP, decide_eq_false h2]; simp
theorem laidb_yes {T : Tp} {a b : L} {i : Nat} (hi : i < T.P.length) (h : isP a b (al T.P i) = true) (hn : ∀ k, k < i → isP a b (al T.P k) = false) : laidB T a b = true ∧ vL T a b = (al T.P i).v := by
  have e := laid_at hi h hn
  exact ⟨by rw [laidB, e]; exact decide_eq_true hi, by rw [vL, e]⟩
theorem laidb_no {T : Tp} {a b : L} (hn : ∀ k, k < T.P.length → isP a b (al T.P k) = false) : laidB T a b = false ∧ vL T a b = [] := by
  have e := laid_none hn
  refine ⟨by rw [laidB, e]; exact decide_eq_false (by omega), ?_⟩
  rw [vL, e, al]; simp

set_option maxHeartbeats 800000 in
theorem laid_any (T : Tp) (v : Value) (B : Nat) (a b : L) (w : World) (hs : Sm T) (hv : TpV w B v T) (hB : B ≤ w.heap.size) :
    Calls Try.prog 42 #[v, .string ⟨a.toArray⟩, .string ⟨b.toArray⟩] w fun e w' => ∃ u, e = .returned (.tuple #[u, .bool (laidB T a b)]) ∧ SlV w' B u (vL T a b) ∧ Below w.heap.size w w' := by
  obtain ⟨v1, v2, v3, rfl, ⟨A1, c1, rfl, hc1, r1⟩, ⟨A2, c2, rfl, hc2, r2⟩, ⟨A3, c3, rfl, hc3, r3⟩⟩ := hv
  obtain ⟨N, eN⟩ : ∃ N, N = w.heap.size := ⟨_, rfl⟩
  have hb := (Below.refl w.heap.size w).alloc (Nat.le_refl _) (.cells #[.slice A1 T.R.length c1, .slice A2 T.K.length c2, .slice A3 T.P.length c3] 26)
  have HB0 := Lib.hid hb; clear hb
  have HK := Lib.hid (Blk.new w 26 #[.slice A1 T.R.length c1, .slice A2 T.K.length c2, .slice A3 T.P.length c3])
  have h3 := hs.p
  obtain ⟨n, en⟩ : ∃ n, n = T.P.length := ⟨_, rfl⟩
  rw [← en] at h3 HK HB0
  rw [← eN] at HB0 HK hB
  have EN0 := Lib.hid eN; clear eN
  have HSZ := Lib.hid (show ∀ w1 : World, Below N w w1 → N ≤ w1.heap.size from fun w1 h => by have := h.size; have := EN0.out; omega)
  have HR := Lib.hid r3
  rw [← en]
  have EN := Lib.hid en
  clear r1 r2 r3 hc1 hc2 hc3 hs en
  go_enter Try.func42, Try.ntmps42
  go_wp2
  obtain ⟨W, eW⟩ : ∃ W, W = w.alloc (.cells #[.slice A1 T.R.length c1, .slice A2 T.K.length c2, .slice A3 n c3] 26) := ⟨_, rfl⟩
  rw [← eW] at HB0 HK ⊢
  have hsz : W.heap.size = N + 1 := by rw [eW, EN0.out]; simp
  clear eW
  have HSW := Lib.hid (show ∀ w1 : World, Below W.heap.size W w1 → W.heap.size ≤ w1.heap.size from fun w1 h => h.size)
  go_loopw [13] (fun iv wr => ∃ i : Nat, i ≤ n ∧ iv = .int .i64 (i : Int) ∧ (∀ k, k < i → isP a b (al T.P k) = false) ∧ Below W.heap.size W wr) (fun iv _ => n - (intOf iv).toNat)
  case atStart => exact ⟨0, Nat.zero_le _, rfl, fun k h => absurd h (Nat.not_lt_zero k), Below.refl _ _⟩
  case round =>
    obtain ⟨i, hi, rfl, hn, hb⟩ := hrel
    have HN := Lib.hid hn; clear hn
    have HBW := Lib.hid hb; clear hb
    have HB := Lib.hid (HB0.out.trans (HBW.out.mono (HSZ.out _ HB0.out)))
    by_cases hlt : i < n
    · have e1 : (i : Int) < (n : Int) := by omega
      have e2 : (0 : Int) ≤ (i : Int) := by omega
      have him : i < T.P.length := by rw [← EN.out]; exact hlt
      obtain ⟨b1, o, rfl, _, h1, h2, u, h3, h4⟩ := rda_at (HR.out.below (HB.out.mono hB)) him
      obtain ⟨x, ex⟩ : ∃ x, x = al T.P i := ⟨_, rfl⟩
      rw [← ex] at h1 h2 h4
      have EX := Lib.hid ex; clear ex
      have h4' := h4
      obtain ⟨A5, c5, eu, _⟩ := h4'
      subst eu
      obtain ⟨k5, ek5⟩ : ∃ k, k = x.v.length := ⟨_, rfl⟩
      rw [← ek5] at h3 h4
      have H4 := Lib.hid h4; clear h4 ek5
      have H := Lib.hid ((Below.refl wr.heap.size wr).alloc (Nat.le_refl _) (.cells #[.string ⟨x.f.toArray⟩, .string ⟨x.t.toArray⟩, .slice A5 k5 c5] 48))
      have H1 := Lib.hid (HBW.out.trans (H.out.mono HBW.out.size))
      have H2 := Lib.hid (HB0.out.trans (H1.out.mono (HSZ.out _ HB0.out)))
      by_cases q1 : x.f = a
      · have t1 : (x.f == a) = true := by simpa using q1
        by_cases q2 : x.t = b
        · have t2 : (x.t == b) = true := by simpa using q2
          have E := Lib.hid (laidb_yes (T := T) (a := a) (b := b) him (by rw [← EX.out]; exact isp_yes q1 q2) HN.out)
          rw [← EX.out] at E
          clear q1 q2 him
          go_wp2_with fail
          go_ret2
          exact ⟨_, by rw [E.out.1]; rfl, by rw [E.out.2]; exact H4.out.below (H.out.mono (Nat.le_trans hB (HSZ.out _ HB.out))), by rw [← EN0.out]; exact H2.out⟩
        · have t2 : (x.t == b) = false := by simpa using q2
          have E := Lib.hid (isp_no2 (a := a) q2)
          rw [EX.out] at E
          clear q1 q2 him
          go_wp2_with fail
          go_roundw
          case rel => exact ⟨i + 1, by omega, by go_num, fun k hk => by
            by_cases q : k = i
            · rw [q]; exact E.out
            · exact HN.out k (by omega), H1.out⟩
          case measure => simp [intOf]; omega
      · have t1 : (x.f == a) = false := by simpa using q1
        have E := Lib.hid (isp_no1 (b := b) q1)
        rw [EX.out] at E
        clear q1 him
        go_wp2_with fail
        go_roundw
        case rel => exact ⟨i + 1, by omega, by go_num, fun k hk => by
          by_cases q : k = i
          · rw [q]; exact E.out
          · exact HN.out k (by omega), H1.out⟩
        case measure => simp [intOf]; omega
    · have e1 : ¬ (i : Int) < (n : Int) := by omega
      have E := Lib.hid (laidb_no (T := T) (a := a) (b := b) fun k hk => HN.out k (by have := EN.out; omega))
      go_wp2
      go_ret2
      exact ⟨_, by rw [E.out.1]; rfl, by rw [E.out.2]; exact ⟨none, 0, rfl, Nat.le_refl _, .inl rfl⟩, by rw [← EN0.out]; exact HB.out⟩
end Go.Proofs.Ytnalnhplcchdoaa.Rt
