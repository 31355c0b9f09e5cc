/-
  NameBack walked.
-/
import Derived.Test.YtpjilcngibaepaaNmLaw1
import Derived.Test.YtpjilcngibaepaaNmPlain3
import Derived.IntWalk
set_option linter.unusedVariables false
namespace Go.Proofs.Ytpjilcngibaepaa.NmW
open Go.RowKit Go.Proofs.Ytpjilcngibaepaa.Mem Go.Proofs.Ytpjilcngibaepaa.Nm

set_option maxHeartbeats 3200000 in
set_option maxRecDepth 100000 in
theorem back_yes (a b : L) (w : World) (hs : a.length + b.length ≤ 200) (ha : isL a = true) (hb : isL b = true) : Calls Try.prog 4 #[.string ⟨a.toArray⟩, .string ⟨b.toArray⟩] w fun e w' => e = .returned (.bool true) ∧ Below w.heap.size w w' := by
  have e200 : ¬ (200 : Int) < (a.length : Int) + (b.length : Int) := by omega
  have i1 := fun w1 => ris_any a w1 (by omega)
  have i2 := fun w1 => ris_any b w1 (by omega)
  rw [ha] at i1
  rw [hb] at i2
  have I1 := Lib.hid i1; clear i1
  have I2 := Lib.hid i2; clear i2
  have b1 := fun w1 => between_any a b w1 (by omega) (by omega)
  have b2 := fun w1 => between_any b a w1 (by omega) (by omega)
  have hlen := between_len a b
  rw [between_rev a b] at b2
  obtain ⟨M, eM⟩ : ∃ M, M = betweenL a b := ⟨_, rfl⟩
  rw [← eM] at b1 b2 hlen
  obtain ⟨R, eR⟩ : ∃ R, R = M.reverse := ⟨_, rfl⟩
  rw [← eR] at b2
  have hRl : R.length = M.length := by rw [eR]; simp
  have hpl : ∀ i j, i + j + 1 = M.length → pl R j = pl M i := fun i j h => by rw [eR]; exact pl_reverse (by omega)
  have B1 := Lib.hid b1; clear b1
  have B2 := Lib.hid b2; clear b2
  have HPL := Lib.hid hpl; clear hpl
  have CK := Lib.hid (fun w1 => known_any w1)
  have H := Lib.hid (Below.refl w.heap.size w)
  have HRL := Lib.hid hRl; clear hRl
  clear ha hb eM eR
  go_enter Try.func4, Try.ntmps4
  go_wp2_with (first
    | (go_at_call 17; with_reducible refine Calls.mono (I1.out _) ?_; rintro e w1 ⟨rfl, hb⟩; replace H := Lib.hid (H.out.trans (hb.mono H.out.size)); clear hb)
    | (go_at_call 17; with_reducible refine Calls.mono (I2.out _) ?_; rintro e w2 ⟨rfl, hb⟩; replace H := Lib.hid (H.out.trans (hb.mono H.out.size)); clear hb)
    | (go_at_call 25; with_reducible refine Calls.mono (B1.out _) ?_; rintro e w3 ⟨v1, rfl, ho, hb⟩; replace H := Lib.hid (H.out.trans (hb.mono H.out.size)); clear hb; obtain ⟨A1, c1, rfl, r1⟩ := ho.slice; have R1 := Lib.hid r1; clear r1 ho)
    | (go_at_call 25; with_reducible refine Calls.mono (B2.out _) ?_; rintro e w4 ⟨v2, rfl, ho, hb⟩; replace H := Lib.hid (H.out.trans (hb.mono H.out.size)); have R1' := Lib.hid (R1.out.below hb); clear hb; obtain ⟨A2, c2, rfl, r2⟩ := ho.slice; have R2 := Lib.hid r2; clear r2 ho; rw [HRL.out]))
  have R2' := R2
  obtain ⟨K, eK⟩ : ∃ K, K = M.length := ⟨_, rfl⟩
  rw [← eK] at hlen ⊢
  have EK := Lib.hid eK; clear eK
  have HD0 := Lib.hid (Drawn.refl w4)
  go_loopw [7] (fun iv wr => ∃ i : Nat, i ≤ K ∧ iv = .int .i64 (i : Int) ∧ Drawn w4 wr) (fun iv _ => K - (intOf iv).toNat)
  case atStart => exact ⟨0, Nat.zero_le _, rfl, HD0.out⟩
  case round =>
    obtain ⟨i, hi, rfl, hd⟩ := hrel
    have hrr : ∀ B A xs, Rd w4 B A xs → Rd wr B A xs := by obtain ⟨m, rfl⟩ := hd; exact fun B A xs h => h.drewN m
    have HRR := Lib.hid hrr; clear hrr
    have HD := Lib.hid hd; clear hd
    by_cases hlt : i < K
    · have h1 := rd_txt (HRR.out _ _ _ R1'.out) (i := i) (by rw [← EK.out]; exact hlt)
      obtain ⟨j, ej⟩ : ∃ j, i + j + 1 = K := ⟨K - 1 - i, by omega⟩
      have h2 := rd_txt (HRR.out _ _ _ R2.out) (i := j) (by rw [HRL.out, ← EK.out]; omega)
      rw [HPL.out i j (by rw [← EK.out]; exact ej)] at h2
      obtain ⟨x, ex⟩ : ∃ x, x = pl M i := ⟨_, rfl⟩
      rw [← ex] at h1 h2
      obtain ⟨b1, o1, rfl, _, h1⟩ := h1
      obtain ⟨b2, o2, rfl, _, h2⟩ := h2
      have e1 : (i : Int) < (K : Int) := by omega
      have e2 : (0 : Int) ≤ (i : Int) := by omega
      have e5 : IntKind.i64.wrap ((K : Int) - 1) = (K : Int) - 1 := IntWalk.i64_in _ (by omega)
      have e6 : IntKind.i64.wrap ((K : Int) - 1 - (i : Int)) = (j : Int) := (IntWalk.i64_in _ (by omega)).trans (by omega)
      have e7 : (0 : Int) ≤ (j : Int) := by omega
      have e8 : (j : Int) < (K : Int) := by omega
      have EJ := Lib.hid ej; clear ej
      clear ex
      go_wp2
      go_quiet (fail)
      go_wp2
      go_roundw
      case rel => exact ⟨i + 1, by omega, by go_num, HD.out.trans ⟨_, rfl⟩⟩
      case measure => simp [intOf]; omega
    · have e1 : ¬ (i : Int) < (K : Int) := by omega
      go_wp2_with (go_at_call 31; with_reducible refine Calls.mono (CK.out _) ?_; rintro e w5 ⟨rfl, hb⟩; have H5 := Lib.hid (H.out.trans (HD.out.below.mono H.out.size)); have H6 := Lib.hid (H5.out.trans (hb.mono H5.out.size)); clear hb)
      go_ret
      exact ⟨rfl, H6.out⟩

theorem two_no (a b : L) (w : World) (h1 : a.length ≤ 140737488351232) (h2 : b.length ≤ 140737488351232) (hs : 200 < a.length + b.length) : Calls Try.prog 4 #[.string ⟨a.toArray⟩, .string ⟨b.toArray⟩] w fun e w' => e = .returned (.bool true) ∧ Below w.heap.size w w' := by
  have e200 : (200 : Int) < (a.length : Int) + (b.length : Int) := by omega
  have HB := Lib.hid (Below.refl w.heap.size w)
  go_enter Try.func4, Try.ntmps4
  go_wp2
  go_ret
  exact ⟨rfl, HB.out⟩
theorem two_not (a b : L) (w : World) (hs : a.length + b.length ≤ 200) (h : isL a = false ∨ (isL a = true ∧ isL b = false)) : Calls Try.prog 4 #[.string ⟨a.toArray⟩, .string ⟨b.toArray⟩] w fun e w' => e = .returned (.bool true) ∧ Below w.heap.size w w' := by
  have e200 : ¬ (200 : Int) < (a.length : Int) + (b.length : Int) := by omega
  have i1 := fun w1 => ris_any a w1 (by omega)
  have i2 := fun w1 => ris_any b w1 (by omega)
  have H := Lib.hid (Below.refl w.heap.size w)
  rcases h with h | ⟨h, h'⟩
  · rw [h] at i1
    have I1 := Lib.hid i1
    clear i1 i2 h
    go_enter Try.func4, Try.ntmps4
    go_wp2_with (go_at_call 17; with_reducible refine Calls.mono (I1.out _) ?_; rintro e w1 ⟨rfl, hb⟩; replace H := Lib.hid (H.out.trans (hb.mono H.out.size)); clear hb)
    go_ret
    exact ⟨rfl, H.out⟩
  · rw [h] at i1
    rw [h'] at i2
    have I1 := Lib.hid i1
    have I2 := Lib.hid i2
    clear i1 i2 h h'
    go_enter Try.func4, Try.ntmps4
    go_wp2_with (first
      | (go_at_call 17; with_reducible refine Calls.mono (I1.out _) ?_; rintro e w1 ⟨rfl, hb⟩; replace H := Lib.hid (H.out.trans (hb.mono H.out.size)); clear hb)
      | (go_at_call 17; with_reducible refine Calls.mono (I2.out _) ?_; rintro e w1 ⟨rfl, hb⟩; replace H := Lib.hid (H.out.trans (hb.mono H.out.size)); clear hb))
    go_ret
    exact ⟨rfl, H.out⟩
theorem back_ (s1 s2 : ByteArray) (w : World) (h1 : s1.data.toList.length ≤ reachBytes) (h2 : s2.data.toList.length ≤ reachBytes) : Calls Try.prog 4 #[.string s1, .string s2] w fun e w' => e = .returned (.bool true) ∧ Below w.heap.size w w' := by
  rw [reach_val] at h1 h2
  obtain ⟨a, rfl⟩ : ∃ a : L, s1 = ⟨a.toArray⟩ := ⟨_, bytes_eta s1⟩
  obtain ⟨b, rfl⟩ : ∃ a : L, s2 = ⟨a.toArray⟩ := ⟨_, bytes_eta s2⟩
  simp only at h1 h2
  by_cases h : a.length + b.length ≤ 200
  · cases ha : isL a with
    | false => exact two_not a b w h (.inl ha)
    | true =>
      cases hb : isL b with
      | false => exact two_not a b w h (.inr ⟨ha, hb⟩)
      | true => exact back_yes a b w h ha hb
  · exact two_no a b w h1 h2 (by omega)
end Go.Proofs.Ytpjilcngibaepaa.NmW
