/-
  NameUnders, NamePrincs walked.
-/
import Derived.Test.YtpjilcngibaepaaNmLaw1
import Derived.Test.YtpjilcngibaepaaNmPlain3
set_option linter.unusedVariables false
namespace Go.Proofs.Ytpjilcngibaepaa.NmW
open Go.RowKit Go.Proofs.Ytpjilcngibaepaa.Mem Go.Proofs.Ytpjilcngibaepaa.Nm

theorem eq2 (n m : Nat) (h : n = m) : ((n : Int) == (m : Int)) = true := by subst h; simp

set_option maxHeartbeats 3200000 in
set_option maxRecDepth 100000 in
theorem unders_yes (a b c : L) (w : World) (hs : a.length + b.length + c.length ≤ 300) : Calls Try.prog 10 #[.string ⟨a.toArray⟩, .string ⟨b.toArray⟩, .string ⟨c.toArray⟩] w fun e w' => e = .returned (.bool true) ∧ Below w.heap.size w w' := by
  have e300 : ¬ (300 : Int) < (a.length : Int) + (b.length : Int) + (c.length : Int) := by omega
  have d1 := fun w1 => under_any a b w1 (by omega)
  have d2 := fun w1 => under_any b a w1 (by omega)
  have d3 := fun w1 => under_any b c w1 (by omega)
  have d4 := fun w1 => under_any a c w1 (by omega)
  have K1 := Lib.hid (fun w1 => rkind_any a w1 (by omega))
  have K2 := Lib.hid (fun w1 => rkind_any b w1 (by omega))
  have B1 := Lib.hid (fun w1 => between_any a b w1 (by omega) (by omega))
  have CK := Lib.hid (fun w1 => known_any w1)
  have H := Lib.hid (Below.refl w.heap.size w)
  cases h1 : underL a b with
  | false =>
    rw [h1] at d1
    have D1 := Lib.hid d1
    clear d1 d2 d3 d4 h1
    go_enter Try.func10, Try.ntmps10
    go_wp2_with (first
      | (go_at_call 22; with_reducible refine Calls.mono (D1.out _) ?_; rintro e w1 ⟨rfl, hb⟩; replace H := Lib.hid (H.out.trans (hb.mono H.out.size)); clear hb)
      | (go_at_call 31; with_reducible refine Calls.mono (CK.out _) ?_; rintro e w2 ⟨rfl, hb⟩; replace H := Lib.hid (H.out.trans (hb.mono H.out.size)); clear hb))
    go_ret
    exact ⟨rfl, H.out⟩
  | true =>
    have hk := under_kind h1
    have tk : ((kindL a : Int) == (kindL b : Int)) = true := eq2 _ _ hk
    have hbl : (betweenL a b).length ≤ 4 := between_under h1
    rw [h1] at d1
    rw [under_anti h1] at d2
    have htr : underL b c = true → underL a c = true := fun h => under_trans h1 h
    have D1 := Lib.hid d1
    have D2 := Lib.hid d2
    have hbl' : ((betweenL a b).length : Int) ≤ 4 := by omega
    clear d1 d2 h1 hk hbl
    cases h2 : underL b c with
    | false =>
      rw [h2] at d3
      have D3 := Lib.hid d3
      clear d3 d4 h2 htr
      go_enter Try.func10, Try.ntmps10
      go_wp2_with (first
        | (go_at_call 22; with_reducible refine Calls.mono (D1.out _) ?_; rintro e w1 ⟨rfl, hb⟩; replace H := Lib.hid (H.out.trans (hb.mono H.out.size)); clear hb)
        | (go_at_call 22; with_reducible refine Calls.mono (D2.out _) ?_; rintro e w1 ⟨rfl, hb⟩; replace H := Lib.hid (H.out.trans (hb.mono H.out.size)); clear hb)
        | (go_at_call 22; with_reducible refine Calls.mono (D3.out _) ?_; rintro e w1 ⟨rfl, hb⟩; replace H := Lib.hid (H.out.trans (hb.mono H.out.size)); clear hb)
        | (go_at_call 15; with_reducible refine Calls.mono (K1.out _) ?_; rintro e w1 ⟨rfl, hb⟩; replace H := Lib.hid (H.out.trans (hb.mono H.out.size)); clear hb)
        | (go_at_call 15; with_reducible refine Calls.mono (K2.out _) ?_; rintro e w1 ⟨rfl, hb⟩; replace H := Lib.hid (H.out.trans (hb.mono H.out.size)); clear hb)
        | (go_at_call 25; with_reducible refine Calls.mono (B1.out _) ?_; rintro e w1 ⟨v, rfl, ho, hb⟩; obtain ⟨A1, c1, e1, r1⟩ := ho.slice; subst e1; clear ho r1; replace H := Lib.hid (H.out.trans (hb.mono H.out.size)); clear hb)
        | (go_at_call 31; with_reducible refine Calls.mono (CK.out _) ?_; rintro e w2 ⟨rfl, hb⟩; replace H := Lib.hid (H.out.trans (hb.mono H.out.size)); clear hb))
      go_ret
      exact ⟨rfl, H.out⟩
    | true =>
      rw [h2] at d3
      rw [htr h2] at d4
      have D3 := Lib.hid d3
      have D4 := Lib.hid d4
      clear d3 d4 h2 htr
      go_enter Try.func10, Try.ntmps10
      go_wp2_with (first
        | (go_at_call 22; with_reducible refine Calls.mono (D1.out _) ?_; rintro e w1 ⟨rfl, hb⟩; replace H := Lib.hid (H.out.trans (hb.mono H.out.size)); clear hb)
        | (go_at_call 22; with_reducible refine Calls.mono (D2.out _) ?_; rintro e w1 ⟨rfl, hb⟩; replace H := Lib.hid (H.out.trans (hb.mono H.out.size)); clear hb)
        | (go_at_call 22; with_reducible refine Calls.mono (D3.out _) ?_; rintro e w1 ⟨rfl, hb⟩; replace H := Lib.hid (H.out.trans (hb.mono H.out.size)); clear hb)
        | (go_at_call 22; with_reducible refine Calls.mono (D4.out _) ?_; rintro e w1 ⟨rfl, hb⟩; replace H := Lib.hid (H.out.trans (hb.mono H.out.size)); clear hb)
        | (go_at_call 15; with_reducible refine Calls.mono (K1.out _) ?_; rintro e w1 ⟨rfl, hb⟩; replace H := Lib.hid (H.out.trans (hb.mono H.out.size)); clear hb)
        | (go_at_call 15; with_reducible refine Calls.mono (K2.out _) ?_; rintro e w1 ⟨rfl, hb⟩; replace H := Lib.hid (H.out.trans (hb.mono H.out.size)); clear hb)
        | (go_at_call 25; with_reducible refine Calls.mono (B1.out _) ?_; rintro e w1 ⟨v, rfl, ho, hb⟩; obtain ⟨A1, c1, e1, r1⟩ := ho.slice; subst e1; clear ho r1; replace H := Lib.hid (H.out.trans (hb.mono H.out.size)); clear hb)
        | (go_at_call 31; with_reducible refine Calls.mono (CK.out _) ?_; rintro e w2 ⟨rfl, hb⟩; replace H := Lib.hid (H.out.trans (hb.mono H.out.size)); clear hb))
      go_ret
      exact ⟨rfl, H.out⟩
theorem unders_no (a b n : L) (w : World) (h1 : a.length ≤ 140737488351232) (h2 : b.length ≤ 140737488351232) (h3 : n.length ≤ 140737488351232) (hs : 300 < a.length + b.length + n.length) : Calls Try.prog 10 #[.string ⟨a.toArray⟩, .string ⟨b.toArray⟩, .string ⟨n.toArray⟩] w fun e w' => e = .returned (.bool true) ∧ Below w.heap.size w w' := by
  have e300 : (300 : Int) < (a.length : Int) + (b.length : Int) + (n.length : Int) := by omega
  have HB := Lib.hid (Below.refl w.heap.size w)
  go_enter Try.func10, Try.ntmps10
  go_wp2
  go_ret
  exact ⟨rfl, HB.out⟩
theorem unders_ (s1 s2 s3 : ByteArray) (w : World) (h1 : s1.data.toList.length ≤ reachBytes) (h2 : s2.data.toList.length ≤ reachBytes) (h3 : s3.data.toList.length ≤ reachBytes) : Calls Try.prog 10 #[.string s1, .string s2, .string s3] w fun e w' => e = .returned (.bool true) ∧ Below w.heap.size w w' := by
  rw [reach_val] at h1 h2 h3
  obtain ⟨a, rfl⟩ : ∃ a : L, s1 = ⟨a.toArray⟩ := ⟨_, bytes_eta s1⟩
  obtain ⟨b, rfl⟩ : ∃ a : L, s2 = ⟨a.toArray⟩ := ⟨_, bytes_eta s2⟩
  obtain ⟨n, rfl⟩ : ∃ a : L, s3 = ⟨a.toArray⟩ := ⟨_, bytes_eta s3⟩
  simp only at h1 h2 h3
  by_cases h : a.length + b.length + n.length ≤ 300
  · exact unders_yes a b n w h
  · exact unders_no a b n w h1 h2 h3 (by omega)
end Go.Proofs.Ytpjilcngibaepaa.NmW
