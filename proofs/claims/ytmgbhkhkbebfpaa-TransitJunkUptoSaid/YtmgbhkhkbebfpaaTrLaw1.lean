/-
  TransitTells walked.
-/
import Derived.Test.YtmgbhkhkbebfpaaTrKnown3
import Derived.Test.YtmgbhkhkbebfpaaTrRefI
set_option linter.unusedVariables false
namespace Go.Proofs.Ytmgbhkhkbebfpaa.TrW
open Go.RowKit Go.Proofs.Ytmgbhkhkbebfpaa.Mem Go.Proofs.Ytmgbhkhkbebfpaa.Nm Go.Proofs.Ytmgbhkhkbebfpaa.Tr

theorem reach_val : reachBytes = 140737488351232 := by decide
theorem sum_four (s a b r : L) : sumL [s, a, b, r] = s.length + a.length + b.length + r.length + 4 := by simp [sumL]; omega
theorem sum_three (s a b : L) : sumL [s, a, b] = s.length + a.length + b.length + 3 := by simp [sumL]; omega
theorem tells_long (l : List L) (A : Option Addr) (c : Nat) (s a b r : L) (w : World) (h : 60 < l.length) (hl : l.length ≤ 9000000000000000) :
    Calls Try.prog 3 #[.slice A l.length c, .string ⟨s.toArray⟩, .string ⟨a.toArray⟩, .string ⟨b.toArray⟩, .string ⟨r.toArray⟩] w fun e w' => e = .returned (.bool true) ∧ Below w.heap.size w w' := by
  have e60 : (60 : Int) < (l.length : Int) := by omega
  have HB := Lib.hid (Below.refl w.heap.size w)
  go_enter Try.func3, Try.ntmps3
  go_wp2
  go_ret
  exact ⟨rfl, HB.out⟩
theorem tells_large (l : List L) (A : Option Addr) (c : Nat) (s a b r : L) (w : World) (h : l.length ≤ 60) (hr : Rd w w.heap.size A (strs l)) (hs : ∀ x ∈ l, x.length ≤ 140737488351232) (hl : 600 < sumL l) :
    Calls Try.prog 3 #[.slice A l.length c, .string ⟨s.toArray⟩, .string ⟨a.toArray⟩, .string ⟨b.toArray⟩, .string ⟨r.toArray⟩] w fun e w' => e = .returned (.bool true) ∧ Below w.heap.size w w' := by
  have e60 : ¬ (60 : Int) < (l.length : Int) := by omega
  have HB := Lib.hid (Below.refl w.heap.size w)
  have hsb := sum_bound hs
  have hsm : l.length * (140737488351232 + 1) ≤ 60 * (140737488351232 + 1) := Nat.mul_le_mul_right _ h
  have c1 := large_any l A l.length c _ w rfl (by omega) hr
  rw [decide_eq_true hl] at c1
  clear hl hs hr hsb hsm
  go_enter Try.func3, Try.ntmps3
  go_wp2_with (go_at_call 13; refine Calls.mono c1 ?_; rintro e w1 ⟨rfl, rfl⟩)
  go_ret
  exact ⟨rfl, HB.out⟩
theorem tells_large2 (l : List L) (A : Option Addr) (c : Nat) (s a b r : L) (w : World) (h : l.length ≤ 60) (hr : Rd w w.heap.size A (strs l)) (hl : sumL l ≤ 600) (h2 : 600 < sumL [s, a, b, r]) (hm : sumL [s, a, b, r] ≤ 4000000000000000000) :
    Calls Try.prog 3 #[.slice A l.length c, .string ⟨s.toArray⟩, .string ⟨a.toArray⟩, .string ⟨b.toArray⟩, .string ⟨r.toArray⟩] w fun e w' => e = .returned (.bool true) ∧ Below w.heap.size w w' := by
  have e60 : ¬ (60 : Int) < (l.length : Int) := by omega
  have HB := Lib.hid ((Below.refl w.heap.size w).alloc (Nat.le_refl _) (.cells (strs [s, a, b, r]).toArray 9))
  have c1 := large_any l A l.length c _ w rfl (by omega) hr
  rw [decide_eq_false (by omega)] at c1
  have c2 := large_any [s, a, b, r] _ 4 4 _ _ rfl hm (lits_rd w [s, a, b, r])
  rw [decide_eq_true h2] at c2
  clear hl hr hm h2
  go_enter Try.func3, Try.ntmps3
  go_wp2_with (first
    | (go_at_call 13; refine Calls.mono c1 ?_; rintro e w1 ⟨rfl, rfl⟩; clear c1)
    | (go_at_call 13; refine Calls.mono c2 ?_; rintro e w2 ⟨rfl, rfl⟩; clear c2))
  go_ret
  exact ⟨rfl, HB.out⟩

set_option maxHeartbeats 3200000 in
set_option maxRecDepth 100000 in
theorem tells_yes (l : List L) (A : Option Addr) (c : Nat) (s a b r : L) (w : World) (h : l.length ≤ 60) (hr : Rd w w.heap.size A (strs l)) (hl : sumL l ≤ 600) (h2 : sumL [s, a, b, r] ≤ 600) :
    Calls Try.prog 3 #[.slice A l.length c, .string ⟨s.toArray⟩, .string ⟨a.toArray⟩, .string ⟨b.toArray⟩, .string ⟨r.toArray⟩] w fun e w' => e = .returned (.bool true) ∧ Below w.heap.size w w' := by
  have e60 : ¬ (60 : Int) < (l.length : Int) := by omega
  have c1 := large_any l A l.length c _ w rfl (by omega) hr
  rw [decide_eq_false (by omega)] at c1
  have c2 := large_any [s, a, b, r] _ 4 4 _ _ rfl (by omega) (lits_rd w [s, a, b, r])
  rw [decide_eq_false (by omega)] at c2
  have h4 := sum_four s a b r
  have hmem : ∀ i, i < l.length → (pl l i).length ≤ 1000000000 := fun i hi => by have := sum_mem (pl_mem hi); omega
  have P1 := Lib.hid (fun w1 hr1 => comp_any l A c w1 (by omega) hr1 hmem)
  have P2 := Lib.hid (fun w1 hr1 => rcomp_any l A c w1 (by omega) hr1 hmem)
  have P3 := Lib.hid (fun w1 => exp_any s a b w1 (by omega) (by omega) (by omega))
  have P4 := Lib.hid (fun w1 => rexp_any s a b w1 (by omega) (by omega) (by omega))
  have P5 := Lib.hid (fun w1 => ins_any s a b r w1 (by omega) (by omega) (by omega) (by omega))
  have P6 := Lib.hid (fun w1 => rins_any s a b r w1 (by omega) (by omega) (by omega) (by omega))
  have hel := exp_len s a b
  obtain ⟨X, eX⟩ : ∃ X, X = expL s a b := ⟨_, rfl⟩
  rw [← eX] at P3 P4 hel
  have X1 := Lib.hid (fun A A2 c c2 B w1 => texts_same X.1 A A2 X.1.length X.1.length c c2 B w1 rfl rfl (by omega))
  have CK := Lib.hid (fun w1 => known_any w1)
  have HR := Lib.hid hr
  clear hr hl h2 h4 hmem eX hel
  have H := Lib.hid ((Below.refl w.heap.size w).alloc (Nat.le_refl _) (.cells (strs [s, a, b, r]).toArray 9))
  go_enter Try.func3, Try.ntmps3
  go_wp2_with (first
    | (go_at_call 13; refine Calls.mono c1 ?_; rintro e w1 ⟨rfl, rfl⟩; clear c1)
    | (go_at_call 13; refine Calls.mono c2 ?_; rintro e w2 ⟨rfl, rfl⟩; clear c2)
    | (go_at_call 14; refine Calls.mono (P1.out _ ((HR.out.below H.out).more H.out.size)) ?_; rintro e w3 ⟨rfl, hb⟩; replace H := Lib.hid (H.out.trans (hb.mono H.out.size)); clear hb)
    | (go_at_call 15; refine Calls.mono (P2.out _ ((HR.out.below H.out).more H.out.size)) ?_; rintro e w4 ⟨rfl, hb⟩; replace H := Lib.hid (H.out.trans (hb.mono H.out.size)); clear hb)
    | (go_at_call 16; refine Calls.mono (P3.out _) ?_; rintro e w5 ⟨⟨v5, rfl, ho⟩, hb⟩; replace H := Lib.hid (H.out.trans (hb.mono H.out.size)); have HO := Lib.hid ho; clear ho hb)
    | (go_at_call 17; refine Calls.mono (P4.out _) ?_; rintro e w6 ⟨⟨v6, rfl, ho⟩, hb⟩; replace H := Lib.hid (H.out.trans (hb.mono H.out.size)); obtain ⟨A1, q1, e1, r1⟩ := (HO.out.below hb).slice; subst e1; obtain ⟨A2, q2, e2, r2⟩ := ho.slice; subst e2; have R1 := Lib.hid r1; have R2 := Lib.hid r2; clear ho hb r1 r2 HO)
    | (go_at_call 18; refine Calls.mono (P5.out _) ?_; rintro e w7 ⟨rfl, hb⟩; replace H := Lib.hid (H.out.trans (hb.mono H.out.size)); replace R1 := Lib.hid ((R1.out.below hb).more hb.size); replace R2 := Lib.hid ((R2.out.below hb).more hb.size); clear hb)
    | (go_at_call 19; refine Calls.mono (P6.out _) ?_; rintro e w8 ⟨rfl, hb⟩; replace H := Lib.hid (H.out.trans (hb.mono H.out.size)); replace R1 := Lib.hid ((R1.out.below hb).more hb.size); replace R2 := Lib.hid ((R2.out.below hb).more hb.size); clear hb)
    | (go_at_call 20; refine Calls.mono (X1.out _ _ _ _ _ _ R1.out R2.out) ?_; rintro e w9 ⟨rfl, hd⟩; have hb := hd.below; clear hd; replace H := Lib.hid (H.out.trans (hb.mono H.out.size)); clear hb)
    | (go_at_call 21; refine Calls.mono (CK.out _) ?_; rintro e w10 ⟨rfl, hb⟩; replace H := Lib.hid (H.out.trans (hb.mono H.out.size)); clear hb))
  go_ret
  exact ⟨rfl, H.out⟩
theorem tells_ (A : Option Addr) (l : List L) (c : Nat) (s1 s2 s3 s4 : ByteArray) (w : World) (hr : Rd w w.heap.size A (strs l)) (hs : ∀ x ∈ l, x.length ≤ 140737488351232) (hl : l.length * 16 ≤ 140737488351232)
    (h1 : s1.data.toList.length ≤ reachBytes) (h2 : s2.data.toList.length ≤ reachBytes) (h3 : s3.data.toList.length ≤ reachBytes) (h4 : s4.data.toList.length ≤ reachBytes) :
    Calls Try.prog 3 #[.slice A l.length c, .string s1, .string s2, .string s3, .string s4] w fun e w' => e = .returned (.bool true) ∧ Below w.heap.size w w' := by
  rw [reach_val] at h1 h2 h3 h4
  obtain ⟨s, rfl⟩ : ∃ a : L, s1 = ⟨a.toArray⟩ := ⟨_, bytes_eta s1⟩
  obtain ⟨a, rfl⟩ : ∃ a : L, s2 = ⟨a.toArray⟩ := ⟨_, bytes_eta s2⟩
  obtain ⟨b, rfl⟩ : ∃ a : L, s3 = ⟨a.toArray⟩ := ⟨_, bytes_eta s3⟩
  obtain ⟨r, rfl⟩ : ∃ a : L, s4 = ⟨a.toArray⟩ := ⟨_, bytes_eta s4⟩
  simp only at h1 h2 h3 h4
  by_cases h : 60 < l.length
  · exact tells_long l A c s a b r w h (by omega)
  · by_cases hx : 600 < sumL l
    · exact tells_large l A c s a b r w (by omega) hr hs hx
    · have h5 := sum_four s a b r
      by_cases hy : 600 < sumL [s, a, b, r]
      · exact tells_large2 l A c s a b r w (by omega) hr (by omega) hy (by omega)
      · exact tells_yes l A c s a b r w (by omega) hr (by omega) (by omega)
end Go.Proofs.Ytmgbhkhkbebfpaa.TrW
