/-
  TransitSlashes, TransitNull and TransitFull walked.
-/
import Derived.Test.YtmgbhkhkbebfpaaTrLaw2
set_option linter.unusedVariables false
namespace Go.Proofs.Ytmgbhkhkbebfpaa.TrW
open Go.RowKit Go.Proofs.Ytmgbhkhkbebfpaa.Mem Go.Proofs.Ytmgbhkhkbebfpaa.Nm Go.Proofs.Ytmgbhkhkbebfpaa.Tr

/-! ### TransitSlashes -/
theorem slash_long (p q : L) (w : World) (hs : 100 < p.length + q.length) (h1 : p.length ≤ 140737488351232) (h2 : q.length ≤ 140737488351232) :
    Calls Try.prog 10 #[.string ⟨p.toArray⟩, .string ⟨q.toArray⟩] w fun e w' => e = .returned (.bool true) ∧ Below w.heap.size w w' := by
  have e100 : (100 : Int) < (p.length : Int) + (q.length : Int) := by omega
  have HB := Lib.hid (Below.refl w.heap.size w)
  go_enter Try.func10, Try.ntmps10
  go_wp2
  go_ret
  exact ⟨rfl, HB.out⟩
theorem slash_kind (p q : L) (w : World) (hs : p.length + q.length ≤ 100) (h : kindL p ≠ 2 ∨ (kindL p = 2 ∧ kindL q ≠ 2) ∨ (kindL p = 2 ∧ kindL q = 2 ∧ p = q)) :
    Calls Try.prog 10 #[.string ⟨p.toArray⟩, .string ⟨q.toArray⟩] w fun e w' => e = .returned (.bool true) ∧ Below w.heap.size w w' := by
  have e100 : ¬ (100 : Int) < (p.length : Int) + (q.length : Int) := by omega
  have k1 := fun w1 => rkind_any p w1 (by omega)
  have k2 := fun w1 => rkind_any q w1 (by omega)
  have H := Lib.hid (Below.refl w.heap.size w)
  rcases h with h | ⟨h, h'⟩ | ⟨h, h', h''⟩
  · have t1 : ((kindL p : Int) != 2) = true := by simp; omega
    have K1 := Lib.hid k1
    clear k1 k2 h
    go_enter Try.func10, Try.ntmps10
    go_wp2_with (go_at_call 25; with_reducible refine Calls.mono (K1.out _) ?_; rintro e w1 ⟨rfl, hb⟩; replace H := Lib.hid (H.out.trans (hb.mono H.out.size)); clear hb)
    go_ret
    exact ⟨rfl, H.out⟩
  · rw [h] at k1
    have t1 : ((kindL q : Int) != 2) = true := by simp; omega
    have K1 := Lib.hid k1
    have K2 := Lib.hid k2
    clear k1 k2 h h'
    go_enter Try.func10, Try.ntmps10
    go_wp2_with (first
      | (go_at_call 25; with_reducible refine Calls.mono (K1.out _) ?_; rintro e w1 ⟨rfl, hb⟩; replace H := Lib.hid (H.out.trans (hb.mono H.out.size)); clear hb)
      | (go_at_call 25; with_reducible refine Calls.mono (K2.out _) ?_; rintro e w2 ⟨rfl, hb⟩; replace H := Lib.hid (H.out.trans (hb.mono H.out.size)); clear hb))
    go_ret
    exact ⟨rfl, H.out⟩
  · subst h''
    rw [h] at k1
    have K1 := Lib.hid k1
    clear k1 k2 h h'
    go_enter Try.func10, Try.ntmps10
    go_wp2_with (go_at_call 25; with_reducible refine Calls.mono (K1.out _) ?_; rintro e w1 ⟨rfl, hb⟩; replace H := Lib.hid (H.out.trans (hb.mono H.out.size)); clear hb)
    go_ret
    exact ⟨rfl, H.out⟩
set_option maxHeartbeats 3200000 in
set_option maxRecDepth 100000 in
theorem slash_main (p q : L) (w : World) (hs : p.length + q.length ≤ 100) (hp : kindL p = 2) (hq : kindL q = 2) (hpq : p ≠ q) :
    Calls Try.prog 10 #[.string ⟨p.toArray⟩, .string ⟨q.toArray⟩] w fun e w' => e = .returned (.bool true) ∧ Below w.heap.size w w' := by
  have e100 : ¬ (100 : Int) < (p.length : Int) + (q.length : Int) := by omega
  have t0 : (p == q) = false := by simpa using hpq
  have k1 := fun w1 => rkind_any p w1 (by omega)
  have k2 := fun w1 => rkind_any q w1 (by omega)
  rw [hp] at k1
  rw [hq] at k2
  have K1 := Lib.hid k1
  have K2 := Lib.hid k2
  have H := Lib.hid (Below.refl w.heap.size w)
  have m1 : ByteArray.mk p.toArray ++ ByteArray.mk #[44] ++ ByteArray.mk q.toArray = ByteArray.mk (p ++ [44] ++ q).toArray := by rw [show ByteArray.mk #[44] = ByteArray.mk ([44] : L).toArray from rfl, mk_append, mk_append]
  have m2 : ByteArray.mk p.toArray ++ ByteArray.mk #[44, 32] ++ ByteArray.mk q.toArray = ByteArray.mk (p ++ [44, 32] ++ q).toArray := by rw [show ByteArray.mk #[44, 32] = ByteArray.mk ([44, 32] : L).toArray from rfl, mk_append, mk_append]
  have m3 : ByteArray.mk #[69, 68, 85, 44] ++ ByteArray.mk q.toArray = ByteArray.mk ([69, 68, 85, 44] ++ q).toArray := by rw [show ByteArray.mk #[69, 68, 85, 44] = ByteArray.mk ([69, 68, 85, 44] : L).toArray from rfl, mk_append]
  have m4 : ByteArray.mk p.toArray ++ ByteArray.mk q.toArray = ByteArray.mk (p ++ q).toArray := by rw [mk_append]
  have x1 := fun w1 => exp_any (p ++ [44] ++ q) [65] [66] w1 (by simp; omega) (by decide) (by decide)
  rw [slash_exp isA isB hp hq] at x1
  have x2 := fun w1 => exp_any (p ++ [44, 32] ++ q) [65] [66] w1 (by simp; omega) (by decide) (by decide)
  rw [slash_blank isA isB (by omega) hq hpq] at x2
  have x3 := fun w1 => exp_any ([69, 68, 85, 44] ++ q) [65] [66] w1 (by simp; omega) (by decide) (by decide)
  rw [slash_dom isA isB hq] at x3
  have hrl : (p ++ q).length ≤ 100 := by simp; omega
  obtain ⟨S1, e1⟩ : ∃ S, S = p ++ [44] ++ q := ⟨_, rfl⟩
  obtain ⟨S2, e2⟩ : ∃ S, S = p ++ [44, 32] ++ q := ⟨_, rfl⟩
  obtain ⟨S3, e3⟩ : ∃ S, S = [69, 68, 85, 44] ++ q := ⟨_, rfl⟩
  obtain ⟨R, eR⟩ : ∃ R, R = p ++ q := ⟨_, rfl⟩
  rw [← e1] at m1 x1
  rw [← e2] at m2 x2
  rw [← e3] at m3 x3
  rw [← eR] at m4 x1 hrl
  have i1 := fun w1 => ris_any R w1 (by omega)
  have CK := Lib.hid (fun w1 => known_any w1)
  have XB := Lib.hid (show ∀ w1, Calls Try.prog 16 #[.string ⟨S2.toArray⟩, .string ⟨#[65]⟩, .string ⟨#[66]⟩] w1 fun e w' => ExpV w' w1.heap.size e ([p, q], 0) ∧ Below w1.heap.size w1 w' from x2)
  have XC := Lib.hid (show ∀ w1, Calls Try.prog 16 #[.string ⟨S3.toArray⟩, .string ⟨#[65]⟩, .string ⟨#[66]⟩] w1 fun e w' => ExpV w' w1.heap.size e ([[69, 68, 85], q], 0) ∧ Below w1.heap.size w1 w' from x3)
  have T1 := Lib.hid (fun w1 A c h1 => texts_lit [p, q] A 2 c w1 rfl (by simp) h1)
  have T2 := Lib.hid (fun w1 A c h1 => texts_lit [[69, 68, 85], q] A 2 c w1 rfl (by simp) h1)
  have T3 := Lib.hid (fun w1 A c h1 => texts_lit [p, R] A 2 c w1 rfl (by simp) h1)
  clear e1 e2 e3 eR x2 x3
  cases hr : isL R with
  | false =>
    rw [hr] at i1
    rw [hr] at x1
    have I1 := Lib.hid i1
    have XA := Lib.hid (show ∀ w1, Calls Try.prog 16 #[.string ⟨S1.toArray⟩, .string ⟨#[65]⟩, .string ⟨#[66]⟩] w1 fun e w' => ExpV w' w1.heap.size e ([], 2) ∧ Below w1.heap.size w1 w' from x1)
    clear k1 k2 hp hq x1 i1 hr hpq
    go_enter Try.func10, Try.ntmps10
    go_wp2_with (first
      | (go_at_call 25; with_reducible refine Calls.mono (K1.out _) ?_; rintro e w1 ⟨rfl, hb⟩; replace H := Lib.hid (H.out.trans (hb.mono H.out.size)); clear hb)
      | (go_at_call 25; with_reducible refine Calls.mono (K2.out _) ?_; rintro e w2 ⟨rfl, hb⟩; replace H := Lib.hid (H.out.trans (hb.mono H.out.size)); clear hb)
      | (go_at_call 16; refine Calls.mono (XA.out _) ?_; rintro e w3 ⟨⟨v3, rfl, ho⟩, hb⟩; clear XA; obtain ⟨A3, q3, rfl, _⟩ := ho.slice; replace H := Lib.hid (H.out.trans (hb.mono H.out.size)); clear ho hb)
      | (go_at_call 16; refine Calls.mono (XB.out _) ?_; rintro e w4 ⟨⟨v4, rfl, ho⟩, hb⟩; clear XB; obtain ⟨A4, q4, rfl, r4⟩ := ho.slice; have R4 := Lib.hid r4; replace H := Lib.hid (H.out.trans (hb.mono H.out.size)); clear ho hb r4)
      | (go_at_call 16; refine Calls.mono (XC.out _) ?_; rintro e w5 ⟨⟨v5, rfl, ho⟩, hb⟩; clear XC; obtain ⟨A5, q5, rfl, r5⟩ := ho.slice; have R5 := Lib.hid r5; replace H := Lib.hid (H.out.trans (hb.mono H.out.size)); replace R4 := Lib.hid ((R4.out.below hb).more hb.size); clear ho hb r5)
      | (go_at_call 20; refine Calls.mono (T1.out _ _ _ R4.out) ?_; rintro e w6 ⟨rfl, hb⟩; replace H := Lib.hid (H.out.trans (hb.mono H.out.size)); replace R5 := Lib.hid ((R5.out.below hb).more hb.size); clear hb R4)
      | (go_at_call 20; refine Calls.mono (T2.out _ _ _ R5.out) ?_; rintro e w7 ⟨rfl, hb⟩; replace H := Lib.hid (H.out.trans (hb.mono H.out.size)); clear hb R5)
      | (go_at_call 23; refine Calls.mono (I1.out _) ?_; rintro e w8 ⟨rfl, hb⟩; replace H := Lib.hid (H.out.trans (hb.mono H.out.size)); clear hb)
      | (go_at_call 21; refine Calls.mono (CK.out _) ?_; rintro e w10 ⟨rfl, hb⟩; replace H := Lib.hid (H.out.trans (hb.mono H.out.size)); clear hb))
    go_ret
    exact ⟨rfl, H.out⟩
  | true =>
    rw [hr] at i1
    rw [hr] at x1
    have I1 := Lib.hid i1
    have XA := Lib.hid (show ∀ w1, Calls Try.prog 16 #[.string ⟨S1.toArray⟩, .string ⟨#[65]⟩, .string ⟨#[66]⟩] w1 fun e w' => ExpV w' w1.heap.size e ([p, R], 0) ∧ Below w1.heap.size w1 w' from x1)
    clear k1 k2 hp hq x1 i1 hr hpq
    go_enter Try.func10, Try.ntmps10
    go_wp2_with (first
      | (go_at_call 25; with_reducible refine Calls.mono (K1.out _) ?_; rintro e w1 ⟨rfl, hb⟩; replace H := Lib.hid (H.out.trans (hb.mono H.out.size)); clear hb)
      | (go_at_call 25; with_reducible refine Calls.mono (K2.out _) ?_; rintro e w2 ⟨rfl, hb⟩; replace H := Lib.hid (H.out.trans (hb.mono H.out.size)); clear hb)
      | (go_at_call 16; refine Calls.mono (XA.out _) ?_; rintro e w3 ⟨⟨v3, rfl, ho⟩, hb⟩; clear XA; obtain ⟨A3, q3, rfl, r3⟩ := ho.slice; have R3 := Lib.hid r3; replace H := Lib.hid (H.out.trans (hb.mono H.out.size)); clear ho hb r3)
      | (go_at_call 16; refine Calls.mono (XB.out _) ?_; rintro e w4 ⟨⟨v4, rfl, ho⟩, hb⟩; clear XB; obtain ⟨A4, q4, rfl, r4⟩ := ho.slice; have R4 := Lib.hid r4; replace H := Lib.hid (H.out.trans (hb.mono H.out.size)); replace R3 := Lib.hid ((R3.out.below hb).more hb.size); clear ho hb r4)
      | (go_at_call 16; refine Calls.mono (XC.out _) ?_; rintro e w5 ⟨⟨v5, rfl, ho⟩, hb⟩; clear XC; obtain ⟨A5, q5, rfl, r5⟩ := ho.slice; have R5 := Lib.hid r5; replace H := Lib.hid (H.out.trans (hb.mono H.out.size)); replace R3 := Lib.hid ((R3.out.below hb).more hb.size); replace R4 := Lib.hid ((R4.out.below hb).more hb.size); clear ho hb r5)
      | (go_at_call 20; refine Calls.mono (T1.out _ _ _ R4.out) ?_; rintro e w6 ⟨rfl, hb⟩; replace H := Lib.hid (H.out.trans (hb.mono H.out.size)); replace R3 := Lib.hid ((R3.out.below hb).more hb.size); replace R5 := Lib.hid ((R5.out.below hb).more hb.size); clear hb R4)
      | (go_at_call 20; refine Calls.mono (T2.out _ _ _ R5.out) ?_; rintro e w7 ⟨rfl, hb⟩; replace H := Lib.hid (H.out.trans (hb.mono H.out.size)); replace R3 := Lib.hid ((R3.out.below hb).more hb.size); clear hb R5)
      | (go_at_call 23; refine Calls.mono (I1.out _) ?_; rintro e w8 ⟨rfl, hb⟩; replace H := Lib.hid (H.out.trans (hb.mono H.out.size)); replace R3 := Lib.hid ((R3.out.below hb).more hb.size); clear hb)
      | (go_at_call 20; refine Calls.mono (T3.out _ _ _ R3.out) ?_; rintro e w9 ⟨rfl, hb⟩; replace H := Lib.hid (H.out.trans (hb.mono H.out.size)); clear hb R3)
      | (go_at_call 21; refine Calls.mono (CK.out _) ?_; rintro e w10 ⟨rfl, hb⟩; replace H := Lib.hid (H.out.trans (hb.mono H.out.size)); clear hb))
    go_ret
    exact ⟨rfl, H.out⟩
theorem slash_ (s1 s2 : ByteArray) (w : World) (h1 : s1.data.toList.length ≤ reachBytes) (h2 : s2.data.toList.length ≤ reachBytes) :
    Calls Try.prog 10 #[.string s1, .string s2] w fun e w' => e = .returned (.bool true) ∧ Below w.heap.size w w' := by
  rw [reach_val] at h1 h2
  obtain ⟨p, rfl⟩ : ∃ a : L, s1 = ⟨a.toArray⟩ := ⟨_, bytes_eta s1⟩
  obtain ⟨q, rfl⟩ : ∃ a : L, s2 = ⟨a.toArray⟩ := ⟨_, bytes_eta s2⟩
  simp only at h1 h2
  by_cases h : p.length + q.length ≤ 100
  · by_cases hp : kindL p = 2
    · by_cases hq : kindL q = 2
      · by_cases hpq : p = q
        · exact slash_kind p q w h (.inr (.inr ⟨hp, hq, hpq⟩))
        · exact slash_main p q w h hp hq hpq
      · exact slash_kind p q w h (.inr (.inl ⟨hp, hq⟩))
    · exact slash_kind p q w h (.inl hp)
  · exact slash_long p q w (by omega) h1 h2
end Go.Proofs.Ytmgbhkhkbebfpaa.TrW
