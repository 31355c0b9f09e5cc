/-
  TransitBack walked, of texts and rows of at most 1048576.
-/
import Derived.Test.YtmgbhkhkbebfpaaTrLaw2
set_option linter.unusedVariables false
namespace Go.Proofs.Ytmgbhkhkbebfpaa.TrW
open Go.RowKit Go.Proofs.Ytmgbhkhkbebfpaa.Mem Go.Proofs.Ytmgbhkhkbebfpaa.Nm Go.Proofs.Ytmgbhkhkbebfpaa.Tr

/-- what once answers: not all are realms, too many, or these -/
theorem once_cases (l : List L) : onceR l = ([], false) ∨ (l.all isL = true ∧ 8 < (onceL l).length ∧ onceR l = (onceL l, false)) ∨ (l.all isL = true ∧ (onceL l).length ≤ 8 ∧ onceR l = (onceL l, true)) := by
  cases h : l.all isL with
  | false => exact .inl (once_bad h)
  | true =>
    by_cases h8 : (onceL l).length ≤ 8
    · exact .inr (.inr ⟨rfl, h8, by rw [once_ok h, decide_eq_true h8]⟩)
    · exact .inr (.inl ⟨rfl, by omega, by rw [once_ok h, decide_eq_false h8]⟩)
theorem sum_real {l : List L} (h : l.all isL = true) (hl : l.length ≤ 1048576) : sumL l ≤ 4000000000000000000 := by
  have h1 := sum_bound (ls := l) (k := 36) fun x hx => real_len (all_isL h hx)
  have h2 : l.length * (36 + 1) ≤ 1048576 * (36 + 1) := Nat.mul_le_mul_right _ hl
  omega
set_option maxHeartbeats 1600000 in
theorem back_bad (l : List L) (A : Option Addr) (c : Nat) (a b : L) (w : World) (hr : Rd w w.heap.size A (strs l)) (hl : l.length ≤ 1048576) (hx : ∀ x ∈ l, x.length ≤ 1048576) (h : (onceR l).2 = false) :
    Calls Try.prog 4 #[.slice A l.length c, .string ⟨a.toArray⟩, .string ⟨b.toArray⟩] w fun e w' => e = .returned (.bool true) ∧ Below w.heap.size w w' := by
  have c1 := once_any l A c w hl hr (fun i hi => by have := hx _ (pl_mem hi); omega)
  rw [h] at c1
  clear hr hl hx h
  go_enter Try.func4, Try.ntmps4
  go_wp2_with (go_at_call 22; refine Calls.mono c1 ?_; rintro e w1 ⟨v1, rfl, ho, hb⟩; have H := Lib.hid hb; clear c1 ho hb)
  go_ret
  exact ⟨rfl, H.out⟩
set_option maxHeartbeats 3200000 in
set_option maxRecDepth 100000 in
theorem back_good (l : List L) (A : Option Addr) (c : Nat) (a b : L) (w : World) (hr : Rd w w.heap.size A (strs l)) (hl : l.length ≤ 1048576) (hx : ∀ x ∈ l, x.length ≤ 1048576) (ha : a.length ≤ 1048576) (hb : b.length ≤ 1048576)
    (hall : l.all isL = true) (h8 : (onceL l).length ≤ 8) (h : onceR l = (onceL l, true)) :
    Calls Try.prog 4 #[.slice A l.length c, .string ⟨a.toArray⟩, .string ⟨b.toArray⟩] w fun e w' => e = .returned (.bool true) ∧ Below w.heap.size w w' := by
  have c1 := once_any l A c w hl hr (fun i hi => by have := hx _ (pl_mem hi); omega)
  rw [h] at c1
  have g1 := fun w1 B hr1 => large_any l A l.length c B w1 rfl (sum_real hall hl) hr1
  have hma := once_all hall
  have hmn := once_nodup l
  obtain ⟨m, em⟩ : ∃ m, m = onceL l := ⟨_, rfl⟩
  rw [← em] at c1 h8 hma hmn
  have i1 := fun w1 => ris_any a w1 (by omega)
  have i2 := fun w1 => ris_any b w1 (by omega)
  have HR := Lib.hid hr
  clear em h hr hx
  by_cases h6 : 600 < sumL l
  · rw [decide_eq_true h6] at g1
    have G1 := Lib.hid g1
    clear g1 hl hall h6 i1 i2 ha hb h8 hma hmn
    go_enter Try.func4, Try.ntmps4
    go_wp2_with (first
      | (go_at_call 22; refine Calls.mono c1 ?_; rintro e w1 ⟨v1, rfl, ho, hb⟩; have H := Lib.hid hb; have R0 := Lib.hid (HR.out.below hb); clear c1 ho hb)
      | (go_at_call 13; refine Calls.mono (G1.out _ _ R0.out) ?_; rintro e w2 ⟨rfl, rfl⟩))
    go_ret
    exact ⟨rfl, H.out⟩
  · rw [decide_eq_false h6] at g1
    have G1 := Lib.hid g1
    cases hia : isL a with
    | false =>
      rw [hia] at i1
      have I1 := Lib.hid i1
      clear g1 hl hall h6 i1 i2 ha hb h8 hma hmn hia
      go_enter Try.func4, Try.ntmps4
      go_wp2_with (first
        | (go_at_call 22; refine Calls.mono c1 ?_; rintro e w1 ⟨v1, rfl, ho, hb⟩; have H := Lib.hid hb; have R0 := Lib.hid (HR.out.below hb); clear c1 ho hb)
        | (go_at_call 13; refine Calls.mono (G1.out _ _ R0.out) ?_; rintro e w2 ⟨rfl, rfl⟩)
        | (go_at_call 23; with_reducible refine Calls.mono (I1.out _) ?_; rintro e w3 ⟨rfl, hb⟩; replace H := Lib.hid (H.out.trans (hb.mono H.out.size)); clear hb))
      go_ret
      exact ⟨rfl, H.out⟩
    | true =>
      rw [hia] at i1
      have I1 := Lib.hid i1
      cases hib : isL b with
      | false =>
        rw [hib] at i2
        have I2 := Lib.hid i2
        clear g1 hl hall h6 i1 i2 ha hb h8 hma hmn hia hib
        go_enter Try.func4, Try.ntmps4
        go_wp2_with (first
          | (go_at_call 22; refine Calls.mono c1 ?_; rintro e w1 ⟨v1, rfl, ho, hb⟩; have H := Lib.hid hb; have R0 := Lib.hid (HR.out.below hb); clear c1 ho hb)
          | (go_at_call 13; refine Calls.mono (G1.out _ _ R0.out) ?_; rintro e w2 ⟨rfl, rfl⟩)
          | (go_at_call 23; with_reducible refine Calls.mono (I1.out _) ?_; rintro e w3 ⟨rfl, hb⟩; clear I1; replace H := Lib.hid (H.out.trans (hb.mono H.out.size)); clear hb)
          | (go_at_call 23; with_reducible refine Calls.mono (I2.out _) ?_; rintro e w4 ⟨rfl, hb⟩; clear I2; replace H := Lib.hid (H.out.trans (hb.mono H.out.size)); clear hb))
        go_ret
        exact ⟨rfl, H.out⟩
      | true =>
        rw [hib] at i2
        have I2 := Lib.hid i2
        have la := real_len ((isL_iff a).1 hia)
        have lb := real_len ((isL_iff b).1 hib)
        have e200 : ¬ (200 : Int) < (a.length : Int) + (b.length : Int) := by omega
        have hco := comp_ok hma h8
        have hba := back_all hma hmn h8 hia hib
        have hcl := comp_len hma
        have p1 := fun A c w1 h1 => comp_any m A c w1 (by omega) h1 (fun i hi => by have := real_len (all_isL hma (pl_mem hi)); omega)
        rw [hco] at p1
        obtain ⟨S, eS⟩ : ∃ S, S = compT m := ⟨_, rfl⟩
        rw [← eS] at p1 hba hcl
        have p2 := fun w1 => exp_any S a b w1 (by omega) (by omega) (by omega)
        rw [hba] at p2
        have P1 := Lib.hid p1
        have P2 := Lib.hid p2
        have X1 := Lib.hid (fun A A2 c c2 B w1 => texts_same m A A2 m.length m.length c c2 B w1 rfl rfl (by omega))
        have CK := Lib.hid (fun w1 => known_any w1)
        clear g1 hl hall h6 i1 i2 ha hb h8 hma hmn hia hib hco hba hcl p1 p2 eS
        go_enter Try.func4, Try.ntmps4
        go_wp2_with (first
          | (go_at_call 22; refine Calls.mono c1 ?_; rintro e w1 ⟨v1, rfl, ho, hb⟩; have H := Lib.hid hb; have R0 := Lib.hid (HR.out.below hb); obtain ⟨A1, q1, rfl, r1⟩ := ho.slice; have R1 := Lib.hid r1; clear c1 ho hb r1)
          | (go_at_call 13; refine Calls.mono (G1.out _ _ R0.out) ?_; rintro e w2 ⟨rfl, rfl⟩; clear G1 R0)
          | (go_at_call 23; with_reducible refine Calls.mono (I1.out _) ?_; rintro e w3 ⟨rfl, hb⟩; clear I1; replace H := Lib.hid (H.out.trans (hb.mono H.out.size)); replace R1 := Lib.hid ((R1.out.below hb).more hb.size); clear hb)
          | (go_at_call 23; with_reducible refine Calls.mono (I2.out _) ?_; rintro e w4 ⟨rfl, hb⟩; clear I2; replace H := Lib.hid (H.out.trans (hb.mono H.out.size)); replace R1 := Lib.hid ((R1.out.below hb).more hb.size); clear hb)
          | (go_at_call 14; refine Calls.mono (P1.out _ _ _ R1.out) ?_; rintro e w5 ⟨rfl, hb⟩; replace H := Lib.hid (H.out.trans (hb.mono H.out.size)); replace R1 := Lib.hid ((R1.out.below hb).more hb.size); clear hb)
          | (go_at_call 16; refine Calls.mono (P2.out _) ?_; rintro e w6 ⟨⟨v6, rfl, ho⟩, hb⟩; obtain ⟨A6, q6, rfl, r6⟩ := ho.slice; have R6 := Lib.hid r6; replace H := Lib.hid (H.out.trans (hb.mono H.out.size)); replace R1 := Lib.hid ((R1.out.below hb).more hb.size); clear ho hb r6)
          | (go_at_call 20; refine Calls.mono (X1.out _ _ _ _ _ _ R6.out R1.out) ?_; rintro e w7 ⟨rfl, hd⟩; have hb := hd.below; clear hd; replace H := Lib.hid (H.out.trans (hb.mono H.out.size)); clear hb)
          | (go_at_call 21; refine Calls.mono (CK.out _) ?_; rintro e w8 ⟨rfl, hb⟩; replace H := Lib.hid (H.out.trans (hb.mono H.out.size)); clear hb))
        go_ret
        exact ⟨rfl, H.out⟩
theorem back_ (A : Option Addr) (l : List L) (c : Nat) (s1 s2 : ByteArray) (w : World) (hr : Rd w w.heap.size A (strs l)) (hl : l.length ≤ 1048576 ∧ ∀ x ∈ l, x.length ≤ 1048576) (h1 : s1.data.toList.length ≤ 1048576) (h2 : s2.data.toList.length ≤ 1048576) :
    Calls Try.prog 4 #[.slice A l.length c, .string s1, .string s2] w fun e w' => e = .returned (.bool true) ∧ Below w.heap.size w w' := by
  obtain ⟨a, rfl⟩ : ∃ a : L, s1 = ⟨a.toArray⟩ := ⟨_, bytes_eta s1⟩
  obtain ⟨b, rfl⟩ : ∃ a : L, s2 = ⟨a.toArray⟩ := ⟨_, bytes_eta s2⟩
  simp only at h1 h2
  rcases once_cases l with h | ⟨_, _, h⟩ | ⟨hall, h8, h⟩
  · exact back_bad l A c a b w hr hl.1 hl.2 (by rw [h])
  · exact back_bad l A c a b w hr hl.1 hl.2 (by rw [h])
  · exact back_good l A c a b w hr hl.1 hl.2 h1 h2 hall h8 h
end Go.Proofs.Ytmgbhkhkbebfpaa.TrW
