/-
  TransitNull walked.
-/
import Derived.Test.YtmgbhkhkbebfpaaTrLaw2
set_option linter.unusedVariables false
namespace Go.Proofs.Ytmgbhkhkbebfpaa.TrW
open Go.RowKit Go.Proofs.Ytmgbhkhkbebfpaa.Mem Go.Proofs.Ytmgbhkhkbebfpaa.Nm Go.Proofs.Ytmgbhkhkbebfpaa.Tr
attribute [local go_sem] mk_at List.getElem_cons_zero List.getElem_cons_succ

theorem null_large (a b r : L) (z : Int) (w : World) (h2 : 600 < sumL [a, b, r]) (hm : sumL [a, b, r] ≤ 4000000000000000000) :
    Calls Try.prog 6 #[.string ⟨a.toArray⟩, .string ⟨b.toArray⟩, .string ⟨r.toArray⟩, .int .i64 z] w fun e w' => e = .returned (.bool true) ∧ Below w.heap.size w w' := by
  have HB := Lib.hid (lits_below w [a, b, r])
  have c2 := large_any [a, b, r] _ 3 3 _ _ rfl hm (lits_rd w [a, b, r])
  rw [decide_eq_true h2] at c2
  clear hm h2
  go_enter Try.func6, Try.ntmps6
  go_wp2_with (go_at_call 13; refine Calls.mono c2 ?_; rintro e w2 ⟨rfl, rfl⟩; clear c2)
  go_ret
  exact ⟨rfl, HB.out⟩
set_option maxHeartbeats 1600000 in
theorem null_none (a b r : L) (z : Int) (w : World) (h2 : sumL [a, b, r] ≤ 600) (h : isL a = false ∨ (isL a = true ∧ isL b = false) ∨ (isL a = true ∧ isL b = true ∧ isL r = false)) :
    Calls Try.prog 6 #[.string ⟨a.toArray⟩, .string ⟨b.toArray⟩, .string ⟨r.toArray⟩, .int .i64 z] w fun e w' => e = .returned (.bool true) ∧ Below w.heap.size w w' := by
  have H := Lib.hid (lits_below w [a, b, r])
  have c2 := large_any [a, b, r] _ 3 3 _ _ rfl (by omega) (lits_rd w [a, b, r])
  rw [decide_eq_false (by omega)] at c2
  have h3 := sum_three a b r
  have i1 := fun w1 => ris_any a w1 (by omega)
  have i2 := fun w1 => ris_any b w1 (by omega)
  have i3 := fun w1 => ris_any r w1 (by omega)
  rcases h with h | ⟨h, h'⟩ | ⟨h, h', h''⟩
  · rw [h] at i1
    have I1 := Lib.hid i1
    clear h2 h3 i1 i2 i3 h
    go_enter Try.func6, Try.ntmps6
    go_wp2_with (first
      | (go_at_call 13; refine Calls.mono c2 ?_; rintro e w2 ⟨rfl, rfl⟩; clear c2)
      | (go_at_call 23; with_reducible refine Calls.mono (I1.out _) ?_; rintro e w3 ⟨rfl, hb⟩; replace H := Lib.hid (H.out.trans (hb.mono H.out.size)); clear hb))
    go_ret
    exact ⟨rfl, H.out⟩
  · rw [h] at i1
    rw [h'] at i2
    have I1 := Lib.hid i1
    have I2 := Lib.hid i2
    clear h2 h3 i1 i2 i3 h h'
    go_enter Try.func6, Try.ntmps6
    go_wp2_with (first
      | (go_at_call 13; refine Calls.mono c2 ?_; rintro e w2 ⟨rfl, rfl⟩; clear c2)
      | (go_at_call 23; with_reducible refine Calls.mono (I1.out _) ?_; rintro e w3 ⟨rfl, hb⟩; replace H := Lib.hid (H.out.trans (hb.mono H.out.size)); clear hb)
      | (go_at_call 23; with_reducible refine Calls.mono (I2.out _) ?_; rintro e w4 ⟨rfl, hb⟩; replace H := Lib.hid (H.out.trans (hb.mono H.out.size)); clear hb))
    go_ret
    exact ⟨rfl, H.out⟩
  · rw [h] at i1
    rw [h'] at i2
    rw [h''] at i3
    have I1 := Lib.hid i1
    have I2 := Lib.hid i2
    have I3 := Lib.hid i3
    clear h2 h3 i1 i2 i3 h h' h''
    go_enter Try.func6, Try.ntmps6
    go_wp2_with (first
      | (go_at_call 13; refine Calls.mono c2 ?_; rintro e w2 ⟨rfl, rfl⟩; clear c2)
      | (go_at_call 23; with_reducible refine Calls.mono (I1.out _) ?_; rintro e w3 ⟨rfl, hb⟩; replace H := Lib.hid (H.out.trans (hb.mono H.out.size)); clear hb)
      | (go_at_call 23; with_reducible refine Calls.mono (I2.out _) ?_; rintro e w4 ⟨rfl, hb⟩; replace H := Lib.hid (H.out.trans (hb.mono H.out.size)); clear hb)
      | (go_at_call 23; with_reducible refine Calls.mono (I3.out _) ?_; rintro e w5 ⟨rfl, hb⟩; replace H := Lib.hid (H.out.trans (hb.mono H.out.size)); clear hb))
    go_ret
    exact ⟨rfl, H.out⟩
set_option maxHeartbeats 1600000 in
theorem null_where (a b r : L) (z : Int) (w : World) (h2 : sumL [a, b, r] ≤ 600) (ha : isL a = true) (hb : isL b = true) (hr : isL r = true) (hz : z < 0 ∨ 2 < z) :
    Calls Try.prog 6 #[.string ⟨a.toArray⟩, .string ⟨b.toArray⟩, .string ⟨r.toArray⟩, .int .i64 z] w fun e w' => e = .returned (.bool true) ∧ Below w.heap.size w w' := by
  have H := Lib.hid (lits_below w [a, b, r])
  have c2 := large_any [a, b, r] _ 3 3 _ _ rfl (by omega) (lits_rd w [a, b, r])
  rw [decide_eq_false (by omega)] at c2
  have h3 := sum_three a b r
  have i1 := fun w1 => ris_any a w1 (by omega)
  have i2 := fun w1 => ris_any b w1 (by omega)
  have i3 := fun w1 => ris_any r w1 (by omega)
  rw [ha] at i1
  rw [hb] at i2
  rw [hr] at i3
  have I1 := Lib.hid i1
  have I2 := Lib.hid i2
  have I3 := Lib.hid i3
  have hr0 : 0 < r.length := by
    have := ne_of_kind ((isL_iff r).1 hr)
    cases r with
    | nil => exact absurd rfl this
    | cons x t => simp
  have t0 := pre_at hr0
  have er0 : (0 : Int) < (r.length : Int) := by omega
  have er6 : r.length ≤ 600 := by omega
  clear h2 h3 i1 i2 i3 ha hb hr t0 er0 hr0
  by_cases h0 : z < 0
  · have g1 : decide (z < 0) = true := decide_eq_true h0
    clear hz
    go_enter Try.func6, Try.ntmps6
    go_wp2_with (first
      | (go_at_call 13; refine Calls.mono c2 ?_; rintro e w2 ⟨rfl, rfl⟩; clear c2)
      | (go_at_call 23; with_reducible refine Calls.mono (I1.out _) ?_; rintro e w3 ⟨rfl, hb⟩; clear I1; replace H := Lib.hid (H.out.trans (hb.mono H.out.size)); clear hb)
      | (go_at_call 23; with_reducible refine Calls.mono (I2.out _) ?_; rintro e w4 ⟨rfl, hb⟩; clear I2; replace H := Lib.hid (H.out.trans (hb.mono H.out.size)); clear hb)
      | (go_at_call 23; with_reducible refine Calls.mono (I3.out _) ?_; rintro e w5 ⟨rfl, hb⟩; clear I3; replace H := Lib.hid (H.out.trans (hb.mono H.out.size)); clear hb))
    go_ret
    exact ⟨rfl, H.out⟩
  · have g1 : decide (z < 0) = false := decide_eq_false h0
    have g2 : decide (2 < z) = true := decide_eq_true (hz.resolve_left h0)
    clear hz
    go_enter Try.func6, Try.ntmps6
    go_wp2_with (first
      | (go_at_call 13; refine Calls.mono c2 ?_; rintro e w2 ⟨rfl, rfl⟩; clear c2)
      | (go_at_call 23; with_reducible refine Calls.mono (I1.out _) ?_; rintro e w3 ⟨rfl, hb⟩; clear I1; replace H := Lib.hid (H.out.trans (hb.mono H.out.size)); clear hb)
      | (go_at_call 23; with_reducible refine Calls.mono (I2.out _) ?_; rintro e w4 ⟨rfl, hb⟩; clear I2; replace H := Lib.hid (H.out.trans (hb.mono H.out.size)); clear hb)
      | (go_at_call 23; with_reducible refine Calls.mono (I3.out _) ?_; rintro e w5 ⟨rfl, hb⟩; clear I3; replace H := Lib.hid (H.out.trans (hb.mono H.out.size)); clear hb))
    go_ret
    exact ⟨rfl, H.out⟩
set_option maxHeartbeats 1600000 in
theorem null_slash1 (a b r : L) (w : World) (h2 : sumL [a, b, r] ≤ 600) (ha : isL a = true) (hb : isL b = true) (hr : isL r = true) (hs : preB [47] r = true) :
    Calls Try.prog 6 #[.string ⟨a.toArray⟩, .string ⟨b.toArray⟩, .string ⟨r.toArray⟩, .int .i64 1] w fun e w' => e = .returned (.bool true) ∧ Below w.heap.size w w' := by
  have H := Lib.hid (lits_below w [a, b, r])
  have c2 := large_any [a, b, r] _ 3 3 _ _ rfl (by omega) (lits_rd w [a, b, r])
  rw [decide_eq_false (by omega)] at c2
  have h3 := sum_three a b r
  have i1 := fun w1 => ris_any a w1 (by omega)
  have i2 := fun w1 => ris_any b w1 (by omega)
  have i3 := fun w1 => ris_any r w1 (by omega)
  rw [ha] at i1
  rw [hb] at i2
  rw [hr] at i3
  have I1 := Lib.hid i1
  have I2 := Lib.hid i2
  have I3 := Lib.hid i3
  have hr0 : 0 < r.length := by
    have := ne_of_kind ((isL_iff r).1 hr)
    cases r with
    | nil => exact absurd rfl this
    | cons x t => simp
  have t0 := pre_at hr0
  have er0 : (0 : Int) < (r.length : Int) := by omega
  have er6 : r.length ≤ 600 := by omega
  rw [hs] at t0
  clear h2 h3 i1 i2 i3 ha hb hr hs
  go_enter Try.func6, Try.ntmps6
  go_wp2_with (first
    | (go_at_call 13; refine Calls.mono c2 ?_; rintro e w2 ⟨rfl, rfl⟩; clear c2)
    | (go_at_call 23; with_reducible refine Calls.mono (I1.out _) ?_; rintro e w3 ⟨rfl, hb⟩; clear I1; replace H := Lib.hid (H.out.trans (hb.mono H.out.size)); clear hb)
    | (go_at_call 23; with_reducible refine Calls.mono (I2.out _) ?_; rintro e w4 ⟨rfl, hb⟩; clear I2; replace H := Lib.hid (H.out.trans (hb.mono H.out.size)); clear hb)
    | (go_at_call 23; with_reducible refine Calls.mono (I3.out _) ?_; rintro e w5 ⟨rfl, hb⟩; clear I3; replace H := Lib.hid (H.out.trans (hb.mono H.out.size)); clear hb))
  go_ret
  exact ⟨rfl, H.out⟩
set_option maxHeartbeats 1600000 in
theorem null_slash2 (a b r : L) (w : World) (h2 : sumL [a, b, r] ≤ 600) (ha : isL a = true) (hb : isL b = true) (hr : isL r = true) (hs : preB [47] r = true) :
    Calls Try.prog 6 #[.string ⟨a.toArray⟩, .string ⟨b.toArray⟩, .string ⟨r.toArray⟩, .int .i64 2] w fun e w' => e = .returned (.bool true) ∧ Below w.heap.size w w' := by
  have H := Lib.hid (lits_below w [a, b, r])
  have c2 := large_any [a, b, r] _ 3 3 _ _ rfl (by omega) (lits_rd w [a, b, r])
  rw [decide_eq_false (by omega)] at c2
  have h3 := sum_three a b r
  have i1 := fun w1 => ris_any a w1 (by omega)
  have i2 := fun w1 => ris_any b w1 (by omega)
  have i3 := fun w1 => ris_any r w1 (by omega)
  rw [ha] at i1
  rw [hb] at i2
  rw [hr] at i3
  have I1 := Lib.hid i1
  have I2 := Lib.hid i2
  have I3 := Lib.hid i3
  have hr0 : 0 < r.length := by
    have := ne_of_kind ((isL_iff r).1 hr)
    cases r with
    | nil => exact absurd rfl this
    | cons x t => simp
  have t0 := pre_at hr0
  have er0 : (0 : Int) < (r.length : Int) := by omega
  have er6 : r.length ≤ 600 := by omega
  rw [hs] at t0
  clear h2 h3 i1 i2 i3 ha hb hr hs
  go_enter Try.func6, Try.ntmps6
  go_wp2_with (first
    | (go_at_call 13; refine Calls.mono c2 ?_; rintro e w2 ⟨rfl, rfl⟩; clear c2)
    | (go_at_call 23; with_reducible refine Calls.mono (I1.out _) ?_; rintro e w3 ⟨rfl, hb⟩; clear I1; replace H := Lib.hid (H.out.trans (hb.mono H.out.size)); clear hb)
    | (go_at_call 23; with_reducible refine Calls.mono (I2.out _) ?_; rintro e w4 ⟨rfl, hb⟩; clear I2; replace H := Lib.hid (H.out.trans (hb.mono H.out.size)); clear hb)
    | (go_at_call 23; with_reducible refine Calls.mono (I3.out _) ?_; rintro e w5 ⟨rfl, hb⟩; clear I3; replace H := Lib.hid (H.out.trans (hb.mono H.out.size)); clear hb))
  go_ret
  exact ⟨rfl, H.out⟩
set_option maxHeartbeats 3200000 in
set_option maxRecDepth 100000 in
theorem null_main0t (a b r : L) (w : World) (h2 : sumL [a, b, r] ≤ 600) (ha : isL a = true) (hb : isL b = true) (hr : isL r = true) (hs : preB [47] r = true) :
    Calls Try.prog 6 #[.string ⟨a.toArray⟩, .string ⟨b.toArray⟩, .string ⟨r.toArray⟩, .int .i64 0] w fun e w' => e = .returned (.bool true) ∧ Below w.heap.size w w' := by
  have H := Lib.hid (lits_below w [a, b, r])
  have c2 := large_any [a, b, r] _ 3 3 _ _ rfl (by omega) (lits_rd w [a, b, r])
  rw [decide_eq_false (by omega)] at c2
  have h3 := sum_three a b r
  have i1 := fun w1 => ris_any a w1 (by omega)
  have i2 := fun w1 => ris_any b w1 (by omega)
  have i3 := fun w1 => ris_any r w1 (by omega)
  rw [ha] at i1
  rw [hb] at i2
  rw [hr] at i3
  have I1 := Lib.hid i1
  have I2 := Lib.hid i2
  have I3 := Lib.hid i3
  have hr0 : 0 < r.length := by
    have := ne_of_kind ((isL_iff r).1 hr)
    cases r with
    | nil => exact absurd rfl this
    | cons x t => simp
  have t0 := pre_at hr0
  have er0 : (0 : Int) < (r.length : Int) := by omega
  have er6 : r.length ≤ 600 := by omega
  rw [hs] at t0
  have x1 := fun w1 => exp_any ([44]) a b w1 (by simp) (by omega) (by omega)
  rw [null_zero ha hb] at x1
  have b1 := fun w1 => rbetween_any a b w1 (by omega) (by omega)
  have hbl := between_len a b
  have hwa : (betweenL a b).all isL = true := by
    have h1 := all_between a b
    exact h1
  obtain ⟨M, eM⟩ : ∃ M, M = betweenL a b := ⟨_, rfl⟩
  rw [← eM] at x1 b1 hbl hwa
  clear eM
  obtain ⟨W, eW⟩ : ∃ W, W = M := ⟨_, rfl⟩
  rw [← eW] at x1 b1 hbl hwa
  have hwl : W.length ≤ 10 := by omega
  clear eW
  have ML := Lib.hid hbl
  have BT := Lib.hid b1
  have o1 := fun A c w1 hrd => once_any W A c w1 (by omega) hrd (fun i hi => by have := real_len (all_isL hwa (pl_mem hi)); omega)
  have CK := Lib.hid (fun w1 => known_any w1)
  have hoe := once_ok hwa
  obtain ⟨O, eO⟩ : ∃ O, O = onceL W := ⟨_, rfl⟩
  rw [← eO] at hoe x1
  rw [hoe] at o1
  clear eO hoe hbl b1
  by_cases h8 : O.length ≤ 8
  · rw [decide_eq_true h8] at o1
    rw [over_ok h8] at x1
    have OA := Lib.hid o1
    have XA := Lib.hid (show ∀ w1, Calls Try.prog 16 #[.string ⟨#[44]⟩, .string ⟨a.toArray⟩, .string ⟨b.toArray⟩] w1 fun e w' => ExpV w' w1.heap.size e (O, 0) ∧ Below w1.heap.size w1 w' from x1)
    have X1 := Lib.hid (fun A A2 c c2 B w1 => texts_same O A A2 O.length O.length c c2 B w1 rfl rfl (by omega))
    clear h2 h3 i1 i2 i3 ha hb hr o1 x1 h8 hwl hwa hs
    go_enter Try.func6, Try.ntmps6
    go_wp2_with (first
      | (go_at_call 13; refine Calls.mono c2 ?_; rintro e w2 ⟨rfl, rfl⟩; clear c2)
      | (go_at_call 23; with_reducible refine Calls.mono (I1.out _) ?_; rintro e w3 ⟨rfl, hb⟩; clear I1; replace H := Lib.hid (H.out.trans (hb.mono H.out.size)); clear hb)
      | (go_at_call 23; with_reducible refine Calls.mono (I2.out _) ?_; rintro e w4 ⟨rfl, hb⟩; clear I2; replace H := Lib.hid (H.out.trans (hb.mono H.out.size)); clear hb)
      | (go_at_call 23; with_reducible refine Calls.mono (I3.out _) ?_; rintro e w5 ⟨rfl, hb⟩; clear I3; replace H := Lib.hid (H.out.trans (hb.mono H.out.size)); clear hb)
      | (go_at_call 24; refine Calls.mono (BT.out _) ?_; rintro e w6 ⟨v6, rfl, ho, hb⟩; obtain ⟨A6, q6, rfl, r6⟩ := ho.slice; have RW := Lib.hid r6; replace H := Lib.hid (H.out.trans (hb.mono H.out.size)); clear ho hb r6)
      | (go_at_call 22; refine Calls.mono (OA.out _ _ _ RW.out) ?_; rintro e w8 ⟨v8, rfl, ho, hb⟩; obtain ⟨A8, q8, rfl, r8⟩ := ho.slice; have R8 := Lib.hid r8; replace H := Lib.hid (H.out.trans (hb.mono H.out.size)); clear ho hb r8)
      | (go_at_call 16; refine Calls.mono (XA.out _) ?_; rintro e w9 ⟨⟨v9, rfl, ho⟩, hb⟩; obtain ⟨A9, q9, rfl, r9⟩ := ho.slice; have R9 := Lib.hid r9; replace H := Lib.hid (H.out.trans (hb.mono H.out.size)); replace R8 := Lib.hid ((R8.out.below hb).more hb.size); clear ho hb r9)
      | (go_at_call 20; refine Calls.mono (X1.out _ _ _ _ _ _ R9.out R8.out) ?_; rintro e w10 ⟨rfl, hd⟩; have hb := hd.below; clear hd; replace H := Lib.hid (H.out.trans (hb.mono H.out.size)); clear hb)
      | (go_at_call 21; refine Calls.mono (CK.out _) ?_; rintro e w11 ⟨rfl, hb⟩; replace H := Lib.hid (H.out.trans (hb.mono H.out.size)); clear hb))
    go_ret
    exact ⟨rfl, H.out⟩
  · rw [decide_eq_false h8] at o1
    rw [over_full (by omega)] at x1
    have OA := Lib.hid o1
    have XA := Lib.hid (show ∀ w1, Calls Try.prog 16 #[.string ⟨#[44]⟩, .string ⟨a.toArray⟩, .string ⟨b.toArray⟩] w1 fun e w' => ExpV w' w1.heap.size e ([], 13) ∧ Below w1.heap.size w1 w' from x1)
    clear h2 h3 i1 i2 i3 ha hb hr o1 x1 h8 hwl hwa hs
    go_enter Try.func6, Try.ntmps6
    go_wp2_with (first
      | (go_at_call 13; refine Calls.mono c2 ?_; rintro e w2 ⟨rfl, rfl⟩; clear c2)
      | (go_at_call 23; with_reducible refine Calls.mono (I1.out _) ?_; rintro e w3 ⟨rfl, hb⟩; clear I1; replace H := Lib.hid (H.out.trans (hb.mono H.out.size)); clear hb)
      | (go_at_call 23; with_reducible refine Calls.mono (I2.out _) ?_; rintro e w4 ⟨rfl, hb⟩; clear I2; replace H := Lib.hid (H.out.trans (hb.mono H.out.size)); clear hb)
      | (go_at_call 23; with_reducible refine Calls.mono (I3.out _) ?_; rintro e w5 ⟨rfl, hb⟩; clear I3; replace H := Lib.hid (H.out.trans (hb.mono H.out.size)); clear hb)
      | (go_at_call 24; refine Calls.mono (BT.out _) ?_; rintro e w6 ⟨v6, rfl, ho, hb⟩; obtain ⟨A6, q6, rfl, r6⟩ := ho.slice; have RW := Lib.hid r6; replace H := Lib.hid (H.out.trans (hb.mono H.out.size)); clear ho hb r6)
      | (go_at_call 22; refine Calls.mono (OA.out _ _ _ RW.out) ?_; rintro e w8 ⟨v8, rfl, ho, hb⟩; replace H := Lib.hid (H.out.trans (hb.mono H.out.size)); clear ho hb)
      | (go_at_call 16; refine Calls.mono (XA.out _) ?_; rintro e w9 ⟨⟨v9, rfl, ho⟩, hb⟩; obtain ⟨A9, q9, rfl, _⟩ := ho.slice; replace H := Lib.hid (H.out.trans (hb.mono H.out.size)); clear ho hb)
      | (go_at_call 21; refine Calls.mono (CK.out _) ?_; rintro e w11 ⟨rfl, hb⟩; replace H := Lib.hid (H.out.trans (hb.mono H.out.size)); clear hb))
    go_ret
    exact ⟨rfl, H.out⟩
set_option maxHeartbeats 3200000 in
set_option maxRecDepth 100000 in
theorem null_main0f (a b r : L) (w : World) (h2 : sumL [a, b, r] ≤ 600) (ha : isL a = true) (hb : isL b = true) (hr : isL r = true) (hs : preB [47] r = false) :
    Calls Try.prog 6 #[.string ⟨a.toArray⟩, .string ⟨b.toArray⟩, .string ⟨r.toArray⟩, .int .i64 0] w fun e w' => e = .returned (.bool true) ∧ Below w.heap.size w w' := by
  have H := Lib.hid (lits_below w [a, b, r])
  have c2 := large_any [a, b, r] _ 3 3 _ _ rfl (by omega) (lits_rd w [a, b, r])
  rw [decide_eq_false (by omega)] at c2
  have h3 := sum_three a b r
  have i1 := fun w1 => ris_any a w1 (by omega)
  have i2 := fun w1 => ris_any b w1 (by omega)
  have i3 := fun w1 => ris_any r w1 (by omega)
  rw [ha] at i1
  rw [hb] at i2
  rw [hr] at i3
  have I1 := Lib.hid i1
  have I2 := Lib.hid i2
  have I3 := Lib.hid i3
  have hr0 : 0 < r.length := by
    have := ne_of_kind ((isL_iff r).1 hr)
    cases r with
    | nil => exact absurd rfl this
    | cons x t => simp
  have t0 := pre_at hr0
  have er0 : (0 : Int) < (r.length : Int) := by omega
  have er6 : r.length ≤ 600 := by omega
  rw [hs] at t0
  have x1 := fun w1 => exp_any ([44]) a b w1 (by simp) (by omega) (by omega)
  rw [null_zero ha hb] at x1
  have b1 := fun w1 => rbetween_any a b w1 (by omega) (by omega)
  have hbl := between_len a b
  have hwa : (betweenL a b).all isL = true := by
    have h1 := all_between a b
    exact h1
  obtain ⟨M, eM⟩ : ∃ M, M = betweenL a b := ⟨_, rfl⟩
  rw [← eM] at x1 b1 hbl hwa
  clear eM
  obtain ⟨W, eW⟩ : ∃ W, W = M := ⟨_, rfl⟩
  rw [← eW] at x1 b1 hbl hwa
  have hwl : W.length ≤ 10 := by omega
  clear eW
  have ML := Lib.hid hbl
  have BT := Lib.hid b1
  have o1 := fun A c w1 hrd => once_any W A c w1 (by omega) hrd (fun i hi => by have := real_len (all_isL hwa (pl_mem hi)); omega)
  have CK := Lib.hid (fun w1 => known_any w1)
  have hoe := once_ok hwa
  obtain ⟨O, eO⟩ : ∃ O, O = onceL W := ⟨_, rfl⟩
  rw [← eO] at hoe x1
  rw [hoe] at o1
  clear eO hoe hbl b1
  by_cases h8 : O.length ≤ 8
  · rw [decide_eq_true h8] at o1
    rw [over_ok h8] at x1
    have OA := Lib.hid o1
    have XA := Lib.hid (show ∀ w1, Calls Try.prog 16 #[.string ⟨#[44]⟩, .string ⟨a.toArray⟩, .string ⟨b.toArray⟩] w1 fun e w' => ExpV w' w1.heap.size e (O, 0) ∧ Below w1.heap.size w1 w' from x1)
    have X1 := Lib.hid (fun A A2 c c2 B w1 => texts_same O A A2 O.length O.length c c2 B w1 rfl rfl (by omega))
    clear h2 h3 i1 i2 i3 ha hb hr o1 x1 h8 hwl hwa hs
    go_enter Try.func6, Try.ntmps6
    go_wp2_with (first
      | (go_at_call 13; refine Calls.mono c2 ?_; rintro e w2 ⟨rfl, rfl⟩; clear c2)
      | (go_at_call 23; with_reducible refine Calls.mono (I1.out _) ?_; rintro e w3 ⟨rfl, hb⟩; clear I1; replace H := Lib.hid (H.out.trans (hb.mono H.out.size)); clear hb)
      | (go_at_call 23; with_reducible refine Calls.mono (I2.out _) ?_; rintro e w4 ⟨rfl, hb⟩; clear I2; replace H := Lib.hid (H.out.trans (hb.mono H.out.size)); clear hb)
      | (go_at_call 23; with_reducible refine Calls.mono (I3.out _) ?_; rintro e w5 ⟨rfl, hb⟩; clear I3; replace H := Lib.hid (H.out.trans (hb.mono H.out.size)); clear hb)
      | (go_at_call 24; refine Calls.mono (BT.out _) ?_; rintro e w6 ⟨v6, rfl, ho, hb⟩; obtain ⟨A6, q6, rfl, r6⟩ := ho.slice; have RW := Lib.hid r6; replace H := Lib.hid (H.out.trans (hb.mono H.out.size)); clear ho hb r6)
      | (go_at_call 22; refine Calls.mono (OA.out _ _ _ RW.out) ?_; rintro e w8 ⟨v8, rfl, ho, hb⟩; obtain ⟨A8, q8, rfl, r8⟩ := ho.slice; have R8 := Lib.hid r8; replace H := Lib.hid (H.out.trans (hb.mono H.out.size)); clear ho hb r8)
      | (go_at_call 16; refine Calls.mono (XA.out _) ?_; rintro e w9 ⟨⟨v9, rfl, ho⟩, hb⟩; obtain ⟨A9, q9, rfl, r9⟩ := ho.slice; have R9 := Lib.hid r9; replace H := Lib.hid (H.out.trans (hb.mono H.out.size)); replace R8 := Lib.hid ((R8.out.below hb).more hb.size); clear ho hb r9)
      | (go_at_call 20; refine Calls.mono (X1.out _ _ _ _ _ _ R9.out R8.out) ?_; rintro e w10 ⟨rfl, hd⟩; have hb := hd.below; clear hd; replace H := Lib.hid (H.out.trans (hb.mono H.out.size)); clear hb)
      | (go_at_call 21; refine Calls.mono (CK.out _) ?_; rintro e w11 ⟨rfl, hb⟩; replace H := Lib.hid (H.out.trans (hb.mono H.out.size)); clear hb))
    go_ret
    exact ⟨rfl, H.out⟩
  · rw [decide_eq_false h8] at o1
    rw [over_full (by omega)] at x1
    have OA := Lib.hid o1
    have XA := Lib.hid (show ∀ w1, Calls Try.prog 16 #[.string ⟨#[44]⟩, .string ⟨a.toArray⟩, .string ⟨b.toArray⟩] w1 fun e w' => ExpV w' w1.heap.size e ([], 13) ∧ Below w1.heap.size w1 w' from x1)
    clear h2 h3 i1 i2 i3 ha hb hr o1 x1 h8 hwl hwa hs
    go_enter Try.func6, Try.ntmps6
    go_wp2_with (first
      | (go_at_call 13; refine Calls.mono c2 ?_; rintro e w2 ⟨rfl, rfl⟩; clear c2)
      | (go_at_call 23; with_reducible refine Calls.mono (I1.out _) ?_; rintro e w3 ⟨rfl, hb⟩; clear I1; replace H := Lib.hid (H.out.trans (hb.mono H.out.size)); clear hb)
      | (go_at_call 23; with_reducible refine Calls.mono (I2.out _) ?_; rintro e w4 ⟨rfl, hb⟩; clear I2; replace H := Lib.hid (H.out.trans (hb.mono H.out.size)); clear hb)
      | (go_at_call 23; with_reducible refine Calls.mono (I3.out _) ?_; rintro e w5 ⟨rfl, hb⟩; clear I3; replace H := Lib.hid (H.out.trans (hb.mono H.out.size)); clear hb)
      | (go_at_call 24; refine Calls.mono (BT.out _) ?_; rintro e w6 ⟨v6, rfl, ho, hb⟩; obtain ⟨A6, q6, rfl, r6⟩ := ho.slice; have RW := Lib.hid r6; replace H := Lib.hid (H.out.trans (hb.mono H.out.size)); clear ho hb r6)
      | (go_at_call 22; refine Calls.mono (OA.out _ _ _ RW.out) ?_; rintro e w8 ⟨v8, rfl, ho, hb⟩; replace H := Lib.hid (H.out.trans (hb.mono H.out.size)); clear ho hb)
      | (go_at_call 16; refine Calls.mono (XA.out _) ?_; rintro e w9 ⟨⟨v9, rfl, ho⟩, hb⟩; obtain ⟨A9, q9, rfl, _⟩ := ho.slice; replace H := Lib.hid (H.out.trans (hb.mono H.out.size)); clear ho hb)
      | (go_at_call 21; refine Calls.mono (CK.out _) ?_; rintro e w11 ⟨rfl, hb⟩; replace H := Lib.hid (H.out.trans (hb.mono H.out.size)); clear hb))
    go_ret
    exact ⟨rfl, H.out⟩
set_option maxHeartbeats 3200000 in
set_option maxRecDepth 100000 in
theorem null_main1 (a b r : L) (w : World) (h2 : sumL [a, b, r] ≤ 600) (ha : isL a = true) (hb : isL b = true) (hr : isL r = true) (hs : preB [47] r = false) :
    Calls Try.prog 6 #[.string ⟨a.toArray⟩, .string ⟨b.toArray⟩, .string ⟨r.toArray⟩, .int .i64 1] w fun e w' => e = .returned (.bool true) ∧ Below w.heap.size w w' := by
  have H := Lib.hid (lits_below w [a, b, r])
  have c2 := large_any [a, b, r] _ 3 3 _ _ rfl (by omega) (lits_rd w [a, b, r])
  rw [decide_eq_false (by omega)] at c2
  have h3 := sum_three a b r
  have i1 := fun w1 => ris_any a w1 (by omega)
  have i2 := fun w1 => ris_any b w1 (by omega)
  have i3 := fun w1 => ris_any r w1 (by omega)
  rw [ha] at i1
  rw [hb] at i2
  rw [hr] at i3
  have I1 := Lib.hid i1
  have I2 := Lib.hid i2
  have I3 := Lib.hid i3
  have hr0 : 0 < r.length := by
    have := ne_of_kind ((isL_iff r).1 hr)
    cases r with
    | nil => exact absurd rfl this
    | cons x t => simp
  have t0 := pre_at hr0
  have er0 : (0 : Int) < (r.length : Int) := by omega
  have er6 : r.length ≤ 600 := by omega
  rw [hs] at t0
  have x1 := fun w1 => exp_any ([44] ++ r) a b w1 (by simp; omega) (by omega) (by omega)
  rw [null_one ha hb hr] at x1
  have b1 := fun w1 => rbetween_any a r w1 (by omega) (by omega)
  have hbl := between_len a r
  have hwa : (betweenL a r ++ [r]).all isL = true := by
    have h1 := all_between a r
    simp only [List.all_append, List.all_cons, List.all_nil, h1, hr]; try rfl
  obtain ⟨M, eM⟩ : ∃ M, M = betweenL a r := ⟨_, rfl⟩
  rw [← eM] at x1 b1 hbl hwa
  clear eM
  obtain ⟨W, eW⟩ : ∃ W, W = M ++ [r] := ⟨_, rfl⟩
  rw [← eW] at x1 hwa
  have hwl : W.length ≤ 10 := by rw [eW]; simp; omega
  have MW := Lib.hid eW.symm
  clear eW
  have m1 : ByteArray.mk #[44] ++ ByteArray.mk r.toArray = ByteArray.mk ([44] ++ r).toArray := mk_append [44] r
  obtain ⟨S, eS⟩ : ∃ S, S = [44] ++ r := ⟨_, rfl⟩
  rw [← eS] at m1 x1
  clear eS
  have ML := Lib.hid hbl
  have BT := Lib.hid b1
  have o1 := fun A c w1 hrd => once_any W A c w1 (by omega) hrd (fun i hi => by have := real_len (all_isL hwa (pl_mem hi)); omega)
  have CK := Lib.hid (fun w1 => known_any w1)
  have hoe := once_ok hwa
  obtain ⟨O, eO⟩ : ∃ O, O = onceL W := ⟨_, rfl⟩
  rw [← eO] at hoe x1
  rw [hoe] at o1
  clear eO hoe hbl b1
  by_cases h8 : O.length ≤ 8
  · rw [decide_eq_true h8] at o1
    rw [over_ok h8] at x1
    have OA := Lib.hid o1
    have XA := Lib.hid (show ∀ w1, Calls Try.prog 16 #[.string ⟨S.toArray⟩, .string ⟨a.toArray⟩, .string ⟨b.toArray⟩] w1 fun e w' => ExpV w' w1.heap.size e (O, 0) ∧ Below w1.heap.size w1 w' from x1)
    have X1 := Lib.hid (fun A A2 c c2 B w1 => texts_same O A A2 O.length O.length c c2 B w1 rfl rfl (by omega))
    clear h2 h3 i1 i2 i3 ha hb hr o1 x1 h8 hwl hwa hs
    go_enter Try.func6, Try.ntmps6
    go_wp2_with (first
      | (go_at_call 13; refine Calls.mono c2 ?_; rintro e w2 ⟨rfl, rfl⟩; clear c2)
      | (go_at_call 23; with_reducible refine Calls.mono (I1.out _) ?_; rintro e w3 ⟨rfl, hb⟩; clear I1; replace H := Lib.hid (H.out.trans (hb.mono H.out.size)); clear hb)
      | (go_at_call 23; with_reducible refine Calls.mono (I2.out _) ?_; rintro e w4 ⟨rfl, hb⟩; clear I2; replace H := Lib.hid (H.out.trans (hb.mono H.out.size)); clear hb)
      | (go_at_call 23; with_reducible refine Calls.mono (I3.out _) ?_; rintro e w5 ⟨rfl, hb⟩; clear I3; replace H := Lib.hid (H.out.trans (hb.mono H.out.size)); clear hb)
      | (go_at_call 24; refine Calls.mono (BT.out _) ?_; rintro e w6 ⟨v6, rfl, ho, hb⟩; obtain ⟨A6, q6, rfl, r6⟩ := ho.slice; have R6 := Lib.hid r6; replace H := Lib.hid (H.out.trans (hb.mono H.out.size)); clear ho hb r6)
      | (at_builtin; refine app_rd rfl (.tmp 70) (.tmp 73) rfl w.heap.size _ [] rfl (Own.nil _ _) _ A6 q6 M rfl R6.out (by have := ML.out; simp; omega) H.out.size ?_; intro v7 w7 ho7 hb7; replace H := Lib.hid (H.out.trans hb7); have HO7 := Lib.hid ho7; clear ho7 hb7)
      | (at_builtin; refine app_one rfl (.tmp 74) (.tmp 76) rfl w.heap.size _ _ rfl HO7.out r rfl (by have := ML.out; simp; omega) H.out.size ?_; intro v12 w12 ho hb; rw [List.nil_append, MW.out] at ho; replace H := Lib.hid (H.out.trans hb); obtain ⟨A12, q12, rfl, r12⟩ := ho.slice; have RW := Lib.hid r12; clear ho hb r12)
      | (go_at_call 22; refine Calls.mono (OA.out _ _ _ RW.out) ?_; rintro e w8 ⟨v8, rfl, ho, hb⟩; obtain ⟨A8, q8, rfl, r8⟩ := ho.slice; have R8 := Lib.hid r8; replace H := Lib.hid (H.out.trans (hb.mono H.out.size)); clear ho hb r8)
      | (go_at_call 16; refine Calls.mono (XA.out _) ?_; rintro e w9 ⟨⟨v9, rfl, ho⟩, hb⟩; obtain ⟨A9, q9, rfl, r9⟩ := ho.slice; have R9 := Lib.hid r9; replace H := Lib.hid (H.out.trans (hb.mono H.out.size)); replace R8 := Lib.hid ((R8.out.below hb).more hb.size); clear ho hb r9)
      | (go_at_call 20; refine Calls.mono (X1.out _ _ _ _ _ _ R9.out R8.out) ?_; rintro e w10 ⟨rfl, hd⟩; have hb := hd.below; clear hd; replace H := Lib.hid (H.out.trans (hb.mono H.out.size)); clear hb)
      | (go_at_call 21; refine Calls.mono (CK.out _) ?_; rintro e w11 ⟨rfl, hb⟩; replace H := Lib.hid (H.out.trans (hb.mono H.out.size)); clear hb))
    go_ret
    exact ⟨rfl, H.out⟩
  · rw [decide_eq_false h8] at o1
    rw [over_full (by omega)] at x1
    have OA := Lib.hid o1
    have XA := Lib.hid (show ∀ w1, Calls Try.prog 16 #[.string ⟨S.toArray⟩, .string ⟨a.toArray⟩, .string ⟨b.toArray⟩] w1 fun e w' => ExpV w' w1.heap.size e ([], 13) ∧ Below w1.heap.size w1 w' from x1)
    clear h2 h3 i1 i2 i3 ha hb hr o1 x1 h8 hwl hwa hs
    go_enter Try.func6, Try.ntmps6
    go_wp2_with (first
      | (go_at_call 13; refine Calls.mono c2 ?_; rintro e w2 ⟨rfl, rfl⟩; clear c2)
      | (go_at_call 23; with_reducible refine Calls.mono (I1.out _) ?_; rintro e w3 ⟨rfl, hb⟩; clear I1; replace H := Lib.hid (H.out.trans (hb.mono H.out.size)); clear hb)
      | (go_at_call 23; with_reducible refine Calls.mono (I2.out _) ?_; rintro e w4 ⟨rfl, hb⟩; clear I2; replace H := Lib.hid (H.out.trans (hb.mono H.out.size)); clear hb)
      | (go_at_call 23; with_reducible refine Calls.mono (I3.out _) ?_; rintro e w5 ⟨rfl, hb⟩; clear I3; replace H := Lib.hid (H.out.trans (hb.mono H.out.size)); clear hb)
      | (go_at_call 24; refine Calls.mono (BT.out _) ?_; rintro e w6 ⟨v6, rfl, ho, hb⟩; obtain ⟨A6, q6, rfl, r6⟩ := ho.slice; have R6 := Lib.hid r6; replace H := Lib.hid (H.out.trans (hb.mono H.out.size)); clear ho hb r6)
      | (at_builtin; refine app_rd rfl (.tmp 70) (.tmp 73) rfl w.heap.size _ [] rfl (Own.nil _ _) _ A6 q6 M rfl R6.out (by have := ML.out; simp; omega) H.out.size ?_; intro v7 w7 ho7 hb7; replace H := Lib.hid (H.out.trans hb7); have HO7 := Lib.hid ho7; clear ho7 hb7)
      | (at_builtin; refine app_one rfl (.tmp 74) (.tmp 76) rfl w.heap.size _ _ rfl HO7.out r rfl (by have := ML.out; simp; omega) H.out.size ?_; intro v12 w12 ho hb; rw [List.nil_append, MW.out] at ho; replace H := Lib.hid (H.out.trans hb); obtain ⟨A12, q12, rfl, r12⟩ := ho.slice; have RW := Lib.hid r12; clear ho hb r12)
      | (go_at_call 22; refine Calls.mono (OA.out _ _ _ RW.out) ?_; rintro e w8 ⟨v8, rfl, ho, hb⟩; replace H := Lib.hid (H.out.trans (hb.mono H.out.size)); clear ho hb)
      | (go_at_call 16; refine Calls.mono (XA.out _) ?_; rintro e w9 ⟨⟨v9, rfl, ho⟩, hb⟩; obtain ⟨A9, q9, rfl, _⟩ := ho.slice; replace H := Lib.hid (H.out.trans (hb.mono H.out.size)); clear ho hb)
      | (go_at_call 21; refine Calls.mono (CK.out _) ?_; rintro e w11 ⟨rfl, hb⟩; replace H := Lib.hid (H.out.trans (hb.mono H.out.size)); clear hb))
    go_ret
    exact ⟨rfl, H.out⟩
set_option maxHeartbeats 3200000 in
set_option maxRecDepth 100000 in
theorem null_main2 (a b r : L) (w : World) (h2 : sumL [a, b, r] ≤ 600) (ha : isL a = true) (hb : isL b = true) (hr : isL r = true) (hs : preB [47] r = false) :
    Calls Try.prog 6 #[.string ⟨a.toArray⟩, .string ⟨b.toArray⟩, .string ⟨r.toArray⟩, .int .i64 2] w fun e w' => e = .returned (.bool true) ∧ Below w.heap.size w w' := by
  have H := Lib.hid (lits_below w [a, b, r])
  have c2 := large_any [a, b, r] _ 3 3 _ _ rfl (by omega) (lits_rd w [a, b, r])
  rw [decide_eq_false (by omega)] at c2
  have h3 := sum_three a b r
  have i1 := fun w1 => ris_any a w1 (by omega)
  have i2 := fun w1 => ris_any b w1 (by omega)
  have i3 := fun w1 => ris_any r w1 (by omega)
  rw [ha] at i1
  rw [hb] at i2
  rw [hr] at i3
  have I1 := Lib.hid i1
  have I2 := Lib.hid i2
  have I3 := Lib.hid i3
  have hr0 : 0 < r.length := by
    have := ne_of_kind ((isL_iff r).1 hr)
    cases r with
    | nil => exact absurd rfl this
    | cons x t => simp
  have t0 := pre_at hr0
  have er0 : (0 : Int) < (r.length : Int) := by omega
  have er6 : r.length ≤ 600 := by omega
  rw [hs] at t0
  have x1 := fun w1 => exp_any (r ++ [44]) a b w1 (by simp; omega) (by omega) (by omega)
  rw [null_two ha hb hr] at x1
  have b1 := fun w1 => rbetween_any r b w1 (by omega) (by omega)
  have hbl := between_len r b
  have hwa : ([r] ++ betweenL r b).all isL = true := by
    have h1 := all_between r b
    simp only [List.all_append, List.all_cons, List.all_nil, h1, hr]; try rfl
  obtain ⟨M, eM⟩ : ∃ M, M = betweenL r b := ⟨_, rfl⟩
  rw [← eM] at x1 b1 hbl hwa
  clear eM
  obtain ⟨W, eW⟩ : ∃ W, W = [r] ++ M := ⟨_, rfl⟩
  rw [← eW] at x1 hwa
  have hwl : W.length ≤ 10 := by rw [eW]; simp; omega
  have MW := Lib.hid eW.symm
  clear eW
  have m1 : ByteArray.mk r.toArray ++ ByteArray.mk #[44] = ByteArray.mk (r ++ [44]).toArray := mk_append r [44]
  obtain ⟨S, eS⟩ : ∃ S, S = r ++ [44] := ⟨_, rfl⟩
  rw [← eS] at m1 x1
  clear eS
  have ML := Lib.hid hbl
  have BT := Lib.hid b1
  have o1 := fun A c w1 hrd => once_any W A c w1 (by omega) hrd (fun i hi => by have := real_len (all_isL hwa (pl_mem hi)); omega)
  have CK := Lib.hid (fun w1 => known_any w1)
  have hoe := once_ok hwa
  obtain ⟨O, eO⟩ : ∃ O, O = onceL W := ⟨_, rfl⟩
  rw [← eO] at hoe x1
  rw [hoe] at o1
  clear eO hoe hbl b1
  by_cases h8 : O.length ≤ 8
  · rw [decide_eq_true h8] at o1
    rw [over_ok h8] at x1
    have OA := Lib.hid o1
    have XA := Lib.hid (show ∀ w1, Calls Try.prog 16 #[.string ⟨S.toArray⟩, .string ⟨a.toArray⟩, .string ⟨b.toArray⟩] w1 fun e w' => ExpV w' w1.heap.size e (O, 0) ∧ Below w1.heap.size w1 w' from x1)
    have X1 := Lib.hid (fun A A2 c c2 B w1 => texts_same O A A2 O.length O.length c c2 B w1 rfl rfl (by omega))
    clear h2 h3 i1 i2 i3 ha hb hr o1 x1 h8 hwl hwa hs
    go_enter Try.func6, Try.ntmps6
    go_wp2_with (first
      | (go_at_call 13; refine Calls.mono c2 ?_; rintro e w2 ⟨rfl, rfl⟩; clear c2)
      | (go_at_call 23; with_reducible refine Calls.mono (I1.out _) ?_; rintro e w3 ⟨rfl, hb⟩; clear I1; replace H := Lib.hid (H.out.trans (hb.mono H.out.size)); clear hb)
      | (go_at_call 23; with_reducible refine Calls.mono (I2.out _) ?_; rintro e w4 ⟨rfl, hb⟩; clear I2; replace H := Lib.hid (H.out.trans (hb.mono H.out.size)); clear hb)
      | (go_at_call 23; with_reducible refine Calls.mono (I3.out _) ?_; rintro e w5 ⟨rfl, hb⟩; clear I3; replace H := Lib.hid (H.out.trans (hb.mono H.out.size)); clear hb)
      | (at_builtin; refine app_one rfl (.tmp 53) (.tmp 55) rfl w.heap.size _ [] rfl (Own.nil _ _) r rfl (by simp) H.out.size ?_; intro v7 w7 ho7 hb7; replace H := Lib.hid (H.out.trans hb7); have HO7 := Lib.hid ho7; clear ho7 hb7)
      | (go_at_call 24; refine Calls.mono (BT.out _) ?_; rintro e w6 ⟨v6, rfl, ho, hb⟩; obtain ⟨A6, q6, rfl, r6⟩ := ho.slice; have R6 := Lib.hid r6; replace H := Lib.hid (H.out.trans (hb.mono H.out.size)); replace HO7 := Lib.hid (HO7.out.below hb); clear ho hb r6)
      | (at_builtin; refine app_rd rfl (.tmp 56) (.tmp 59) rfl w.heap.size _ _ rfl HO7.out _ A6 q6 M rfl R6.out (by have := ML.out; simp; omega) H.out.size ?_; intro v12 w12 ho hb; rw [List.nil_append, MW.out] at ho; replace H := Lib.hid (H.out.trans hb); obtain ⟨A12, q12, rfl, r12⟩ := ho.slice; have RW := Lib.hid r12; clear ho hb r12)
      | (go_at_call 22; refine Calls.mono (OA.out _ _ _ RW.out) ?_; rintro e w8 ⟨v8, rfl, ho, hb⟩; obtain ⟨A8, q8, rfl, r8⟩ := ho.slice; have R8 := Lib.hid r8; replace H := Lib.hid (H.out.trans (hb.mono H.out.size)); clear ho hb r8)
      | (go_at_call 16; refine Calls.mono (XA.out _) ?_; rintro e w9 ⟨⟨v9, rfl, ho⟩, hb⟩; obtain ⟨A9, q9, rfl, r9⟩ := ho.slice; have R9 := Lib.hid r9; replace H := Lib.hid (H.out.trans (hb.mono H.out.size)); replace R8 := Lib.hid ((R8.out.below hb).more hb.size); clear ho hb r9)
      | (go_at_call 20; refine Calls.mono (X1.out _ _ _ _ _ _ R9.out R8.out) ?_; rintro e w10 ⟨rfl, hd⟩; have hb := hd.below; clear hd; replace H := Lib.hid (H.out.trans (hb.mono H.out.size)); clear hb)
      | (go_at_call 21; refine Calls.mono (CK.out _) ?_; rintro e w11 ⟨rfl, hb⟩; replace H := Lib.hid (H.out.trans (hb.mono H.out.size)); clear hb))
    go_ret
    exact ⟨rfl, H.out⟩
  · rw [decide_eq_false h8] at o1
    rw [over_full (by omega)] at x1
    have OA := Lib.hid o1
    have XA := Lib.hid (show ∀ w1, Calls Try.prog 16 #[.string ⟨S.toArray⟩, .string ⟨a.toArray⟩, .string ⟨b.toArray⟩] w1 fun e w' => ExpV w' w1.heap.size e ([], 13) ∧ Below w1.heap.size w1 w' from x1)
    clear h2 h3 i1 i2 i3 ha hb hr o1 x1 h8 hwl hwa hs
    go_enter Try.func6, Try.ntmps6
    go_wp2_with (first
      | (go_at_call 13; refine Calls.mono c2 ?_; rintro e w2 ⟨rfl, rfl⟩; clear c2)
      | (go_at_call 23; with_reducible refine Calls.mono (I1.out _) ?_; rintro e w3 ⟨rfl, hb⟩; clear I1; replace H := Lib.hid (H.out.trans (hb.mono H.out.size)); clear hb)
      | (go_at_call 23; with_reducible refine Calls.mono (I2.out _) ?_; rintro e w4 ⟨rfl, hb⟩; clear I2; replace H := Lib.hid (H.out.trans (hb.mono H.out.size)); clear hb)
      | (go_at_call 23; with_reducible refine Calls.mono (I3.out _) ?_; rintro e w5 ⟨rfl, hb⟩; clear I3; replace H := Lib.hid (H.out.trans (hb.mono H.out.size)); clear hb)
      | (at_builtin; refine app_one rfl (.tmp 53) (.tmp 55) rfl w.heap.size _ [] rfl (Own.nil _ _) r rfl (by simp) H.out.size ?_; intro v7 w7 ho7 hb7; replace H := Lib.hid (H.out.trans hb7); have HO7 := Lib.hid ho7; clear ho7 hb7)
      | (go_at_call 24; refine Calls.mono (BT.out _) ?_; rintro e w6 ⟨v6, rfl, ho, hb⟩; obtain ⟨A6, q6, rfl, r6⟩ := ho.slice; have R6 := Lib.hid r6; replace H := Lib.hid (H.out.trans (hb.mono H.out.size)); replace HO7 := Lib.hid (HO7.out.below hb); clear ho hb r6)
      | (at_builtin; refine app_rd rfl (.tmp 56) (.tmp 59) rfl w.heap.size _ _ rfl HO7.out _ A6 q6 M rfl R6.out (by have := ML.out; simp; omega) H.out.size ?_; intro v12 w12 ho hb; rw [List.nil_append, MW.out] at ho; replace H := Lib.hid (H.out.trans hb); obtain ⟨A12, q12, rfl, r12⟩ := ho.slice; have RW := Lib.hid r12; clear ho hb r12)
      | (go_at_call 22; refine Calls.mono (OA.out _ _ _ RW.out) ?_; rintro e w8 ⟨v8, rfl, ho, hb⟩; replace H := Lib.hid (H.out.trans (hb.mono H.out.size)); clear ho hb)
      | (go_at_call 16; refine Calls.mono (XA.out _) ?_; rintro e w9 ⟨⟨v9, rfl, ho⟩, hb⟩; obtain ⟨A9, q9, rfl, _⟩ := ho.slice; replace H := Lib.hid (H.out.trans (hb.mono H.out.size)); clear ho hb)
      | (go_at_call 21; refine Calls.mono (CK.out _) ?_; rintro e w11 ⟨rfl, hb⟩; replace H := Lib.hid (H.out.trans (hb.mono H.out.size)); clear hb))
    go_ret
    exact ⟨rfl, H.out⟩
theorem null_ (s1 s2 s3 : ByteArray) (z : Int) (w : World) (h1 : s1.data.toList.length ≤ reachBytes) (h2 : s2.data.toList.length ≤ reachBytes) (h3 : s3.data.toList.length ≤ reachBytes) (_ : (Lit.int .i64 z).wf = true) :
    Calls Try.prog 6 #[.string s1, .string s2, .string s3, .int .i64 z] w fun e w' => e = .returned (.bool true) ∧ Below w.heap.size w w' := by
  rw [reach_val] at h1 h2 h3
  obtain ⟨a, rfl⟩ : ∃ a : L, s1 = ⟨a.toArray⟩ := ⟨_, bytes_eta s1⟩
  obtain ⟨b, rfl⟩ : ∃ a : L, s2 = ⟨a.toArray⟩ := ⟨_, bytes_eta s2⟩
  obtain ⟨r, rfl⟩ : ∃ a : L, s3 = ⟨a.toArray⟩ := ⟨_, bytes_eta s3⟩
  simp only at h1 h2 h3
  have h5 := sum_three a b r
  by_cases hy : 600 < sumL [a, b, r]
  · exact null_large a b r z w hy (by omega)
  · have hy : sumL [a, b, r] ≤ 600 := by omega
    cases ha : isL a with
    | false => exact null_none a b r z w hy (.inl ha)
    | true =>
      cases hb : isL b with
      | false => exact null_none a b r z w hy (.inr (.inl ⟨ha, hb⟩))
      | true =>
        cases hr : isL r with
        | false => exact null_none a b r z w hy (.inr (.inr ⟨ha, hb, hr⟩))
        | true =>
          by_cases hz : z < 0 ∨ 2 < z
          · exact null_where a b r z w hy ha hb hr hz
          · rw [not_or] at hz
            have h3 : z = 0 ∨ z = 1 ∨ z = 2 := by omega
            cases hs : preB [47] r with
            | true =>
              rcases h3 with rfl | rfl | rfl
              · exact null_main0t a b r w hy ha hb hr hs
              · exact null_slash1 a b r w hy ha hb hr hs
              · exact null_slash2 a b r w hy ha hb hr hs
            | false =>
              rcases h3 with rfl | rfl | rfl
              · exact null_main0f a b r w hy ha hb hr hs
              · exact null_main1 a b r w hy ha hb hr hs
              · exact null_main2 a b r w hy ha hb hr hs
end Go.Proofs.Ytmgbhkhkbebfpaa.TrW
