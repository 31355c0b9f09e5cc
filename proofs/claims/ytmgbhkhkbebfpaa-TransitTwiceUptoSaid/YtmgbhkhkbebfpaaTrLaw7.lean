/-
  TransitTwice walked, of texts and rows of at most 1048576.
-/
import Derived.Test.YtmgbhkhkbebfpaaTrLaw6
import Derived.Test.YtmgbhkhkbebfpaaTrRef
set_option linter.unusedVariables false
namespace Go.Proofs.Ytmgbhkhkbebfpaa.TrW
open Go.RowKit Go.Proofs.Ytmgbhkhkbebfpaa.Mem Go.Proofs.Ytmgbhkhkbebfpaa.Nm Go.Proofs.Ytmgbhkhkbebfpaa.Tr
attribute [local go_sem] mk_at List.getElem_cons_zero List.getElem_cons_succ

theorem join_ne {fs : List L} (h : fs ≠ []) (hf : ∀ f ∈ fs, f ≠ []) : joinC fs ≠ [] := by
  cases fs with
  | nil => exact absurd rfl h
  | cons f t =>
    cases t with
    | nil => exact hf f List.mem_cons_self
    | cons g t => rw [join_cons (by simp)]; simp
theorem slash_iff {x : L} (h : kindL x ≠ 0) : preB [47] x = decide (kindL x = 2) := by
  rcases kind_cases h with k | k
  · have : preB [47] x = false := by
      cases g : preB [47] x with
      | false => rfl
      | true => obtain ⟨v, e⟩ := preB_iff.1 g; exact absurd (by rw [e]; simp) (one_slash k)
    rw [this, k]; rfl
  · obtain ⟨t, e, _⟩ := kind_two' k
    rw [preB_iff.2 ⟨t, e⟩, k]; rfl
theorem slash_at {x : L} (h : kindL x ≠ 0) (h0 : 0 < x.length) : ((x[0].toNat : Int) == 47) = decide (kindL x = 2) := (pre_at h0).trans (slash_iff h)
theorem real_pos {x : L} (h : kindL x ≠ 0) : 0 < x.length := by
  have := ne_of_kind h
  cases x with
  | nil => exact absurd rfl this
  | cons y t => simp
/-- the first j pieces of a row told twice -/
def twS (l : List L) (j : Nat) : L := joinC (((l ++ l).map oneF).take j)
theorem tw_all (l : List L) : twS l (2 * l.length) = joinC ((l ++ l).map oneF) := by
  rw [twS, List.take_of_length_le (by simp; omega)]
theorem tw_take {l : List L} {j : Nat} (h : j < (l ++ l).length) : ((l ++ l).map oneF).take (j + 1) = ((l ++ l).map oneF).take j ++ [oneF (pl (l ++ l) j)] := by
  have hm : j < ((l ++ l).map oneF).length := by rw [List.length_map]; exact h
  have e : pl ((l ++ l).map oneF) j = oneF (pl (l ++ l) j) := by rw [pl_lt hm, pl_lt h, List.getElem_map]
  rw [take_succ_pl hm, e]
theorem tw_zero {l : List L} (h : 0 < (l ++ l).length) : twS l (0 + 1) = oneF (pl (l ++ l) 0) := by
  rw [twS, tw_take h]; simp [joinC]
theorem tw_next {l : List L} {j : Nat} (h : j < (l ++ l).length) (hj : j ≠ 0) : twS l (j + 1) = twS l j ++ 44 :: oneF (pl (l ++ l) j) := by
  have hne : ((l ++ l).map oneF).take j ≠ [] := by
    intro e
    have := congrArg List.length e
    rw [List.length_take, List.length_map, List.length_nil] at this
    omega
  rw [twS, tw_take h, join_snoc hne]; rfl
theorem tw_len {l : List L} (h : l.all isL = true) (hl : l.length ≤ 20) (j : Nat) : (twS l j).length ≤ 1520 := by
  have hll : (l ++ l).all isL = true := by rw [List.all_append, h]; rfl
  have h1 := join_len (fs := ((l ++ l).map oneF).take j) (k := 37) fun f hf => by
    obtain ⟨r, hr, rfl⟩ := List.mem_map.1 (List.mem_of_mem_take hf)
    exact (one_ok (all_isL hll hr)).2.2
  have h2 : (((l ++ l).map oneF).take j).length ≤ 40 := by rw [List.length_take, List.length_map]; simp; omega
  have h3 : (((l ++ l).map oneF).take j).length * (37 + 1) ≤ 40 * (37 + 1) := Nat.mul_le_mul_right _ h2
  rw [twS]; omega
theorem tw_ne {l : List L} (h : l.all isL = true) {j : Nat} (hj : j ≠ 0) (h2 : j ≤ (l ++ l).length) : twS l j ≠ [] := by
  have hll : (l ++ l).all isL = true := by rw [List.all_append, h]; rfl
  refine join_ne ?_ fun f hf => ?_
  · intro e
    have := congrArg List.length e
    rw [List.length_take, List.length_map, List.length_nil] at this
    omega
  · obtain ⟨r, hr, rfl⟩ := List.mem_map.1 (List.mem_of_mem_take hf)
    exact (one_ok (all_isL hll hr)).1
theorem pl_twice {l : List L} {k i : Nat} (hk : k < 2) (hi : i < l.length) : pl (l ++ l) (k * l.length + i) = pl l i := by
  have h2 : k = 0 ∨ k = 1 := by omega
  rcases h2 with rfl | rfl
  · rw [Nat.zero_mul, Nat.zero_add]; exact pl_append_left hi
  · rw [Nat.one_mul, pl_append_right (by omega)]; congr 1; omega

/-- ways that end ahead of the loops: q tells which -/
theorem twice_large (l : List L) (A : Option Addr) (c : Nat) (a b : L) (w : World) (hr : Rd w w.heap.size A (strs l)) (hs : sumL l ≤ 4000000000000000000) (h6 : 600 < sumL l) :
    Calls Try.prog 11 #[.slice A l.length c, .string ⟨a.toArray⟩, .string ⟨b.toArray⟩] w fun e w' => e = .returned (.bool true) ∧ Below w.heap.size w w' := by
  have g1 := large_any l A l.length c _ w rfl hs hr
  rw [decide_eq_true h6] at g1
  have H := Lib.hid (Below.refl w.heap.size w)
  clear hr hs h6
  go_enter Try.func11, Try.ntmps11
  go_wp2_with (go_at_call 13; refine Calls.mono g1 ?_; rintro e w2 ⟨rfl, rfl⟩)
  go_ret
  exact ⟨rfl, H.out⟩
theorem twice_many (l : List L) (A : Option Addr) (c : Nat) (a b : L) (w : World) (hr : Rd w w.heap.size A (strs l)) (hl : l.length ≤ 1048576) (hs : sumL l ≤ 600) (h : 20 < l.length) :
    Calls Try.prog 11 #[.slice A l.length c, .string ⟨a.toArray⟩, .string ⟨b.toArray⟩] w fun e w' => e = .returned (.bool true) ∧ Below w.heap.size w w' := by
  have g1 := large_any l A l.length c _ w rfl (by omega) hr
  rw [decide_eq_false (by omega)] at g1
  have H := Lib.hid (Below.refl w.heap.size w)
  have e20 : (20 : Int) < (l.length : Int) := by omega
  clear hr hs
  go_enter Try.func11, Try.ntmps11
  go_wp2_with (go_at_call 13; refine Calls.mono g1 ?_; rintro e w2 ⟨rfl, rfl⟩)
  go_ret
  exact ⟨rfl, H.out⟩
set_option maxHeartbeats 1600000 in
theorem twice_ends (l : List L) (A : Option Addr) (c : Nat) (a b : L) (w : World) (hr : Rd w w.heap.size A (strs l)) (hs : sumL l ≤ 600) (hl : l.length ≤ 20) (ha : a.length ≤ 1048576) (hb : b.length ≤ 1048576) (h : isL a = false ∨ (isL a = true ∧ isL b = false)) :
    Calls Try.prog 11 #[.slice A l.length c, .string ⟨a.toArray⟩, .string ⟨b.toArray⟩] w fun e w' => e = .returned (.bool true) ∧ Below w.heap.size w w' := by
  have g1 := large_any l A l.length c _ w rfl (by omega) hr
  rw [decide_eq_false (by omega)] at g1
  have H := Lib.hid (Below.refl w.heap.size w)
  have e20 : ¬ (20 : Int) < (l.length : Int) := by omega
  have i1 := fun w1 => ris_any a w1 (by omega)
  have i2 := fun w1 => ris_any b w1 (by omega)
  rcases h with h | ⟨h, h'⟩
  · rw [h] at i1
    have I1 := Lib.hid i1
    clear hr hs h i1 i2
    go_enter Try.func11, Try.ntmps11
    go_wp2_with (first
      | (go_at_call 13; refine Calls.mono g1 ?_; rintro e w2 ⟨rfl, rfl⟩)
      | (go_at_call 23; with_reducible refine Calls.mono (I1.out _) ?_; rintro e w3 ⟨rfl, hb⟩; replace H := Lib.hid (H.out.trans (hb.mono H.out.size)); clear hb))
    go_ret
    exact ⟨rfl, H.out⟩
  · rw [h] at i1
    rw [h'] at i2
    have I1 := Lib.hid i1
    have I2 := Lib.hid i2
    clear hr hs h h' i1 i2
    go_enter Try.func11, Try.ntmps11
    go_wp2_with (first
      | (go_at_call 13; refine Calls.mono g1 ?_; rintro e w2 ⟨rfl, rfl⟩)
      | (go_at_call 23; with_reducible refine Calls.mono (I1.out _) ?_; rintro e w3 ⟨rfl, hb⟩; clear I1; replace H := Lib.hid (H.out.trans (hb.mono H.out.size)); clear hb)
      | (go_at_call 23; with_reducible refine Calls.mono (I2.out _) ?_; rintro e w4 ⟨rfl, hb⟩; clear I2; replace H := Lib.hid (H.out.trans (hb.mono H.out.size)); clear hb))
    go_ret
    exact ⟨rfl, H.out⟩
set_option maxHeartbeats 1600000 in
theorem twice_bad (l : List L) (A : Option Addr) (c : Nat) (a b : L) (w : World) (hr : Rd w w.heap.size A (strs l)) (hs : sumL l ≤ 600) (hl : l.length ≤ 20) (ha : isL a = true) (hb : isL b = true) (h : (onceR l).2 = false) :
    Calls Try.prog 11 #[.slice A l.length c, .string ⟨a.toArray⟩, .string ⟨b.toArray⟩] w fun e w' => e = .returned (.bool true) ∧ Below w.heap.size w w' := by
  have g1 := large_any l A l.length c _ w rfl (by omega) hr
  rw [decide_eq_false (by omega)] at g1
  have e20 : ¬ (20 : Int) < (l.length : Int) := by omega
  have la := real_len ((isL_iff a).1 ha)
  have lb := real_len ((isL_iff b).1 hb)
  have e100 : ¬ (100 : Int) < (a.length : Int) + (b.length : Int) := by omega
  have i1 := fun w1 => ris_any a w1 (by omega)
  have i2 := fun w1 => ris_any b w1 (by omega)
  rw [ha] at i1
  rw [hb] at i2
  have I1 := Lib.hid i1
  have I2 := Lib.hid i2
  have c1 := fun w1 hr1 => once_any l A c w1 (by omega) hr1 (fun i hi => by have := sum_mem (pl_mem hi); omega)
  rw [h] at c1
  have C1 := Lib.hid c1
  have HR := Lib.hid hr
  have H := Lib.hid (Below.refl w.heap.size w)
  clear hr hs h i1 i2 c1 ha hb
  go_enter Try.func11, Try.ntmps11
  go_wp2_with (first
    | (go_at_call 13; refine Calls.mono g1 ?_; rintro e w2 ⟨rfl, rfl⟩)
    | (go_at_call 23; with_reducible refine Calls.mono (I1.out _) ?_; rintro e w3 ⟨rfl, hb⟩; clear I1; replace H := Lib.hid (H.out.trans (hb.mono H.out.size)); clear hb)
    | (go_at_call 23; with_reducible refine Calls.mono (I2.out _) ?_; rintro e w4 ⟨rfl, hb⟩; clear I2; replace H := Lib.hid (H.out.trans (hb.mono H.out.size)); clear hb)
    | (go_at_call 22; refine Calls.mono (C1.out _ ((HR.out.below H.out).more H.out.size)) ?_; rintro e w5 ⟨v5, rfl, ho, hb⟩; replace H := Lib.hid (H.out.trans (hb.mono H.out.size)); clear ho hb))
  go_ret
  exact ⟨rfl, H.out⟩

set_option maxHeartbeats 3200000 in
set_option maxRecDepth 100000 in
theorem twice_main (l : List L) (A : Option Addr) (c : Nat) (a b : L) (w : World) (hr : Rd w w.heap.size A (strs l)) (hs : sumL l ≤ 600) (hl : l.length ≤ 20) (ha : isL a = true) (hb : isL b = true)
    (hall : l.all isL = true) (h8 : (onceL l).length ≤ 8) (h : onceR l = (onceL l, true)) :
    Calls Try.prog 11 #[.slice A l.length c, .string ⟨a.toArray⟩, .string ⟨b.toArray⟩] w fun e w' => e = .returned (.bool true) ∧ Below w.heap.size w w' := by
  have g1 := large_any l A l.length c _ w rfl (by omega) hr
  rw [decide_eq_false (by omega)] at g1
  have e20 : ¬ (20 : Int) < (l.length : Int) := by omega
  have la := real_len ((isL_iff a).1 ha)
  have lb := real_len ((isL_iff b).1 hb)
  have e100 : ¬ (100 : Int) < (a.length : Int) + (b.length : Int) := by omega
  have i1 := fun w1 => ris_any a w1 (by omega)
  have i2 := fun w1 => ris_any b w1 (by omega)
  rw [ha] at i1
  rw [hb] at i2
  have I1 := Lib.hid i1
  have I2 := Lib.hid i2
  have c1 := fun w1 hr1 => once_any l A c w1 (by omega) hr1 (fun i hi => by have := sum_mem (pl_mem hi); omega)
  rw [h] at c1
  have p2 := fun w1 => exp_any (twS l (2 * l.length)) a b w1 (by have := tw_len hall hl (2 * l.length); omega) (by omega) (by omega)
  rw [tw_all, twice_exp ha hb hall h8, ← tw_all] at p2
  obtain ⟨m, em⟩ : ∃ m, m = onceL l := ⟨_, rfl⟩
  rw [← em] at c1 p2 h8
  have C1 := Lib.hid c1
  have P2 := Lib.hid p2
  have X1 := Lib.hid (fun A A2 c c2 B w1 => texts_same m A A2 m.length m.length c c2 B w1 rfl rfl (by omega))
  have CK := Lib.hid (fun w1 => known_any w1)
  have HR := Lib.hid hr
  have TL := Lib.hid (fun j => tw_len hall hl j)
  have TN := Lib.hid (fun (j : Nat) (hj : j ≠ 0) (h2 : j ≤ (l ++ l).length) => tw_ne hall hj h2)
  have KK := Lib.hid (fun (i : Nat) (hi : i < l.length) => all_isL hall (pl_mem hi))
  have H := Lib.hid (Below.refl w.heap.size w)
  clear hr hs h i1 i2 c1 p2 ha hb h8 hall em
  go_enter Try.func11, Try.ntmps11
  go_wp2_with (first
    | (go_at_call 13; refine Calls.mono g1 ?_; rintro e w2 ⟨rfl, rfl⟩; clear g1)
    | (go_at_call 23; with_reducible refine Calls.mono (I1.out _) ?_; rintro e w3 ⟨rfl, hb⟩; clear I1; replace H := Lib.hid (H.out.trans (hb.mono H.out.size)); clear hb)
    | (go_at_call 23; with_reducible refine Calls.mono (I2.out _) ?_; rintro e w4 ⟨rfl, hb⟩; clear I2; replace H := Lib.hid (H.out.trans (hb.mono H.out.size)); clear hb)
    | (go_at_call 22; refine Calls.mono (C1.out _ ((HR.out.below H.out).more H.out.size)) ?_; rintro e w5 ⟨v5, rfl, ho, hb⟩; replace H := Lib.hid (H.out.trans (hb.mono H.out.size)); obtain ⟨A5, q5, rfl, r5⟩ := ho.slice; have R5 := Lib.hid r5; clear ho hb r5))
  have RL := Lib.hid (HR.out.below H.out)
  clear HR
  obtain ⟨n, en⟩ : ∃ n, n = l.length := ⟨_, rfl⟩
  rw [← en] at hl ⊢
  have EL := Lib.hid en
  have E2 := Lib.hid (show (l ++ l).length = 2 * n by rw [en]; simp; omega)
  clear en e20
  go_loop [9, 10] (fun sv kv => ∃ k : Nat, k ≤ 2 ∧ kv = .int .i64 (k : Int) ∧ sv = .string ⟨(twS l (k * n)).toArray⟩) (fun _ kv => 2 - (intOf kv).toNat)
  case atStart => exact ⟨0, by omega, rfl, by rw [Nat.zero_mul]; rfl⟩
  case round =>
    obtain ⟨k, hk, rfl, rfl⟩ := hrel
    by_cases hk2 : k < 2
    · have e2 : (k : Int) < 2 := by omega
      have HPL := Lib.hid (fun (i : Nat) (hi : i < l.length) => pl_twice hk2 hi)
      have hkn : k * n ≤ n := by
        have h2 : k = 0 ∨ k = 1 := by omega
        rcases h2 with rfl | rfl
        · rw [Nat.zero_mul]; omega
        · rw [Nat.one_mul]; exact Nat.le_refl _
      have EN1 := Lib.hid (show k * n + n = (k + 1) * n by rw [Nat.add_mul, Nat.one_mul])
      have E0 := Lib.hid (show k * n + 0 = k * n from rfl)
      rw [← EL.out] at HPL
      obtain ⟨q, eq⟩ : ∃ q, q = k * n := ⟨_, rfl⟩
      rw [← eq] at HPL hkn EN1 E0 ⊢
      clear eq
      go_wp2
      go_loop [9, 11] (fun sv iv => ∃ i : Nat, i ≤ n ∧ iv = .int .i64 (i : Int) ∧ sv = .string ⟨(twS l (q + i)).toArray⟩) (fun _ iv => 21 - (intOf iv).toNat)
      case atStart => exact ⟨0, Nat.zero_le _, rfl, rfl⟩
      case round =>
        obtain ⟨i, hi, rfl, rfl⟩ := hrel
        by_cases hin : i < n
        · have e3 : (i : Int) < (n : Int) := by omega
          have e4 : (0 : Int) ≤ (i : Int) := by omega
          have him : i < l.length := by rw [← EL.out]; exact hin
          have hpq := HPL.out i hin
          have hkx := KK.out i him
          obtain ⟨b0, o0, rfl, _, h1⟩ := rd_txt RL.out him
          have hqi : q + i < (l ++ l).length := by rw [E2.out]; omega
          have hsl := TL.out (q + i)
          have hz := fun (h : q + i = 0) => tw_zero (l := l) (by omega)
          have hnx := fun (h : q + i ≠ 0) => tw_next hqi h
          have htn := fun (h : q + i ≠ 0) => TN.out (q + i) h (by omega)
          obtain ⟨x, ex⟩ : ∃ x, x = pl l i := ⟨_, rfl⟩
          rw [hpq] at hnx
          have hp0 : q + i = 0 → pl (l ++ l) 0 = pl l i := fun e => by rw [← hpq, e]
          rw [← ex] at h1 hkx hnx hp0
          have hxl := real_len hkx
          have hx0 := real_pos hkx
          have ex0 : (0 : Int) < (x.length : Int) := by omega
          have t0 := slash_at hkx hx0
          obtain ⟨Sj, eS⟩ : ∃ S, S = twS l (q + i) := ⟨_, rfl⟩
          have E1 : q + (i + 1) = q + i + 1 := by omega
          obtain ⟨S2, eS2⟩ : ∃ S, S = twS l (q + (i + 1)) := ⟨_, rfl⟩
          have hS0 : q + i = 0 → Sj = [] := fun e => by rw [eS, e]; rfl
          rw [E1] at eS2
          rw [← eS] at hsl hnx htn ⊢
          rw [← eS2] at hnx
          have hz2 : q + i = 0 → S2 = oneF x := fun e => by rw [eS2, e, hz e, hp0 e]
          rw [← E1] at eS2
          have ES2 := Lib.hid eS2
          clear eS eS2 E1 hpq hz hp0 ex hqi him
          by_cases hj : q + i = 0
          · have hSj := hS0 hj
            subst hSj
            rcases kind_cases hkx with k1 | k1
            · rw [k1] at t0
              have EQ := Lib.hid (show ByteArray.mk #[] ++ ByteArray.mk x.toArray = ByteArray.mk S2.toArray by rw [hz2 hj, oneF, if_neg (by omega)]; exact mk_append [] x)
              clear hz2 hnx htn hS0 hkx k1 hj
              go_wp2
              go_round
              case rel => exact ⟨i + 1, by omega, by go_num, by rw [← ES2.out, ← EQ.out]⟩
              case measure => simp [intOf]; omega
            · rw [k1] at t0
              have EQ := Lib.hid (show ByteArray.mk #[] ++ ByteArray.mk #[32] ++ ByteArray.mk x.toArray = ByteArray.mk S2.toArray by
                rw [hz2 hj, oneF, if_pos k1, show ByteArray.mk #[] = ByteArray.mk ([] : L).toArray from rfl, show ByteArray.mk #[32] = ByteArray.mk ([32] : L).toArray from rfl, mk_append, mk_append]; rfl)
              clear hz2 hnx htn hS0 hkx k1 hj
              go_wp2
              go_round
              case rel => exact ⟨i + 1, by omega, by go_num, by rw [← ES2.out, ← EQ.out]⟩
              case measure => simp [intOf]; omega
          · have te : (Sj == []) = false := by simpa using htn hj
            rcases kind_cases hkx with k1 | k1
            · rw [k1] at t0
              have EQ := Lib.hid (show ByteArray.mk Sj.toArray ++ ByteArray.mk #[44] ++ ByteArray.mk x.toArray = ByteArray.mk S2.toArray by
                rw [hnx hj, oneF, if_neg (by omega), show ByteArray.mk #[44] = ByteArray.mk ([44] : L).toArray from rfl, mk_append, mk_append]; simp)
              clear hz2 hnx htn hS0 hkx k1 hj
              go_wp2
              go_round
              case rel => exact ⟨i + 1, by omega, by go_num, by rw [← ES2.out, ← EQ.out]⟩
              case measure => simp [intOf]; omega
            · rw [k1] at t0
              have EQ := Lib.hid (show ByteArray.mk Sj.toArray ++ ByteArray.mk #[44] ++ ByteArray.mk #[32] ++ ByteArray.mk x.toArray = ByteArray.mk S2.toArray by
                rw [hnx hj, oneF, if_pos k1, show ByteArray.mk #[44] = ByteArray.mk ([44] : L).toArray from rfl, show ByteArray.mk #[32] = ByteArray.mk ([32] : L).toArray from rfl, mk_append, mk_append, mk_append]; simp)
              clear hz2 hnx htn hS0 hkx k1 hj
              go_wp2
              go_round
              case rel => exact ⟨i + 1, by omega, by go_num, by rw [← ES2.out, ← EQ.out]⟩
              case measure => simp [intOf]; omega
        · have e3 : ¬ (i : Int) < (n : Int) := by omega
          have ei : i = n := by omega
          have ES := Lib.hid (show twS l (q + i) = twS l ((k + 1) * n) by rw [ei, EN1.out])
          clear ei
          go_wp2
          go_round
          case rel => exact ⟨k + 1, by omega, by go_num, by rw [ES.out]⟩
          case measure => simp [intOf]; omega
    · have ek : k = 2 := by omega
      subst ek
      have p2 := P2.out
      rw [← EL.out] at p2
      have P2' := Lib.hid p2
      clear p2 P2
      go_wp2_with (first
        | (go_at_call 16; refine Calls.mono (P2'.out _) ?_; rintro e w6 ⟨⟨v6, rfl, ho⟩, hb⟩; obtain ⟨A6, q6, rfl, r6⟩ := ho.slice; have R6 := Lib.hid r6; replace H := Lib.hid (H.out.trans (hb.mono H.out.size)); replace R5 := Lib.hid ((R5.out.below hb).more hb.size); clear ho hb r6)
        | (go_at_call 20; refine Calls.mono (X1.out _ _ _ _ _ _ R6.out R5.out) ?_; rintro e w7 ⟨rfl, hd⟩; have hb := hd.below; clear hd; replace H := Lib.hid (H.out.trans (hb.mono H.out.size)); clear hb)
        | (go_at_call 21; refine Calls.mono (CK.out _) ?_; rintro e w8 ⟨rfl, hb⟩; replace H := Lib.hid (H.out.trans (hb.mono H.out.size)); clear hb))
      go_ret
      exact ⟨rfl, H.out⟩
theorem twice_ (A : Option Addr) (l : List L) (c : Nat) (s1 s2 : ByteArray) (w : World) (hr : Rd w w.heap.size A (strs l)) (hl : l.length ≤ 1048576 ∧ ∀ x ∈ l, x.length ≤ 1048576) (h1 : s1.data.toList.length ≤ 1048576) (h2 : s2.data.toList.length ≤ 1048576) :
    Calls Try.prog 11 #[.slice A l.length c, .string s1, .string s2] w fun e w' => e = .returned (.bool true) ∧ Below w.heap.size w w' := by
  obtain ⟨a, rfl⟩ : ∃ a : L, s1 = ⟨a.toArray⟩ := ⟨_, bytes_eta s1⟩
  obtain ⟨b, rfl⟩ : ∃ a : L, s2 = ⟨a.toArray⟩ := ⟨_, bytes_eta s2⟩
  simp only at h1 h2
  have hsb := sum_bound hl.2
  have hsm : l.length * (1048576 + 1) ≤ 1048576 * (1048576 + 1) := Nat.mul_le_mul_right _ hl.1
  by_cases h6 : 600 < sumL l
  · exact twice_large l A c a b w hr (by omega) h6
  · have h6 : sumL l ≤ 600 := by omega
    by_cases h20 : 20 < l.length
    · exact twice_many l A c a b w hr hl.1 h6 h20
    · have h20 : l.length ≤ 20 := by omega
      cases ha : isL a with
      | false => exact twice_ends l A c a b w hr h6 h20 h1 h2 (.inl ha)
      | true =>
        cases hb : isL b with
        | false => exact twice_ends l A c a b w hr h6 h20 h1 h2 (.inr ⟨ha, hb⟩)
        | true =>
          rcases once_cases l with h | ⟨_, _, h⟩ | ⟨hall, h8, h⟩
          · exact twice_bad l A c a b w hr h6 h20 ha hb (by rw [h])
          · exact twice_bad l A c a b w hr h6 h20 ha hb (by rw [h])
          · exact twice_main l A c a b w hr h6 h20 ha hb hall h8 h
end Go.Proofs.Ytmgbhkhkbebfpaa.TrW
