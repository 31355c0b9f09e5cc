/-
  NameLabels walked.
-/
import Derived.Test.YtpjilcngibaepaaNmLaw1
set_option linter.unusedVariables false
namespace Go.Proofs.Ytpjilcngibaepaa.NmW
open Go.RowKit Go.Proofs.Ytpjilcngibaepaa.Mem Go.Proofs.Ytpjilcngibaepaa.Nm
attribute [local go_sem] mk_append

/-- a label of m letters -/
def lbl (m : Nat) : L := List.replicate m 81
theorem lbl_succ (j : Nat) : lbl j ++ [81] = lbl (j + 1) := by rw [lbl, lbl, List.replicate_succ']
/-- so many labels of so many letters, of a kind -/
def bld (k m : Nat) : Nat → L
  | 0 => []
  | n + 1 => bld k m n ++ ((if k = 2 then [47] else if 0 < n then [46] else []) ++ lbl m)
theorem bld_len (k m n : Nat) (hm : m ≤ 12) : (bld k m n).length ≤ 13 * n := by
  induction n with
  | zero => simp [bld]
  | succ n ih =>
    rw [bld, List.length_append, List.length_append]
    have : (lbl m).length = m := by simp [lbl]
    split
    · simp; omega
    · split <;> simp <;> omega
def okB (n m : Nat) : Bool := decide (1 ≤ n) && decide (n ≤ 4) && decide (1 ≤ m) && decide (m ≤ 8)
theorem bld_kind : ∀ n, n < 9 → ∀ m, m < 13 → kindL (bld 1 m n) = (if okB n m then 1 else 0) ∧ kindL (bld 2 m n) = (if okB n m then 2 else 0) := by decide +kernel
theorem bld_kind' (n m k : Nat) (hn : n ≤ 8) (hm : m ≤ 12) (hk : k = 1 ∨ k = 2) : kindL (bld k m n) = if okB n m then k else 0 := by
  have h := bld_kind n (by omega) m (by omega)
  rcases hk with rfl | rfl
  · exact h.1
  · exact h.2
theorem tg_krb (r : L) : tgL (krb ++ r) = isL r := by
  have h : preL krb (krb ++ r) = true := by rw [preL, List.isPrefixOf_iff_prefix]; exact List.prefix_append _ _
  rw [tgL, h, cpL, if_pos h, Bool.true_and]
  congr 1
theorem word_a : wordL wordB [97] = true := by decide
theorem princ_a (r : L) : princL r [97] = isL r := by rw [princL, word_a, Bool.or_true, Bool.and_true]
theorem tgr_krb {r : L} (h : isL r = true) : tgR (krb ++ r) = r := by
  have h2 : preL krb (krb ++ r) = true := by rw [preL, List.isPrefixOf_iff_prefix]; exact List.prefix_append _ _
  have h3 : tgL (krb ++ r) = true := by rw [tgL, h2, cpL, if_pos h2, Bool.true_and]; exact h
  rw [tgR, if_pos h3]; rfl

set_option maxHeartbeats 3200000 in
set_option maxRecDepth 100000 in
theorem labels_yes (n m k : Nat) (w : World) (hn : n ≤ 8) (hm : m ≤ 12) (hk : k = 1 ∨ k = 2) : Calls Try.prog 8 #[.int .i64 (n : Int), .int .i64 (m : Int), .int .i64 (k : Int)] w fun e w' => e = .returned (.bool true) ∧ Below w.heap.size w w' := by
  have a1 : ¬ (n : Int) < 0 := by omega
  have a2 : ¬ (8 : Int) < (n : Int) := by omega
  have a3 : ¬ (m : Int) < 0 := by omega
  have a4 : ¬ (12 : Int) < (m : Int) := by omega
  have a5 : ¬ (k : Int) < 1 := by omega
  have a6 : ¬ (2 : Int) < (k : Int) := by omega
  have HK := Lib.hid hk
  clear hk
  go_enter Try.func8, Try.ntmps8
  go_wp2
  go_loop [7, 8] (fun sv iv => ∃ i : Nat, i ≤ n ∧ iv = .int .i64 (i : Int) ∧ sv = .string ⟨(bld k m i).toArray⟩) (fun _ iv => n - (intOf iv).toNat)
  case atStart => exact ⟨0, Nat.zero_le _, rfl, rfl⟩
  case round =>
    obtain ⟨i, hi, rfl, rfl⟩ := hrel
    by_cases hlt : i < n
    · have e1 : (i : Int) < (n : Int) := by omega
      have hbl : (bld k m i).length ≤ 104 := by have := bld_len k m i hm; omega
      by_cases hk2 : k = 2
      · have t2 : ((k : Int) == 2) = true := by simp; omega
        have HK2 := Lib.hid hk2; clear hk2
        go_wp2
        go_loop [7, 9] (fun sv jv => ∃ j : Nat, j ≤ m ∧ jv = .int .i64 (j : Int) ∧ sv = .string ⟨((bld k m i ++ [47]) ++ lbl j).toArray⟩) (fun _ jv => m - (intOf jv).toNat)
        case atStart => exact ⟨0, Nat.zero_le _, rfl, by simp [lbl]⟩
        case round =>
          obtain ⟨j, hj, rfl, rfl⟩ := hrel
          by_cases hjl : j < m
          · have e3 : (j : Int) < (m : Int) := by omega
            have hll : (lbl j).length ≤ 12 := by simp [lbl]; omega
            have E := Lib.hid (lbl_succ j)
            go_wp2
            go_round
            case rel => exact ⟨j + 1, by omega, by go_num, by simp [E.out]⟩
            case measure => simp [intOf]; omega
          · obtain rfl : j = m := by omega
            have e3 : ¬ (j : Int) < (j : Int) := by omega
            have E := Lib.hid (show (bld k j i ++ [47]) ++ lbl j = bld k j (i + 1) by rw [bld, if_pos HK2.out]; simp)
            go_wp2
            go_round
            case rel => exact ⟨i + 1, by omega, by go_num, by rw [E.out]⟩
            case measure => simp [intOf]; omega
      · have t2 : ((k : Int) == 2) = false := by simp; omega
        by_cases hi0 : 0 < i
        · have t3 : (0 : Int) < (i : Int) := by omega
          have HK2 := Lib.hid hk2; clear hk2
          have HI0 := Lib.hid hi0; clear hi0
          go_wp2
          go_loop [7, 9] (fun sv jv => ∃ j : Nat, j ≤ m ∧ jv = .int .i64 (j : Int) ∧ sv = .string ⟨((bld k m i ++ [46]) ++ lbl j).toArray⟩) (fun _ jv => m - (intOf jv).toNat)
          case atStart => exact ⟨0, Nat.zero_le _, rfl, by simp [lbl]⟩
          case round =>
            obtain ⟨j, hj, rfl, rfl⟩ := hrel
            by_cases hjl : j < m
            · have e3 : (j : Int) < (m : Int) := by omega
              have hll : (lbl j).length ≤ 12 := by simp [lbl]; omega
              have E := Lib.hid (lbl_succ j)
              go_wp2
              go_round
              case rel => exact ⟨j + 1, by omega, by go_num, by simp [E.out]⟩
              case measure => simp [intOf]; omega
            · obtain rfl : j = m := by omega
              have e3 : ¬ (j : Int) < (j : Int) := by omega
              have E := Lib.hid (show (bld k j i ++ [46]) ++ lbl j = bld k j (i + 1) by rw [bld, if_neg HK2.out, if_pos HI0.out]; simp)
              go_wp2
              go_round
              case rel => exact ⟨i + 1, by omega, by go_num, by rw [E.out]⟩
              case measure => simp [intOf]; omega
        · have t3 : ¬ (0 : Int) < (i : Int) := by omega
          have HK2 := Lib.hid hk2; clear hk2
          have HI0 := Lib.hid hi0; clear hi0
          go_wp2
          go_loop [7, 9] (fun sv jv => ∃ j : Nat, j ≤ m ∧ jv = .int .i64 (j : Int) ∧ sv = .string ⟨(bld k m i ++ lbl j).toArray⟩) (fun _ jv => m - (intOf jv).toNat)
          case atStart => exact ⟨0, Nat.zero_le _, rfl, by simp [lbl]⟩
          case round =>
            obtain ⟨j, hj, rfl, rfl⟩ := hrel
            by_cases hjl : j < m
            · have e3 : (j : Int) < (m : Int) := by omega
              have hll : (lbl j).length ≤ 12 := by simp [lbl]; omega
              have E := Lib.hid (lbl_succ j)
              go_wp2
              go_round
              case rel => exact ⟨j + 1, by omega, by go_num, by simp [E.out]⟩
              case measure => simp [intOf]; omega
            · obtain rfl : j = m := by omega
              have e3 : ¬ (j : Int) < (j : Int) := by omega
              have E := Lib.hid (show bld k j i ++ lbl j = bld k j (i + 1) by rw [bld, if_neg HK2.out, if_neg HI0.out]; simp)
              go_wp2
              go_round
              case rel => exact ⟨i + 1, by omega, by go_num, by rw [E.out]⟩
              case measure => simp [intOf]; omega
    · obtain rfl : i = n := by omega
      have e1 : ¬ (i : Int) < (i : Int) := by omega
      obtain ⟨S, eS⟩ : ∃ S, S = bld k m i := ⟨_, rfl⟩
      have hsl : S.length ≤ 104 := by rw [eS]; have := bld_len k m i hm; omega
      rw [← eS]
      have ES := Lib.hid eS; clear eS
      have G1 := Lib.hid (fun w1 => krbtgt_any S w1 (by omega))
      have k1 := fun w1 => kind_any S w1 (by omega)
      have p1 := fun w1 => isprinc_any S [97] w1 (by omega) (by decide)
      rw [princ_a] at p1
      have t1 := fun w1 => target_any (krb ++ S) w1 (by simp [krb]; omega)
      rw [tg_krb] at t1
      have CK := Lib.hid (fun w1 => known_any w1)
      have H := Lib.hid (Below.refl w.heap.size w)
      by_cases g1 : 1 ≤ i
      · have q1 : (1 : Int) ≤ (i : Int) := by omega
        by_cases g2 : i ≤ 4
        · have q2 : (i : Int) ≤ 4 := by omega
          by_cases g3 : 1 ≤ m
          · have q3 : (1 : Int) ≤ (m : Int) := by omega
            by_cases g4 : m ≤ 8
            · have q4 : (m : Int) ≤ 8 := by omega
              have hok : okB i m = true := by simp [okB]; omega
              have hk0 : kindL S = k := by rw [ES.out, bld_kind' i m k hn hm HK.out, if_pos hok]
              have hi0 : isL S = true := by have := HK.out; simp [isL, hk0]; omega
              rw [hk0] at k1
              rw [hi0] at p1 t1
              rw [tgr_krb hi0] at t1
              have K1 := Lib.hid k1; clear k1
              have P1 := Lib.hid p1; clear p1
              have T1 := Lib.hid t1; clear t1
              clear hk0 hi0 hok
              go_wp2_with (first
                | (go_at_call 27; with_reducible refine Calls.mono (G1.out _) ?_; rintro e w1 ⟨rfl, rfl⟩)
                | (go_at_call 12; with_reducible refine Calls.mono (T1.out _) ?_; rintro e w2 ⟨rfl, hb⟩; replace H := Lib.hid (H.out.trans (hb.mono H.out.size)); clear hb)
                | (go_at_call 14; with_reducible refine Calls.mono (K1.out _) ?_; rintro e w3 ⟨rfl, hd⟩; have hb := hd.below; clear hd; replace H := Lib.hid (H.out.trans (hb.mono H.out.size)); clear hb)
                | (go_at_call 29; with_reducible refine Calls.mono (P1.out _) ?_; rintro e w4 ⟨rfl, hb⟩; replace H := Lib.hid (H.out.trans (hb.mono H.out.size)); clear hb)
                | (go_at_call 31; with_reducible refine Calls.mono (CK.out _) ?_; rintro e w5 ⟨rfl, hb⟩; replace H := Lib.hid (H.out.trans (hb.mono H.out.size)); clear hb))
              go_ret
              exact ⟨rfl, H.out⟩
            · have q4 : ¬ (m : Int) ≤ 8 := by omega
              have hk0 : kindL S = 0 := by rw [ES.out, bld_kind' i m k hn hm HK.out, okB]; simp; omega
              have hi0 : isL S = false := by simp [isL, hk0]
              rw [hk0] at k1
              rw [hi0] at p1 t1
              have K1 := Lib.hid k1; clear k1
              have P1 := Lib.hid p1; clear p1
              have T1 := Lib.hid t1; clear t1
              clear hk0 hi0
              go_wp2_with (first
                | (go_at_call 27; with_reducible refine Calls.mono (G1.out _) ?_; rintro e w1 ⟨rfl, rfl⟩)
                | (go_at_call 12; with_reducible refine Calls.mono (T1.out _) ?_; rintro e w2 ⟨rfl, hb⟩; replace H := Lib.hid (H.out.trans (hb.mono H.out.size)); clear hb)
                | (go_at_call 14; with_reducible refine Calls.mono (K1.out _) ?_; rintro e w3 ⟨rfl, hd⟩; have hb := hd.below; clear hd; replace H := Lib.hid (H.out.trans (hb.mono H.out.size)); clear hb)
                | (go_at_call 29; with_reducible refine Calls.mono (P1.out _) ?_; rintro e w4 ⟨rfl, hb⟩; replace H := Lib.hid (H.out.trans (hb.mono H.out.size)); clear hb)
                | (go_at_call 31; with_reducible refine Calls.mono (CK.out _) ?_; rintro e w5 ⟨rfl, hb⟩; replace H := Lib.hid (H.out.trans (hb.mono H.out.size)); clear hb))
              go_ret
              exact ⟨rfl, H.out⟩
          · have q3 : ¬ (1 : Int) ≤ (m : Int) := by omega
            have hk0 : kindL S = 0 := by rw [ES.out, bld_kind' i m k hn hm HK.out, okB]; simp; omega
            have hi0 : isL S = false := by simp [isL, hk0]
            rw [hk0] at k1
            rw [hi0] at p1 t1
            have K1 := Lib.hid k1; clear k1
            have P1 := Lib.hid p1; clear p1
            have T1 := Lib.hid t1; clear t1
            clear hk0 hi0
            go_wp2_with (first
              | (go_at_call 27; with_reducible refine Calls.mono (G1.out _) ?_; rintro e w1 ⟨rfl, rfl⟩)
              | (go_at_call 12; with_reducible refine Calls.mono (T1.out _) ?_; rintro e w2 ⟨rfl, hb⟩; replace H := Lib.hid (H.out.trans (hb.mono H.out.size)); clear hb)
              | (go_at_call 14; with_reducible refine Calls.mono (K1.out _) ?_; rintro e w3 ⟨rfl, hd⟩; have hb := hd.below; clear hd; replace H := Lib.hid (H.out.trans (hb.mono H.out.size)); clear hb)
              | (go_at_call 29; with_reducible refine Calls.mono (P1.out _) ?_; rintro e w4 ⟨rfl, hb⟩; replace H := Lib.hid (H.out.trans (hb.mono H.out.size)); clear hb)
              | (go_at_call 31; with_reducible refine Calls.mono (CK.out _) ?_; rintro e w5 ⟨rfl, hb⟩; replace H := Lib.hid (H.out.trans (hb.mono H.out.size)); clear hb))
            go_ret
            exact ⟨rfl, H.out⟩
        · have q2 : ¬ (i : Int) ≤ 4 := by omega
          have hk0 : kindL S = 0 := by rw [ES.out, bld_kind' i m k hn hm HK.out, okB]; simp; omega
          have hi0 : isL S = false := by simp [isL, hk0]
          rw [hk0] at k1
          rw [hi0] at p1 t1
          have K1 := Lib.hid k1; clear k1
          have P1 := Lib.hid p1; clear p1
          have T1 := Lib.hid t1; clear t1
          clear hk0 hi0
          go_wp2_with (first
            | (go_at_call 27; with_reducible refine Calls.mono (G1.out _) ?_; rintro e w1 ⟨rfl, rfl⟩)
            | (go_at_call 12; with_reducible refine Calls.mono (T1.out _) ?_; rintro e w2 ⟨rfl, hb⟩; replace H := Lib.hid (H.out.trans (hb.mono H.out.size)); clear hb)
            | (go_at_call 14; with_reducible refine Calls.mono (K1.out _) ?_; rintro e w3 ⟨rfl, hd⟩; have hb := hd.below; clear hd; replace H := Lib.hid (H.out.trans (hb.mono H.out.size)); clear hb)
            | (go_at_call 29; with_reducible refine Calls.mono (P1.out _) ?_; rintro e w4 ⟨rfl, hb⟩; replace H := Lib.hid (H.out.trans (hb.mono H.out.size)); clear hb)
            | (go_at_call 31; with_reducible refine Calls.mono (CK.out _) ?_; rintro e w5 ⟨rfl, hb⟩; replace H := Lib.hid (H.out.trans (hb.mono H.out.size)); clear hb))
          go_ret
          exact ⟨rfl, H.out⟩
      · have q1 : ¬ (1 : Int) ≤ (i : Int) := by omega
        have hk0 : kindL S = 0 := by rw [ES.out, bld_kind' i m k hn hm HK.out, okB]; simp; omega
        have hi0 : isL S = false := by simp [isL, hk0]
        rw [hk0] at k1
        rw [hi0] at p1 t1
        have K1 := Lib.hid k1; clear k1
        have P1 := Lib.hid p1; clear p1
        have T1 := Lib.hid t1; clear t1
        clear hk0 hi0
        go_wp2_with (first
          | (go_at_call 27; with_reducible refine Calls.mono (G1.out _) ?_; rintro e w1 ⟨rfl, rfl⟩)
          | (go_at_call 12; with_reducible refine Calls.mono (T1.out _) ?_; rintro e w2 ⟨rfl, hb⟩; replace H := Lib.hid (H.out.trans (hb.mono H.out.size)); clear hb)
          | (go_at_call 14; with_reducible refine Calls.mono (K1.out _) ?_; rintro e w3 ⟨rfl, hd⟩; have hb := hd.below; clear hd; replace H := Lib.hid (H.out.trans (hb.mono H.out.size)); clear hb)
          | (go_at_call 29; with_reducible refine Calls.mono (P1.out _) ?_; rintro e w4 ⟨rfl, hb⟩; replace H := Lib.hid (H.out.trans (hb.mono H.out.size)); clear hb)
          | (go_at_call 31; with_reducible refine Calls.mono (CK.out _) ?_; rintro e w5 ⟨rfl, hb⟩; replace H := Lib.hid (H.out.trans (hb.mono H.out.size)); clear hb))
        go_ret
        exact ⟨rfl, H.out⟩

theorem labels_no (n m k : Int) (w : World) (hs : n < 0 ∨ 8 < n ∨ m < 0 ∨ 12 < m ∨ k < 1 ∨ 2 < k) : Calls Try.prog 8 #[.int .i64 n, .int .i64 m, .int .i64 k] w fun e w' => e = .returned (.bool true) ∧ Below w.heap.size w w' := by
  have CK := Lib.hid (fun w1 => known_any w1)
  have H := Lib.hid (Below.refl w.heap.size w)
  have t : (n < 0) ∨ (¬ n < 0 ∧ 8 < n) ∨ (¬ n < 0 ∧ ¬ 8 < n ∧ m < 0) ∨ (¬ n < 0 ∧ ¬ 8 < n ∧ ¬ m < 0 ∧ 12 < m) ∨ (¬ n < 0 ∧ ¬ 8 < n ∧ ¬ m < 0 ∧ ¬ 12 < m ∧ k < 1) ∨ (¬ n < 0 ∧ ¬ 8 < n ∧ ¬ m < 0 ∧ ¬ 12 < m ∧ ¬ k < 1 ∧ 2 < k) := by omega
  clear hs
  rcases t with h1 | ⟨h1, h2⟩ | ⟨h1, h2, h3⟩ | ⟨h1, h2, h3, h4⟩ | ⟨h1, h2, h3, h4, h5⟩ | ⟨h1, h2, h3, h4, h5, h6⟩ <;> (
    go_enter Try.func8, Try.ntmps8
    go_wp2_with (go_at_call 31; with_reducible refine Calls.mono (CK.out _) ?_; rintro e w5 ⟨rfl, hb⟩; replace H := Lib.hid (H.out.trans (hb.mono H.out.size)); clear hb)
    go_ret
    exact ⟨rfl, H.out⟩)
theorem labels_ (n m k : Int) (w : World) (_ : (Lit.int .i64 n).wf = true) (_ : (Lit.int .i64 m).wf = true) (_ : (Lit.int .i64 k).wf = true) : Calls Try.prog 8 #[.int .i64 n, .int .i64 m, .int .i64 k] w fun e w' => e = .returned (.bool true) ∧ Below w.heap.size w w' := by
  by_cases h : n < 0 ∨ 8 < n ∨ m < 0 ∨ 12 < m ∨ k < 1 ∨ 2 < k
  · exact labels_no n m k w h
  · obtain ⟨n', rfl⟩ : ∃ q : Nat, n = (q : Int) := ⟨n.toNat, by omega⟩
    obtain ⟨m', rfl⟩ : ∃ q : Nat, m = (q : Int) := ⟨m.toNat, by omega⟩
    obtain ⟨k', rfl⟩ : ∃ q : Nat, k = (q : Int) := ⟨k.toNat, by omega⟩
    exact labels_yes n' m' k' w (by omega) (by omega) (by omega)
end Go.Proofs.Ytpjilcngibaepaa.NmW
