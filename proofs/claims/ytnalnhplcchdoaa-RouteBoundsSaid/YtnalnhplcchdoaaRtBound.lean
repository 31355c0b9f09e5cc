/-
  RouteBounds walked.
-/
import Derived.Test.YtnalnhplcchdoaaRtAux
import Derived.Test.YtnalnhplcchdoaaRtRef7
import Derived.Test.YtnalnhplcchdoaaRtIs3
import Derived.Test.YtnalnhplcchdoaaRtNext
set_option linter.unusedVariables false
set_option linter.unusedSimpArgs false
namespace Go.Proofs.Ytnalnhplcchdoaa.RtW
open Go.RowKit Go.Proofs.Ytnalnhplcchdoaa.Mem Go.Proofs.Ytnalnhplcchdoaa.Nm Go.Proofs.Ytnalnhplcchdoaa.Rt

/-- realm number i: one letter -/
def rl (i : Nat) : L := [UInt8.ofNat (65 + i)]
def rowN (n : Nat) : List L := (List.range n).map rl
def one (i j : Nat) : List Pr := if i = j then [] else [(rl i, rl j)]
/-- all pairs of two ahead of (i, j), row by row -/
def ups (n i j : Nat) : List Pr := ((List.range i).flatMap fun a => (List.range n).flatMap (one a)) ++ (List.range j).flatMap (one i)
theorem row_len (n : Nat) : (rowN n).length = n := by simp [rowN]
theorem row_at {n i : Nat} (h : i < n) : pl (rowN n) i = rl i := by
  rw [pl_lt (by rw [row_len]; exact h)]; simp [rowN]
theorem row_next (n : Nat) : rowN (n + 1) = rowN n ++ [rl n] := by simp [rowN, List.range_succ]
theorem ups_zero (n : Nat) : ups n 0 0 = [] := rfl
theorem ups_row (n i : Nat) : ups n i n = ups n (i + 1) 0 := by simp [ups, List.range_succ]
theorem ups_next (n i j : Nat) : ups n i (j + 1) = ups n i j ++ one i j := by simp [ups, List.range_succ]
theorem ups_same {n i j : Nat} (h : i = j) : ups n i (j + 1) = ups n i j := by rw [ups_next, one, if_pos h, List.append_nil]
theorem ups_one {n i j : Nat} (h : i ≠ j) : ups n i (j + 1) = ups n i j ++ [(rl i, rl j)] := by rw [ups_next, one, if_neg h]
theorem take_more {α : Type} {P : List α} {x : α} {m : Nat} (h : (P.take m).length < m) : (P ++ [x]).take m = P.take m ++ [x] := by
  rw [List.length_take] at h
  have h1 : P.length < m := by omega
  rw [List.take_of_length_le (by omega : P.length ≤ m), List.take_of_length_le (by simp; omega)]
theorem take_full {α : Type} {P : List α} {x : α} {m : Nat} (h : ¬ (P.take m).length < m) : (P ++ [x]).take m = P.take m := by
  rw [List.length_take] at h
  rw [List.take_append_of_le_length (by omega)]
/-- what is built -/
def kN (n m : Nat) : List Pr := (ups n n 0).take m
def okN (n m : Nat) : Bool := decide (1 ≤ n) && (decide (n ≤ 6) && decide ((kN n m).length ≤ 20))
theorem bn_all : ∀ n, n < 10 → ∀ m, m < 41 → isT ⟨rowN n, kN n m, []⟩ = okN n m := by decide +kernel
theorem bn_one : ∀ n, n < 10 → 2 ≤ n → ∀ m, m < 41 → isT ⟨(rowN n).set 1 (rl 0), kN n m, []⟩ = false := by decide +kernel
theorem bn_two : ∀ n, n < 10 → 2 ≤ n → ∀ m, m < 41 → isT ⟨rowN n, kN n m ++ [([65], [65])], []⟩ = false := by decide +kernel
theorem bn_three : ∀ n, n < 10 → 2 ≤ n → ∀ m, m < 41 → isT ⟨rowN n, kN n m ++ [([65], [90])], []⟩ = false := by decide +kernel
theorem bn_four : ∀ n, n < 10 → 2 ≤ n → ∀ m, m < 41 → isT ⟨rowN n, kN n m, [⟨[65], [66], [[65]]⟩]⟩ = false := by decide +kernel
end Go.Proofs.Ytnalnhplcchdoaa.RtW
