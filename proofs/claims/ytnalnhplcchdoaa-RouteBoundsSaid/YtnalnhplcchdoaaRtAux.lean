/-
  Small facts for the laws of chapter 7.
-/
import Derived.Test.YtnalnhplcchdoaaRtBig
import Derived.Test.YtnalnhplcchdoaaRtEx
set_option linter.unusedVariables false
namespace Go.Proofs.Ytnalnhplcchdoaa.RtW
open Go.RowKit Go.Proofs.Ytnalnhplcchdoaa.Mem Go.Proofs.Ytnalnhplcchdoaa.Nm Go.Proofs.Ytnalnhplcchdoaa.Rt

theorem sl_out {w : World} {B : Nat} {v : Value} {ls : List L} (h : SlV w B v ls) : ∃ A c, v = .slice A ls.length c ∧ ls.length ≤ c ∧ Rd w B A (strs ls) := h
theorem walkf_len {T : Tp} {a b : L} : ∀ (g : Nat) (x : L) (l m : List L), l.length ≤ 5 → walkF T a b g x l = some m → m.length ≤ 5
  | 0, _, _, _, _, h => by cases h
  | g + 1, x, l, m, hl, h => by
    rw [walkF] at h
    by_cases h1 : x = b
    · rw [if_pos h1] at h; injection h with h; rw [← h]; exact hl
    · rw [if_neg h1] at h
      cases hn : nextO T x b with
      | none => rw [hn] at h; cases h
      | some n =>
        rw [hn] at h
        simp only at h
        by_cases h2 : n = a ∨ n ∈ l
        · rw [if_pos h2] at h; cases h
        · rw [if_neg h2] at h
          by_cases h3 : 5 < (if n = b then l else l ++ [n]).length
          · rw [if_pos h3] at h; cases h
          · rw [if_neg h3] at h
            exact walkf_len g n _ m (by omega) h
theorem wk_len (T : Tp) (a b : L) : (wkL T a b).length ≤ 5 := by
  rw [wkL]
  cases h : walkO T a b with
  | none => simp
  | some m => exact walkf_len 7 a [] m (by simp) h
theorem real_small {T : Tp} (hs : Sm T) (i : Nat) : (pl T.R i).length ≤ 3000 := by
  rcases Nat.lt_or_ge i T.R.length with g | g
  · exact hs.rt _ (pl_mem g)
  · rw [pl_ge g]; simp
theorem ist_len {T : Tp} (h : isT T = true) : 1 ≤ T.R.length ∧ T.R.length ≤ 6 := by
  rw [isT, Bool.and_eq_true, Bool.and_eq_true, decide_eq_true_eq, decide_eq_true_eq] at h
  exact h.1

end Go.Proofs.Ytnalnhplcchdoaa.RtW
