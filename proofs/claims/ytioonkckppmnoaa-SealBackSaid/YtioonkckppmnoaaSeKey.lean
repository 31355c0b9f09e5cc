/-
  The law's own key of some bytes; what every law of chapter 4 ends with.
-/
import Derived.Test.YtioonkckppmnoaaSeOpen2
set_option linter.unusedVariables false
namespace Go.Proofs.Ytioonkckppmnoaa.Se
open Go.RowKit Go.Proofs.Ytioonkckppmnoaa.Mem

def ksOf (l : List UInt8) (i : Nat) : UInt8 := l.getD i 0
def ksTo (l : List UInt8) (n : Nat) (i : Nat) : UInt8 := if i < n then l.getD i 0 else 0
theorem key32_at (f : Nat → UInt8) (j : Nat) (hj : j < 32) : (key32 f)[j]? = some (bv (f j)) := by
  rw [key32, List.getElem?_toArray]; simp [hj]
theorem key32_congr {f g : Nat → UInt8} (h : ∀ j, j < 32 → f j = g j) : key32 f = key32 g := by
  unfold key32
  congr 1
  apply List.map_congr_left
  intro j hj
  rw [h j (by simpa using hj)]
theorem key32_set (l : List UInt8) (i : Nat) (hi : i < l.length) : (key32 (ksTo l i)).setIfInBounds i (bv l[i]) = key32 (ksTo l (i + 1)) := by
  unfold key32
  rw [List.setIfInBounds_toArray]
  congr 1
  apply List.ext_getElem?
  intro j
  rw [List.getElem?_set, List.getElem?_map, List.getElem?_map]
  by_cases hj : i = j
  · subst hj
    rcases Nat.lt_or_ge i 32 with h | h
    · simp [h, ksTo, hi]
    · simp [Nat.not_lt.2 h]
  · rw [if_neg hj]
    rcases Nat.lt_or_ge j 32 with h | h
    · have e : (j < i) = (j < i + 1) := propext ⟨by omega, by omega⟩
      simp [h, ksTo, e]
    · rw [List.getElem?_eq_none (by simpa using h)]; rfl
theorem ksTo_done (l : List UInt8) (i : Nat) (h : i = 32 ∨ l.length ≤ i) : key32 (ksTo l i) = key32 (ksOf l) := by
  refine key32_congr fun j hj => ?_
  unfold ksTo ksOf
  rcases h with h | h
  · rw [if_pos (by omega)]
  · by_cases hji : j < i
    · rw [if_pos hji]
    · rw [if_neg hji, List.getD_eq_getElem?_getD, List.getElem?_eq_none (by omega)]; rfl
end Go.Proofs.Ytioonkckppmnoaa.Se
