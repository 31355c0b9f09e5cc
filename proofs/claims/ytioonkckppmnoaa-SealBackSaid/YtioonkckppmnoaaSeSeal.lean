/-
  Seal, the code's.
-/
import Derived.Test.YtioonkckppmnoaaSeTag
set_option linter.unusedVariables false
namespace Go.Proofs.Ytioonkckppmnoaa.Se
open Go.RowKit Go.Proofs.Ytioonkckppmnoaa.Mem

theorem own_rda {S : Nat → Prop} {w : World} {base n : Nat} {v : Value} {xs : List Value} {t : TypeId} (h : w.ownsRow base t 1 v n xs) (hs : ∀ k, v.ownBlock = some k → ¬ S k) : ∃ A c, v = .slice A n c ∧ n ≤ c ∧ c ≤ maxLen ∧ RdA S w A xs := by
  have h0 := h
  obtain ⟨hl, ⟨rfl, hn⟩ | ⟨g, cap, cur, rfl, _, hh, hcap, hml, _⟩⟩ := h
  · subst hn
    exact ⟨none, 0, rfl, Nat.le_refl _, Nat.zero_le _, .inl (List.eq_nil_of_length_eq_zero (by simpa using hl))⟩
  · refine ⟨_, cap, rfl, hcap, hml, .inr ⟨g, 0, rfl, (Array.getElem?_eq_some_iff.1 hh).1, hs g rfl, fun i u hu => ?_⟩⟩
    have := h0.cells (g := g) rfl i u hu
    rwa [addr_add] at this
end Go.Proofs.Ytioonkckppmnoaa.Se
