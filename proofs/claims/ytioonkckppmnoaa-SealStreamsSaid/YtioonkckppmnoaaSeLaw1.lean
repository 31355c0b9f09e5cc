/-
  The laws of a nil Box, and of what was sealed and opens.
-/
import Derived.Test.YtioonkckppmnoaaSeKnown
set_option linter.unusedVariables false
namespace Go.Proofs.Ytioonkckppmnoaa.SeL
open Go.RowKit Go.Proofs.Ytioonkckppmnoaa.Mem Go.Proofs.Ytioonkckppmnoaa.Se

theorem below_chg {S : Nat → Prop} {a w c : World} {B : Nat} (h : Below B a w) (hB : B ≤ w.heap.size) (k : Chg S w c) (hs : ∀ i, i < w.heap.size → S i → B ≤ i) : Below B a c := h.trans (k.below hB hs)
theorem Ow_none {b i : Nat} (h : Ow b none i) : i = b := by
  rcases h with h | h
  · exact h
  · cases h
theorem Ow_some {b g i : Nat} (h : Ow b (some g) i) : i = b ∨ i = g := by
  rcases h with h | h
  · exact .inl h
  · injection h with h; exact .inr h.symm
theorem Step.ge {w w' : World} {b g : Nat} (h : Step w w' b none g) : w.heap.size ≤ g := by
  rcases h.2 with h | ⟨_, h⟩
  · cases h
  · exact h

set_option maxRecDepth 100000 in
set_option maxHeartbeats 1600000 in
theorem ofNothing (A : Option Addr) (l : List UInt8) (c : Nat) (w : World) (hr : Rd w w.heap.size A (bvs l)) (hc : l.length ≤ c) (hm : c ≤ maxLen) :
    Calls Try.prog 8 #[.slice A l.length c] w fun e w' => e = .returned (.bool true) ∧ Below w.heap.size w w' := by
  have c1 := seal_nil 1 1 (.slice A l.length c) w
  have c2 := open_nil 1 (.slice A l.length c) w
  have c3 := counts_nil w
  have c4 := known_any w
  clear hr hc hm
  go_enter Try.func8, Try.ntmps8
  go_wp2_with (first
    | (go_at_call 14; refine Calls.mono c1 ?_; rintro e w' ⟨rfl, rfl⟩)
    | (go_at_call 16; refine Calls.mono c2 ?_; rintro e w' ⟨rfl, rfl⟩)
    | (go_at_call 19; refine Calls.mono c3 ?_; rintro e w' ⟨rfl, rfl⟩)
    | (go_at_call 18; refine Calls.mono c4 ?_; rintro e w' ⟨rfl, hb⟩))
  · go_ret
    exact ⟨rfl, Below.refl _ _⟩
  · go_ret
    exact ⟨rfl, hb⟩
end Go.Proofs.Ytioonkckppmnoaa.SeL
