/-
  A Cursor that erred, and a Cursor whose next element is of another tag: what is taken of it.
-/
import Derived.Test.YtkkpcnibghndgaaDerKnown
namespace Go.Proofs.Ytkkpcnibghndgaa.DerC
open Go.RowKit Go.Proofs.Ytkkpcnibghndgaa.Mem Go.Proofs.Ytkkpcnibghndgaa.DerP

theorem int_erred (g : Nat) (w : World) (h : Cur w g none) : Calls Try.prog 24 #[.pointer (some ⟨g, 0, none⟩)] w fun e w' =>
    e = .returned (.int .i64 0) ∧ Cur w' g none ∧ w.grownBy w' (some g) := int_any g none w h (by simp)
theorem octets_none (g : Nat) (c : Option L) (w : World) (h : Cur w g c) (hs : ((c.getD []).length : Int) ≤ 100000) (hb : bodyC 4 c = none) : Calls Try.prog 26 #[.pointer (some ⟨g, 0, none⟩)] w fun e w' =>
    (∃ b cap, e = .returned (.slice (some ⟨b, 0, none⟩) 0 cap)) ∧ Cur w' g none ∧ w.grownBy w' (some g) := by
  refine (octets_any g c w h hs).mono ?_
  rw [hb, body_next 4 c hb]
  rintro e w' ⟨⟨b, cap, rfl, _, _⟩, h2, h3⟩
  exact ⟨⟨b, cap, rfl⟩, h2, h3⟩
theorem text_erred (g : Nat) (w : World) (h : Cur w g none) : Calls Try.prog 28 #[.pointer (some ⟨g, 0, none⟩)] w fun e w' =>
    e = .returned (.string ⟨([] : List UInt8).toArray⟩) ∧ Cur w' g none ∧ w.grownBy w' (some g) := text_any g none w h (by simp)
theorem left_erred (g : Nat) (w : World) (h : Cur w g none) : Calls Try.prog 35 #[.pointer (some ⟨g, 0, none⟩)] w fun e w' =>
    e = .returned (.int .i64 0) ∧ w = w' := left_any g none w h
theorem whole_erred (g : Nat) (w : World) (h : Cur w g none) : Calls Try.prog 33 #[.pointer (some ⟨g, 0, none⟩)] w fun e w' =>
    e = .returned (.bool false) ∧ w = w' := whole_any g none w h
theorem good_erred (g : Nat) (w : World) (h : Cur w g none) : Calls Try.prog 32 #[.pointer (some ⟨g, 0, none⟩)] w fun e w' =>
    e = .returned (.bool false) ∧ w = w' := good_any g none w h
theorem enc_other (n : Int) (r : L) (t : UInt8) (h : t ≠ 2) : bodyC t (some (encI n ++ r)) = none := by
  have : splitL t (encI n ++ r) = none := by
    show splitL t (2 :: _) = none
    exact split_tag (fun e => h e.symm)
  exact (body_none this).1

end Go.Proofs.Ytkkpcnibghndgaa.DerC
