/-
  What the turning functions do, the code's and the document's: by their contracts over the plain mathematics.
-/
import Derived.Test.YtioonkckppmnoaaProg
import Derived.Test.YtioonkckppmnoaaSpPlain
set_option linter.unusedVariables false
namespace Go.Proofs.Ytioonkckppmnoaa.Sp
open Go.RowKit Go.Proofs.Ytioonkckppmnoaa.Mem

theorem rotL3 (v : Wd) (w : World) : Calls Try.prog 71 #[wv v, .int .i64 3] w fun e w' => e = .returned (wv (rot v 3)) ∧ w' = w := by
  have hand : bits .and .u64 3 31 = 3 := by kernel_rfl
  have hr := or3 v
  go_enter Try.func71, Try.ntmps71
  go_wp2
  go_ret
  exact ⟨rfl, rfl⟩
theorem rotL8 (v : Wd) (w : World) : Calls Try.prog 71 #[wv v, .int .i64 8] w fun e w' => e = .returned (wv (rot v 8)) ∧ w' = w := by
  have hand : bits .and .u64 8 31 = 8 := by kernel_rfl
  have hr := or8 v
  go_enter Try.func71, Try.ntmps71
  go_wp2
  go_ret
  exact ⟨rfl, rfl⟩
theorem rotR3 (v : Wd) (w : World) : Calls Try.prog 71 #[wv v, .int .i64 (-3)] w fun e w' => e = .returned (wv (rot v 29)) ∧ w' = w := by
  have hwr : IntKind.u64.wrap (-3) = 18446744073709551613 := by kernel_rfl
  have hand : bits .and .u64 18446744073709551613 31 = 29 := by kernel_rfl
  have hr := or29 v
  go_enter Try.func71, Try.ntmps71
  go_wp2
  go_ret
  exact ⟨rfl, rfl⟩
theorem rotR8 (v : Wd) (w : World) : Calls Try.prog 71 #[wv v, .int .i64 (-8)] w fun e w' => e = .returned (wv (rot v 24)) ∧ w' = w := by
  have hwr : IntKind.u64.wrap (-8) = 18446744073709551608 := by kernel_rfl
  have hand : bits .and .u64 18446744073709551608 31 = 24 := by kernel_rfl
  have hr := or24 v
  go_enter Try.func71, Try.ntmps71
  go_wp2
  go_ret
  exact ⟨rfl, rfl⟩
theorem left3 (v : Wd) (w : World) : Calls Try.prog 61 #[wv v, .int .i64 3] w fun e w' => e = .returned (wv (rot v 3)) ∧ w' = w := by
  go_enter Try.func61, Try.ntmps61
  go_wp2_with (go_at_call 71; refine (rotL3 _ _).mono ?_; rintro e w' ⟨rfl, rfl⟩)
  go_ret
  exact ⟨rfl, rfl⟩
theorem left8 (v : Wd) (w : World) : Calls Try.prog 61 #[wv v, .int .i64 8] w fun e w' => e = .returned (wv (rot v 8)) ∧ w' = w := by
  go_enter Try.func61, Try.ntmps61
  go_wp2_with (go_at_call 71; refine (rotL8 _ _).mono ?_; rintro e w' ⟨rfl, rfl⟩)
  go_ret
  exact ⟨rfl, rfl⟩
theorem right3 (v : Wd) (w : World) : Calls Try.prog 60 #[wv v, .int .i64 3] w fun e w' => e = .returned (wv (rot v 29)) ∧ w' = w := by
  go_enter Try.func60, Try.ntmps60
  go_wp2_with (go_at_call 71; refine (rotR3 _ _).mono ?_; rintro e w' ⟨rfl, rfl⟩)
  go_ret
  exact ⟨rfl, rfl⟩
theorem right8 (v : Wd) (w : World) : Calls Try.prog 60 #[wv v, .int .i64 8] w fun e w' => e = .returned (wv (rot v 24)) ∧ w' = w := by
  go_enter Try.func60, Try.ntmps60
  go_wp2_with (go_at_call 71; refine (rotR8 _ _).mono ?_; rintro e w' ⟨rfl, rfl⟩)
  go_ret
  exact ⟨rfl, rfl⟩

/-! ### the document's own -/
theorem dleft3 (v : Wd) (w : World) : Calls Try.prog 37 #[wv v, .int .u64 3] w fun e w' => e = .returned (wv (rot v 3)) ∧ w' = w := by
  have hr := or3 v
  go_enter Try.func37, Try.ntmps37
  go_wp2
  go_ret
  exact ⟨rfl, rfl⟩
theorem dleft8 (v : Wd) (w : World) : Calls Try.prog 37 #[wv v, .int .u64 8] w fun e w' => e = .returned (wv (rot v 8)) ∧ w' = w := by
  have hr := or8 v
  go_enter Try.func37, Try.ntmps37
  go_wp2
  go_ret
  exact ⟨rfl, rfl⟩
theorem dright3 (v : Wd) (w : World) : Calls Try.prog 36 #[wv v, .int .u64 3] w fun e w' => e = .returned (wv (rot v 29)) ∧ w' = w := by
  have hr := ro29 v
  go_enter Try.func36, Try.ntmps36
  go_wp2
  go_ret
  exact ⟨rfl, rfl⟩
theorem dright8 (v : Wd) (w : World) : Calls Try.prog 36 #[wv v, .int .u64 8] w fun e w' => e = .returned (wv (rot v 24)) ∧ w' = w := by
  have hr := ro24 v
  go_enter Try.func36, Try.ntmps36
  go_wp2
  go_ret
  exact ⟨rfl, rfl⟩
end Go.Proofs.Ytioonkckppmnoaa.Sp
