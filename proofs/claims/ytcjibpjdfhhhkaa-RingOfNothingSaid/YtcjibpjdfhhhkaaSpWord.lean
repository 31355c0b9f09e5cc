/-
  What the turning functions do, the code's and the document's: by their contracts over the plain mathematics.
-/
import Derived.Test.YtcjibpjdfhhhkaaProg
import Derived.Test.YtcjibpjdfhhhkaaSpPlain
set_option linter.unusedVariables false
namespace Go.Proofs.Ytcjibpjdfhhhkaa.Sp
open Go.RowKit Go.Proofs.Ytcjibpjdfhhhkaa.Mem

theorem rotL3 (v : Wd) (w : World) : Calls Try.prog 78 #[wv v, .int .i64 3] w fun e w' => e = .returned (wv (rot v 3)) ∧ w' = w := by
  have hand : bits .and .u64 3 31 = 3 := by kernel_rfl
  have hr := or3 v
  go_enter Try.func78, Try.ntmps78
  go_wp2
  go_ret
  exact ⟨rfl, rfl⟩
theorem rotL8 (v : Wd) (w : World) : Calls Try.prog 78 #[wv v, .int .i64 8] w fun e w' => e = .returned (wv (rot v 8)) ∧ w' = w := by
  have hand : bits .and .u64 8 31 = 8 := by kernel_rfl
  have hr := or8 v
  go_enter Try.func78, Try.ntmps78
  go_wp2
  go_ret
  exact ⟨rfl, rfl⟩
theorem rotR3 (v : Wd) (w : World) : Calls Try.prog 78 #[wv v, .int .i64 (-3)] w fun e w' => e = .returned (wv (rot v 29)) ∧ w' = w := by
  have hwr : IntKind.u64.wrap (-3) = 18446744073709551613 := by kernel_rfl
  have hand : bits .and .u64 18446744073709551613 31 = 29 := by kernel_rfl
  have hr := or29 v
  go_enter Try.func78, Try.ntmps78
  go_wp2
  go_ret
  exact ⟨rfl, rfl⟩
theorem rotR8 (v : Wd) (w : World) : Calls Try.prog 78 #[wv v, .int .i64 (-8)] w fun e w' => e = .returned (wv (rot v 24)) ∧ w' = w := by
  have hwr : IntKind.u64.wrap (-8) = 18446744073709551608 := by kernel_rfl
  have hand : bits .and .u64 18446744073709551608 31 = 24 := by kernel_rfl
  have hr := or24 v
  go_enter Try.func78, Try.ntmps78
  go_wp2
  go_ret
  exact ⟨rfl, rfl⟩
theorem left3 (v : Wd) (w : World) : Calls Try.prog 66 #[wv v, .int .i64 3] w fun e w' => e = .returned (wv (rot v 3)) ∧ w' = w := by
  go_enter Try.func66, Try.ntmps66
  go_wp2_with (go_at_call 78; refine (rotL3 _ _).mono ?_; rintro e w' ⟨rfl, rfl⟩)
  go_ret
  exact ⟨rfl, rfl⟩
theorem left8 (v : Wd) (w : World) : Calls Try.prog 66 #[wv v, .int .i64 8] w fun e w' => e = .returned (wv (rot v 8)) ∧ w' = w := by
  go_enter Try.func66, Try.ntmps66
  go_wp2_with (go_at_call 78; refine (rotL8 _ _).mono ?_; rintro e w' ⟨rfl, rfl⟩)
  go_ret
  exact ⟨rfl, rfl⟩
theorem right3 (v : Wd) (w : World) : Calls Try.prog 65 #[wv v, .int .i64 3] w fun e w' => e = .returned (wv (rot v 29)) ∧ w' = w := by
  go_enter Try.func65, Try.ntmps65
  go_wp2_with (go_at_call 78; refine (rotR3 _ _).mono ?_; rintro e w' ⟨rfl, rfl⟩)
  go_ret
  exact ⟨rfl, rfl⟩
theorem right8 (v : Wd) (w : World) : Calls Try.prog 65 #[wv v, .int .i64 8] w fun e w' => e = .returned (wv (rot v 24)) ∧ w' = w := by
  go_enter Try.func65, Try.ntmps65
  go_wp2_with (go_at_call 78; refine (rotR8 _ _).mono ?_; rintro e w' ⟨rfl, rfl⟩)
  go_ret
  exact ⟨rfl, rfl⟩

/-! ### the document's own -/
end Go.Proofs.Ytcjibpjdfhhhkaa.Sp
