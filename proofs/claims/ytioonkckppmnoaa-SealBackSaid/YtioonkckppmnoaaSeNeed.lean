/-
  The halves are made once: doSlow, Do, need; the counts.
-/
import Derived.Test.YtioonkckppmnoaaSeOnce
set_option linter.unusedVariables false
namespace Go.Proofs.Ytioonkckppmnoaa.Se
open Go.RowKit Go.Proofs.Ytioonkckppmnoaa.Mem

theorem do_done (b : Nat) (fv : Value) (w : World) (hd : w.cell? ⟨b, 32, none⟩ = some (.int .u32 1)) :
    Calls Try.prog 45 #[.pointer (some ⟨b, 32, none⟩), fv] w fun e w' => e = .returned (.tuple #[]) ∧ w' = w := by
  have cd := Sp.load_flag ⟨b, 32, none⟩ 1 w hd true rfl
  have hnot : ∀ (x : Bool) (w : World), (Op.unary .not (.bool x)).run Try.prog w = .ok (.bool (!x)) w := fun _ _ => rfl
  clear hd
  go_enter Try.func45, Try.ntmps45
  go_wp2_with (first | (go_at_call 56; refine Calls.mono cd ?_; rintro e w' ⟨rfl, rfl⟩))
  go_end0
  exact ⟨rfl, rfl⟩

/-! ### the counts -/
theorem add_one (p : Addr) (a : Nat) (w : World) (ha : a < 1000000) (hc : w.cell? p = some (.int .i64 (a : Int))) (hz : w.frozen? p = false) :
    Calls Try.prog 27 #[.pointer (some p), .int .i64 1] w fun e w' => e = .returned (.int .i64 ((a + 1 : Nat) : Int)) ∧ w' = w.setCell p (.int .i64 ((a + 1 : Nat) : Int)) := by
  have hadd := run_call_add (P := Try.prog) Try.func41 (by kernel_rfl) (by kernel_rfl) (by kernel_rfl) .i64 (by kernel_rfl) (y := 1) (s := ((a + 1 : Nat) : Int)) hc hz (by
    have h : IntKind.i64.wrap ((a : Int) + 1) = ((a + 1 : Nat) : Int) := by rw [IntKind.wrap_i64]; omega
    simp [go_sem, h])
  clear hc hz ha
  go_enter Try.func27, Try.ntmps27
  go_wp2
  go_ret
  exact ⟨rfl, rfl⟩
theorem load_count (p : Addr) (a : Nat) (w : World) (hc : w.cell? p = some (.int .i64 (a : Int))) :
    Calls Try.prog 34 #[.pointer (some p)] w fun e w' => e = .returned (.int .i64 (a : Int)) ∧ w' = w := by
  have hl := run_call_load (P := Try.prog) Try.func44 (by kernel_rfl) (by kernel_rfl) (by kernel_rfl) .i64 (by kernel_rfl) hc
  clear hc
  go_enter Try.func34, Try.ntmps34
  go_wp2
  go_ret
  exact ⟨rfl, rfl⟩
end Go.Proofs.Ytioonkckppmnoaa.Se
