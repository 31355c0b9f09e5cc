/-
  What was sealed opens, by another Box of the same key, too.
-/
import Derived.Test.YtioonkckppmnoaaSeLaw1
set_option linter.unusedVariables false
namespace Go.Proofs.Ytioonkckppmnoaa.SeL
open Go.RowKit Go.Proofs.Ytioonkckppmnoaa.Mem Go.Proofs.Ytioonkckppmnoaa.Se

set_option maxRecDepth 100000 in
set_option maxHeartbeats 1600000 in
theorem back_not (A : Option Addr) (l : List UInt8) (c : Nat) (u n : Int) (A3 : Option Addr) (p : List UInt8) (c3 : Nat) (w : World) (hx : ¬ (0 ≤ u ∧ u ≤ 255 ∧ 0 ≤ n ∧ n ≤ 1099511627776 ∧ p.length ≤ 784)) :
    Calls Try.prog 4 #[.slice A l.length c, .int .i64 u, .int .i64 n, .slice A3 p.length c3] w fun e w' => e = .returned (.bool true) ∧ Below w.heap.size w w' := by
  obtain ⟨m, em⟩ : ∃ m, m = p.length := ⟨_, rfl⟩
  rw [← em] at hx ⊢
  clear em
  have hb := Lib.hid (Below.refl w.heap.size w)
  by_cases h1 : u < 0
  · have t1 : decide (u < 0) = true := by simpa using h1
    clear hx
    go_enter Try.func4, Try.ntmps4
    go_wp2
    go_ret
    exact ⟨rfl, hb.out⟩
  · have t1 : decide (u < 0) = false := by simpa using h1
    by_cases h2 : 255 < u
    · have t2 : decide (255 < u) = true := by simpa using h2
      clear hx h1 h2
      go_enter Try.func4, Try.ntmps4
      go_wp2
      go_ret
      exact ⟨rfl, hb.out⟩
    · have t2 : decide (255 < u) = false := by simpa using h2
      by_cases h3 : n < 0
      · have t3 : decide (n < 0) = true := by simpa using h3
        clear hx h1 h2 h3
        go_enter Try.func4, Try.ntmps4
        go_wp2
        go_ret
        exact ⟨rfl, hb.out⟩
      · have t3 : decide (n < 0) = false := by simpa using h3
        by_cases h4 : 1099511627776 < n
        · have t4 : decide (1099511627776 < n) = true := by simpa using h4
          clear hx h1 h2 h3 h4
          go_enter Try.func4, Try.ntmps4
          go_wp2
          go_ret
          exact ⟨rfl, hb.out⟩
        · have t4 : decide (1099511627776 < n) = false := by simpa using h4
          have t5 : decide (784 < (m : Int)) = true := by simp; omega
          clear hx h1 h2 h3 h4
          go_enter Try.func4, Try.ntmps4
          go_wp2
          go_ret
          exact ⟨rfl, hb.out⟩

end Go.Proofs.Ytioonkckppmnoaa.SeL
