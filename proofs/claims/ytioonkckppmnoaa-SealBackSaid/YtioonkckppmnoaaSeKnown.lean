/-
  What every law of chapter 4 ends with: what was sealed opens.
-/
import Derived.Test.YtioonkckppmnoaaSeKey
import Derived.Lib.SlBytesConst
set_option linter.unusedVariables false
namespace Go.Proofs.Ytioonkckppmnoaa.Se
open Go.RowKit Go.Proofs.Ytioonkckppmnoaa.Mem

theorem isL_seal (ks : Nat → UInt8) (u n : Nat) (p : List UInt8) (hn : n ≤ 1099511627776) (hp : p.length ≤ 784) : isL ks u (sealL ks u n p) = true := by
  have h := open_seal ks u n p hn hp
  unfold openL at h
  split at h
  · assumption
  · cases h
theorem mix_seal (ks : Nat → UInt8) (u n : Nat) (p : List UInt8) (hn : n ≤ 1099511627776) : mixL ks u (n8 (sealL ks u n p)) (midL (sealL ks u n p)) = p := by
  rw [mid_seal, n8_seal ks u n p (by omega), mix_mix]
theorem not_aw {b g B i : Nat} (h : ¬ Nw B g i) : B ≤ i ∧ i ≠ g := by
  unfold Nw at h
  omega
def k1 : Nat → UInt8 := fun i => if i = 0 then 1 else 0
end Go.Proofs.Ytioonkckppmnoaa.Se
