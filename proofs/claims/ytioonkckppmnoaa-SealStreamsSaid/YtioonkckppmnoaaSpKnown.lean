/-
  The block of the example is known.
-/
import Derived.Test.YtioonkckppmnoaaSpKey
set_option linter.unusedVariables false
namespace Go.Proofs.Ytioonkckppmnoaa.Sp
open Go.RowKit Go.Proofs.Ytioonkckppmnoaa.Mem

def exKey : Nat → UInt8 := ksOf [0, 1, 2, 3, 8, 9, 10, 11, 16, 17, 18, 19, 24, 25, 26, 27]
theorem ex_block : blockK (kw exKey) (0x3b726574#32, 0x7475432d#32) = (0x8c6fa548#32, 0x454e028b#32) := by decide +kernel

end Go.Proofs.Ytioonkckppmnoaa.Sp
