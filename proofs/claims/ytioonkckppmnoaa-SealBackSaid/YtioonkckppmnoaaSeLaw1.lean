/-
  The laws of a nil Box, and of what was sealed and opens.
-/
import Derived.Test.YtioonkckppmnoaaSeKnown
set_option linter.unusedVariables false
namespace Go.Proofs.Ytioonkckppmnoaa.SeL
open Go.RowKit Go.Proofs.Ytioonkckppmnoaa.Mem Go.Proofs.Ytioonkckppmnoaa.Se

end Go.Proofs.Ytioonkckppmnoaa.SeL
