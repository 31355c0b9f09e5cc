/-
  Open, the code's.
-/
import Derived.Test.YtioonkckppmnoaaSeOpen
import Derived.StillTailTactics
set_option linter.unusedVariables false
namespace Go.Proofs.Ytioonkckppmnoaa.Se
open Go.RowKit Go.Proofs.Ytioonkckppmnoaa.Mem

end Go.Proofs.Ytioonkckppmnoaa.Se
