/-
  The Sum of no row, the document's; of any row.
-/
import Derived.Test.YtcjibpjdfhhhkaaSiRef
set_option linter.unusedVariables false
namespace Go.Proofs.Ytcjibpjdfhhhkaa.Si
open Go.RowKit Go.Proofs.Ytcjibpjdfhhhkaa.Mem

end Go.Proofs.Ytcjibpjdfhhhkaa.Si
