/-
  The code's Up and Under of chapter 5.
-/
import Derived.Test.YtcjibpjdfhhhkaaNmKind
import Derived.Deep.LoopGhost
set_option linter.unusedVariables false
namespace Go.Proofs.Ytcjibpjdfhhhkaa.Nm
open Go.RowKit Go.Proofs.Ytcjibpjdfhhhkaa.Mem
attribute [local go_sem] mk_at List.getElem_cons_zero List.getElem_cons_succ ext_tail ext_drop ext_mid ext_take

theorem up_len (l : L) : (upL l).length ≤ l.length := by
  by_cases h : l = []
  · subst h; rw [up_nil]; exact Nat.le_refl _
  · exact Nat.le_of_lt (up_lt h)

end Go.Proofs.Ytcjibpjdfhhhkaa.Nm
