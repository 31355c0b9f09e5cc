/-
  A row of texts that reads: all its places at once.
-/
import Derived.Test.YtpjilcngibaepaaNmRow
set_option linter.unusedVariables false
namespace Go.Proofs.Ytpjilcngibaepaa.Nm
open Go.RowKit Go.Proofs.Ytpjilcngibaepaa.Mem
theorem rd_all {w : World} {B : Nat} {A : Option Addr} {ls : List L} (h : Rd w B A (strs ls)) (h0 : 0 < ls.length) :
    ∃ b o, A = some ⟨b, o, none⟩ ∧ b < B ∧ ∀ i, i < ls.length → w.cell? ⟨b, o + i, none⟩ = some (.string ⟨(pl ls i).toArray⟩) := by
  obtain ⟨b, o, rfl, hB, _⟩ := rd_txt h h0
  refine ⟨b, o, rfl, hB, fun i hi => ?_⟩
  obtain ⟨b', o', e, _, hc⟩ := rd_txt h hi
  injection e with e
  injection e with e1 e2
  subst e1; subst e2
  exact hc
end Go.Proofs.Ytpjilcngibaepaa.Nm
