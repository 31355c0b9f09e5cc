/-
  A slice of texts that came in is no longer than its room.
-/
import Derived.Test.YtnalnhplcchdoaaOpenS
namespace Go.Proofs.Ytnalnhplcchdoaa.Open
open Go.ChangeShapes Go.WideShapes Go.ChangeAt Go.RowKit Go.Deep Go.Proofs.Ytnalnhplcchdoaa.Mem

section
variable {H : Type} {enc : TypeId × Value → H} {P : Program} {W : World}
theorem cap_of {t e : TypeId} {A : Option Addr} {n c : Nat} {d : DataW H} {ps : List MemPlace} (ht : P.underlying t = some (.slice e)) (he : P.underlying e = some .string) (hc : P.cellsOf e = 1)
    (h : DataW.Trod enc P W 0 (fun _ => true) true t (.slice A n c) d ps) : n ≤ c := by
  obtain ⟨fuel, hf⟩ := h
  rcases open_strings ht he hc hf with ⟨hcs, hx⟩ | ⟨a, len, cap, ss, hcs, _, hl, hm, hz, hx, hcell, _⟩
  · injection hcs with hcs
    injection hcs with _ e1 e2
    omega
  · injection hcs with hcs
    injection hcs with _ e1 e2
    omega
end
end Go.Proofs.Ytnalnhplcchdoaa.Open
