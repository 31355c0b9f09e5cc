/-
  Slices of ints that came in.
-/
import Derived.Test.YtnalnhplcchdoaaOpenB
import Derived.Deep.Slices
namespace Go.Proofs.Ytnalnhplcchdoaa.Open
open Go.ChangeShapes Go.WideShapes Go.ChangeAt Go.RowKit Go.Deep Go.Proofs.Ytnalnhplcchdoaa.Mem

section
variable {H : Type} {enc : TypeId × Value → H} {P : Program} {W : World}
theorem open_i64s {t e : TypeId} {v : Value} {d : DataW H} {ps : List MemPlace} (ht : P.underlying t = some (.slice e)) (he : P.underlying e = some (.int .i64)) (hc : P.cellsOf e = 1)
    (hv : ∃ A n c, v = .slice A n c) (h : DataW.Trod enc P W 0 (fun _ => true) true t v d ps) : ∃ A zs c, v = .slice A (List.length zs) c ∧ Rd W W.heap.size A (zs.map (Value.int .i64)) ∧ (∀ z ∈ zs, (Lit.int .i64 z).wf = true) ∧ zs.length ≤ c ∧ c ≤ maxLen := by
  obtain ⟨A, n, c, rfl⟩ := hv
  obtain ⟨fuel, hf⟩ := h
  rcases open_ints ht he hc hf with ⟨hcs, _⟩ | ⟨x, l, c, zs, hcs, _, hl, hm, hz, _, hcell, hwz⟩
  · injection hcs with hcs
    exact ⟨none, [], 0, hcs, .inl rfl, by simp, Nat.le_refl _, Nat.zero_le _⟩
  · injection hcs with hcs
    simp only [if_true] at hz
    refine ⟨some x, zs.take l, c, by rw [List.length_take, Nat.min_eq_left (by omega)]; exact hcs, rd_of_cells fun i u hu => ?_, fun z hz' => hwz z (List.mem_of_mem_take hz'), by rw [List.length_take]; omega, hm⟩
    have hi : i < l := by
      rcases Nat.lt_or_ge i l with g | g
      · exact g
      · rw [List.getElem?_eq_none (by simp; omega)] at hu; cases hu
    have hz2 : i < zs.length := by omega
    rw [hcell i hz2]
    simp only [List.getElem?_map, List.getElem?_take, if_pos hi, List.getElem?_eq_getElem hz2, Option.map_some] at hu
    rw [← hu, List.getD, List.getElem?_eq_getElem hz2, Option.getD_some]
end
end Go.Proofs.Ytnalnhplcchdoaa.Open
