/-
  Slices of strings that came in, with the reach, and as data.
-/
import Derived.Test.YtnalnhplcchdoaaOpenB
import Derived.Test.YtnalnhplcchdoaaNmRow
import Derived.SliceStrings
import Derived.SizedLaws
namespace Go.Proofs.Ytnalnhplcchdoaa.Open
open Go.ChangeShapes Go.WideShapes Go.ChangeAt Go.RowKit Go.Deep Go.Proofs.Ytnalnhplcchdoaa.Mem

section
variable {H : Type} {enc : TypeId × Value → H} {P : Program} {W : World}
theorem mem_weights {e : TypeId} {d : DataW H} {l : List (DataW H)} (hd : d ∈ l) {n : Nat} (hn : n ∈ d.weights P e) : n ∈ DataW.weightsAll P e l := by
  induction l with
  | nil => cases hd
  | cons x r ih =>
    simp only [DataW.weightsAll, List.mem_append]
    rcases List.mem_cons.1 hd with rfl | h
    · exact .inl hn
    · exact .inr (ih h)
/-- texts as data -/
def dstrs (ls : List (List UInt8)) : List (DataW H) := ls.map fun l => .lit (.string l)
theorem open_texts {t e : TypeId} {v : Value} {d : DataW H} {ps : List MemPlace} (ht : P.underlying t = some (.slice e)) (he : P.underlying e = some .string) (hc : P.cellsOf e = 1) (hb : P.bytesOf e = 16)
    (hw : ∀ n ∈ d.weights P t, n ≤ reachBytes)
    (hv : ∃ A n c, v = .slice A n c) (h : DataW.Trod enc P W 0 (fun _ => true) true t v d ps) :
    ∃ (A : Option Addr) (ls : List (List UInt8)) (c : Nat), v = .slice A ls.length c ∧ Rd W W.heap.size A (Nm.strs ls) ∧ (∀ l ∈ ls, List.length l ≤ 140737488351232) ∧ ls.length * 16 ≤ 140737488351232 ∧ ((d = .nil ∧ ls = []) ∨ ∃ sp, d = .slice (dstrs ls) sp) := by
  have hreach : reachBytes = 140737488351232 := by decide
  obtain ⟨A, n, c, rfl⟩ := hv
  obtain ⟨fuel, hf⟩ := h
  rcases open_strings ht he hc hf with ⟨hcs, hx⟩ | ⟨a, len, cap, ss, hcs, _, hl, hm, hz, hx, hcell, _⟩
  · injection hcs with hcs
    exact ⟨none, [], 0, hcs, .inl rfl, by simp, by simp, .inl ⟨congrArg Prod.fst hx, rfl⟩⟩
  · injection hcs with hcs
    simp only [if_true] at hz
    have hd : d = .slice (strs (ss.take len)) (strs (ss.drop len)) := congrArg Prod.fst hx
    subst hd
    have hll : ((ss.take len).map fun s => s.data.toList).length = len := by rw [List.length_map, List.length_take]; omega
    refine ⟨some a, (ss.take len).map fun s => s.data.toList, cap, by rw [hll]; exact hcs, rd_of_cells fun i u hu => ?_, ?_, ?_, .inr ⟨strs (ss.drop len), ?_⟩⟩
    · have hi : i < len := by
        rcases Nat.lt_or_ge i len with g | g
        · exact g
        · rw [List.getElem?_eq_none (by rw [Nm.strs_length, hll]; exact g)] at hu; cases hu
      have hz2 : i < ss.length := by omega
      rw [hcell i hz2]
      simp only [Nm.strs, List.getElem?_map, List.getElem?_take, if_pos hi, List.getElem?_eq_getElem hz2, Option.map_some] at hu
      rw [← hu, List.getD, List.getElem?_eq_getElem hz2, Option.getD_some, Nm.st]
    · intro l hl'
      obtain ⟨s, hs, rfl⟩ := List.mem_map.1 hl'
      have hmem : (.lit (.string s.data.toList) : DataW H) ∈ strs (ss.take len) := List.mem_map.2 ⟨s, hs, rfl⟩
      have := hw s.data.toList.length (by
        simp only [DataW.weights, ht]
        exact List.mem_cons.2 (.inr (List.mem_append.2 (.inl (mem_weights hmem (by simp [DataW.weights]))))))
      omega
    · have := hw (ss.length * 16) (by
        simp only [DataW.weights, ht, hb]
        refine List.mem_cons.2 (.inl ?_)
        simp only [strs, List.length_map, List.length_take, List.length_drop]
        congr 1
        omega)
      rw [hll]; omega
    · congr 1
      simp [dstrs, strs, Function.comp_def]
end
end Go.Proofs.Ytnalnhplcchdoaa.Open
