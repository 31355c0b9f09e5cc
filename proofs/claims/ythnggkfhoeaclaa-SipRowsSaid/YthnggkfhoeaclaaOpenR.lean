/-
  Slices of byte slices that came in, with the reach: each of them takes fewer than 2^47 bytes.
-/
import Derived.Test.YthnggkfhoeaclaaOpenB
import Derived.Test.YthnggkfhoeaclaaSiSum
import Derived.SizedLaws
namespace Go.Proofs.Ythnggkfhoeaclaa.Open
open Go.ChangeShapes Go.WideShapes Go.ChangeAt Go.RowKit Go.Deep Go.Proofs.Ythnggkfhoeaclaa.Mem

section
variable {H : Type} {enc : TypeId × Value → H} {P : Program} {W : World}

theorem list_of_fn {α : Type} {n : Nat} {p : Nat → α → Prop} (h : ∀ i, i < n → ∃ a, p i a) : ∃ l : List α, l.length = n ∧ ∀ i a, l[i]? = some a → p i a := by
  induction n with
  | zero => exact ⟨[], rfl, fun i a ha => by simp at ha⟩
  | succ n ih =>
    obtain ⟨l, hl, hp⟩ := ih fun i hi => h i (by omega)
    obtain ⟨a, ha⟩ := h n (by omega)
    refine ⟨l ++ [a], by simp [hl], fun i b hb => ?_⟩
    by_cases hi : i < n
    · rw [List.getElem?_append_left (by omega)] at hb
      exact hp i b hb
    · rw [List.getElem?_append_right (by omega)] at hb
      have : i - l.length = 0 := by
        rcases Nat.eq_zero_or_pos (i - l.length) with g | g
        · exact g
        · rw [List.getElem?_eq_none (by simp; omega)] at hb; cases hb
      rw [this] at hb
      injection hb with hb
      subst hb
      rw [show i = n by omega]
      exact ha

theorem mem_weightsAll {e : TypeId} {d : DataW H} {l : List (DataW H)} (hd : d ∈ l) {n : Nat} (hn : n ∈ d.weights P e) : n ∈ DataW.weightsAll P e l := by
  induction l with
  | nil => cases hd
  | cons x r ih =>
    simp only [DataW.weightsAll, List.mem_append]
    rcases List.mem_cons.1 hd with rfl | h
    · exact .inl hn
    · exact .inr (ih h)

theorem open_rows_sized {t e q : TypeId} {v : Value} {d : DataW H} {ps : List MemPlace} (ht : P.underlying t = some (.slice e)) (he : P.underlying e = some (.slice q)) (hq : P.underlying q = some (.int .u8)) (ce : P.cellsOf e = 1) (cq : P.cellsOf q = 1) (bq : P.bytesOf q = 1)
    (hw : ∀ n ∈ d.weights P t, n ≤ reachBytes)
    (hv : ∃ A n c, v = .slice A n c) (h : DataW.Trod enc P W 0 (fun _ => true) true t v d ps) : ∃ A ls c, v = .slice A (List.length ls) c ∧ Si.Rows W W.heap.size A ls ∧ ls.length ≤ c ∧ c ≤ maxLen ∧ ∀ l ∈ ls, List.length l ≤ 140737488351232 := by
  obtain ⟨A, n, c, rfl⟩ := hv
  obtain ⟨fuel, hf⟩ := h
  rcases open_int_rows ht he hq ce cq hf with ⟨hcs, _⟩ | ⟨a, len, cap, AA, LL, CC, ZZ, hcs, _, hl, hm, hx, hrow⟩
  · injection hcs with hcs
    exact ⟨none, [], 0, hcs, ⟨[], rfl, .inl rfl, fun i hi => by simp at hi⟩, Nat.le_refl _, Nat.zero_le _, by simp⟩
  · injection hcs with hcs
    have hd : d = .slice ((List.range len).map fun r => intRow .u8 (AA r) (LL r) (ZZ r)) ((List.range (cap - len)).map fun j => intRow .u8 (AA (len + j)) (LL (len + j)) (ZZ (len + j))) := congrArg Prod.fst hx
    have hsz : ∀ r, r < len → LL r ≤ reachBytes := by
      intro r hr
      obtain ⟨_, h1, _, h3, _, h5, _⟩ := hrow r (by omega)
      cases hA : AA r with
      | none => have := h5 hA; omega
      | some a' =>
        have hmem : (.slice (lits .u8 ((ZZ r).take (LL r))) (lits .u8 ((ZZ r).drop (LL r))) : DataW H) ∈ (List.range len).map fun r => intRow (H := H) .u8 (AA r) (LL r) (ZZ r) := by
          refine List.mem_map.2 ⟨r, List.mem_range.2 hr, ?_⟩
          simp only [intRow, hA]
        have hn : (CC r) ∈ (DataW.slice (lits .u8 ((ZZ r).take (LL r))) (lits .u8 ((ZZ r).drop (LL r))) : DataW H).weights P e := by
          simp only [DataW.weights, he, bq, Nat.mul_one, lits, List.length_map, List.length_take, List.length_drop, h3]
          exact List.mem_cons.2 (.inl (by omega))
        have := hw (CC r) (by
          rw [hd]
          simp only [DataW.weights, ht]
          exact List.mem_cons.2 (.inr (List.mem_append.2 (.inl (mem_weightsAll hmem hn)))))
        omega
    obtain ⟨ls, hll, hls⟩ := list_of_fn (n := len) (p := fun i (l : List UInt8) => l.length ≤ reachBytes ∧ l.length = LL i ∧ Rd W W.heap.size (AA i) (bvs l)) (fun i hi => by
      obtain ⟨g1, g2, _, g4, g5, g6, g7⟩ := hrow i (by omega)
      obtain ⟨bs, hbl, hb⟩ := bytes_of_ints (k := LL i) (zs := ZZ i) (by omega) g5
      refine ⟨bs, by rw [hbl]; exact hsz i hi, hbl, ?_⟩
      cases hA : AA i with
      | none =>
        have := g6 hA
        left
        exact List.eq_nil_of_length_eq_zero (by rw [bvs_length]; omega)
      | some a' =>
        obtain ⟨_, hc⟩ := g7 a' hA
        refine rd_of_cells fun j u hu => ?_
        obtain ⟨k1, k2⟩ := hb j u hu
        rw [hc j (by omega), k2])
    refine ⟨some a, ls, cap, by rw [hll]; exact hcs, ⟨(List.range len).map fun i => .slice (AA i) (LL i) (CC i), by simp [hll], ?_, fun i hi => ?_⟩, by omega, hm, fun l hl' => ?_⟩
    · refine rd_of_cells fun i u hu => ?_
      have hi : i < len := by
        rcases Nat.lt_or_ge i len with g | g
        · exact g
        · rw [List.getElem?_eq_none (by simpa using g)] at hu; cases hu
      rw [List.getElem?_map, List.getElem?_range hi] at hu
      injection hu with hu
      subst hu
      obtain ⟨g1, _⟩ := hrow i (by omega)
      exact g1
    · have hi2 : i < len := by omega
      obtain ⟨_, e1, e2⟩ := hls i ls[i] (List.getElem?_eq_getElem hi)
      exact ⟨AA i, CC i, by rw [List.getElem?_map, List.getElem?_range hi2, e1]; rfl, e2⟩
    · obtain ⟨i, hi⟩ := List.getElem?_of_mem hl'
      have := (hls i l hi).1
      have e : reachBytes = 140737488351232 := by decide
      omega
end

end Go.Proofs.Ythnggkfhoeaclaa.Open
