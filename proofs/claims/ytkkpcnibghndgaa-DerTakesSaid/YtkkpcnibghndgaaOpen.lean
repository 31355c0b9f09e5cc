/-
  Arguments that came in, opened into the words of memory: byte slices, slices of byte slices, slices of ints.
-/
import Derived.Test.YtkkpcnibghndgaaDerLay2
import Derived.ProofKit
import Derived.OpenShut
import Derived.ShutString
import Derived.ChangeOld
import Derived.Deep.Matrix
import Derived.Deep.Slices
namespace Go.Proofs.Ytkkpcnibghndgaa.Open
open Go.ChangeShapes Go.WideShapes Go.ChangeAt Go.RowKit Go.Deep Go.Proofs.Ytkkpcnibghndgaa.Mem Go.Proofs.Ytkkpcnibghndgaa.DerP

theorem u8_of_wf {n : Int} (h : (Lit.int .u8 n).wf = true) : ∃ b : UInt8, n = (b.toNat : Int) := by
  have hx : 0 ≤ n ∧ n ≤ 255 := by simpa [Lit.wf, IntKind.min, IntKind.max, IntKind.signed, IntKind.bits] using h
  refine ⟨UInt8.ofNat n.toNat, ?_⟩
  have : (UInt8.ofNat n.toNat).toNat = n.toNat := by simp; omega
  rw [this]; omega
theorem i64_of_wf {n : Int} (h : (Lit.int .i64 n).wf = true) : -9223372036854775808 ≤ n ∧ n ≤ 9223372036854775807 := by
  simpa [Lit.wf, IntKind.min, IntKind.max, IntKind.signed, IntKind.bits] using h

theorem addr_none {w : World} {x : Addr} {v : Value} (h : w.cell? x = some v) : ∃ b o, x = ⟨b, o, none⟩ := by
  obtain ⟨b, o, s⟩ := x
  have := World.cell?_spot h
  exact ⟨b, o, by rw [show s = none from this]⟩

/-- cells at an address, one behind the other, are what a slice reads -/
theorem rd_of_cells {w : World} {x : Addr} {xs : List Value} (h : ∀ i u, xs[i]? = some u → w.cell? (x.add i) = some u) : Rd w w.heap.size (some x) xs := by
  cases xs with
  | nil => exact .inl rfl
  | cons a r =>
    have h0 := h 0 a rfl
    rw [show x.add 0 = x by simp [Addr.add]] at h0
    obtain ⟨b, o, rfl⟩ := addr_none h0
    exact .inr ⟨b, o, rfl, World.block_lt_of_cell? w _ h0, fun i u hu => by have := h i u hu; rwa [addr_add] at this⟩

theorem bytes_of_ints {k : Nat} {zs : List Int} (hk : k ≤ zs.length) (hw : ∀ n ∈ zs, (Lit.int .u8 n).wf = true) : ∃ l : List UInt8, l.length = k ∧ ∀ i u, (bvs l)[i]? = some u → i < zs.length ∧ u = .int .u8 (zs.getD i 0) := by
  refine ⟨(zs.take k).map fun n => UInt8.ofNat n.toNat, by simp; omega, fun i u hu => ?_⟩
  have hi : i < k := by
    rcases Nat.lt_or_ge i k with g | g
    · exact g
    · rw [List.getElem?_eq_none (by simp [bvs]; omega)] at hu; cases hu
  have hz : i < zs.length := by omega
  refine ⟨hz, ?_⟩
  obtain ⟨b, hb⟩ := u8_of_wf (hw _ (List.getElem_mem hz))
  simp only [bvs, List.map_map, List.getElem?_map, List.getElem?_take, if_pos hi, List.getElem?_eq_getElem hz, Option.map_some, Function.comp] at hu
  injection hu with hu
  rw [← hu, List.getD, List.getElem?_eq_getElem hz, Option.getD_some, hb]
  simp [bv]

section
variable {H : Type} {enc : TypeId × Value → H} {P : Program} {W : World}

theorem bytes_trod {t e : TypeId} {held : Bool} {fuel : Nat} {v : Value} {x : DataW H × List MemPlace} (ht : P.underlying t = some (.slice e)) (he : P.underlying e = some (.int .u8)) (hc : P.cellsOf e = 1)
    (h : DataW.trod enc P W 0 (fun _ => true) held fuel t [v] = some x) : ∃ A l c, v = .slice A (List.length l) c ∧ Rd W W.heap.size A (bvs l) ∧ l.length ≤ c ∧ c ≤ maxLen := by
  rcases open_ints ht he hc h with ⟨hcs, _⟩ | ⟨x, l, c, zs, hcs, _, hl, hm, hz, _, hcell, hwz⟩
  · injection hcs with hcs
    exact ⟨none, [], 0, hcs, .inl rfl, Nat.le_refl _, Nat.zero_le _⟩
  · injection hcs with hcs
    simp only [if_true] at hz
    obtain ⟨bs, hbl, hb⟩ := bytes_of_ints (k := l) (zs := zs) (by omega) hwz
    refine ⟨some x, bs, c, by rw [hbl]; exact hcs, rd_of_cells fun i u hu => ?_, by omega, hm⟩
    obtain ⟨h1, h2⟩ := hb i u hu
    rw [hcell i h1, h2]

theorem open_bytes {t e : TypeId} {v : Value} {d : DataW H} {ps : List MemPlace} (ht : P.underlying t = some (.slice e)) (he : P.underlying e = some (.int .u8)) (hc : P.cellsOf e = 1)
    (hv : ∃ A n c, v = .slice A n c) (h : DataW.Trod enc P W 0 (fun _ => true) true t v d ps) : ∃ A l c, v = .slice A (List.length l) c ∧ Rd W W.heap.size A (bvs l) ∧ l.length ≤ c ∧ c ≤ maxLen := by
  obtain ⟨A, n, c, rfl⟩ := hv
  obtain ⟨fuel, hf⟩ := h
  exact bytes_trod ht he hc hf

theorem list_of_fn {α : Type} {n : Nat} {p : Nat → α → Prop} (h : ∀ i, i < n → ∃ a, p i a) : ∃ l : List α, l.length = n ∧ ∀ i a, l[i]? = some a → p i a := by
  induction n with
  | zero => exact ⟨[], rfl, fun i a ha => by simp at ha⟩
  | succ n ih =>
    obtain ⟨l, hl, hp⟩ := ih fun i hi => h i (by omega)
    obtain ⟨a, ha⟩ := h n (by omega)
    refine ⟨l ++ [a], by simp [hl], fun i b hb => ?_⟩
    by_cases hi : i < n
    · rw [List.getElem?_append_left (by omega)] at hb
      exact hp i b hb
    · rw [List.getElem?_append_right (by omega)] at hb
      have : i - l.length = 0 := by
        rcases Nat.eq_zero_or_pos (i - l.length) with g | g
        · exact g
        · rw [List.getElem?_eq_none (by simp; omega)] at hb; cases hb
      rw [this] at hb
      injection hb with hb
      subst hb
      rw [show i = n by omega]
      exact ha

theorem open_rows {t e q : TypeId} {v : Value} {d : DataW H} {ps : List MemPlace} (ht : P.underlying t = some (.slice e)) (he : P.underlying e = some (.slice q)) (hq : P.underlying q = some (.int .u8)) (ce : P.cellsOf e = 1) (cq : P.cellsOf q = 1)
    (hv : ∃ A n c, v = .slice A n c) (h : DataW.Trod enc P W 0 (fun _ => true) true t v d ps) : ∃ A ls c, v = .slice A (List.length ls) c ∧ DerW.Rds W W.heap.size A ls ∧ ls.length ≤ c ∧ c ≤ maxLen := by
  obtain ⟨A, n, c, rfl⟩ := hv
  obtain ⟨fuel, hf⟩ := h
  rcases open_slice1 ht ce hf with ⟨hcs, _⟩ | ⟨a, len, cap, m, k, V, D, Pl, hcs, _, hl, hm, hmm, _, hx⟩
  · injection hcs with hcs
    exact ⟨none, [], 0, hcs, .inl rfl, Nat.le_refl _, Nat.zero_le _⟩
  · injection hcs with hcs
    simp only [if_true] at hmm
    subst hmm
    obtain ⟨ls, hll, hls⟩ := list_of_fn (n := len) (p := fun i (l : L) => ∃ A' c', W.cell? (a.add i) = some (.slice A' l.length c') ∧ Rd W W.heap.size A' (bvs l)) (fun i hi => by
      obtain ⟨h1, h2⟩ := hx i (by omega)
      obtain ⟨A', l, c', e1, e2, _, _⟩ := bytes_trod he hq cq h2
      exact ⟨l, A', c', by rw [h1, e1], e2⟩)
    refine ⟨some a, ls, _, by rw [hll]; exact hcs, ?_, by omega, hm⟩
    cases hls0 : ls with
    | nil => exact .inl rfl
    | cons l0 r =>
      have h0 : ∃ A' c', W.cell? (a.add 0) = some (.slice A' l0.length c') ∧ Rd W W.heap.size A' (bvs l0) := hls 0 l0 (by rw [hls0]; rfl)
      obtain ⟨A', c', h0, _⟩ := h0
      rw [show a.add 0 = a by simp [Addr.add]] at h0
      obtain ⟨b, o, rfl⟩ := addr_none h0
      refine .inr ⟨b, o, rfl, World.block_lt_of_cell? W _ h0, fun i l hi => ?_⟩
      rw [← hls0] at hi
      have := hls i l hi
      rwa [addr_add] at this

theorem open_i64s {t e : TypeId} {v : Value} {d : DataW H} {ps : List MemPlace} (ht : P.underlying t = some (.slice e)) (he : P.underlying e = some (.int .i64)) (hc : P.cellsOf e = 1)
    (hv : ∃ A n c, v = .slice A n c) (h : DataW.Trod enc P W 0 (fun _ => true) true t v d ps) : ∃ A zs c, v = .slice A (List.length zs) c ∧ Rd W W.heap.size A (zs.map (Value.int .i64)) ∧ (∀ z ∈ zs, (Lit.int .i64 z).wf = true) ∧ zs.length ≤ c ∧ c ≤ maxLen := by
  obtain ⟨A, n, c, rfl⟩ := hv
  obtain ⟨fuel, hf⟩ := h
  rcases open_ints ht he hc hf with ⟨hcs, _⟩ | ⟨x, l, c, zs, hcs, _, hl, hm, hz, _, hcell, hwz⟩
  · injection hcs with hcs
    exact ⟨none, [], 0, hcs, .inl rfl, by simp, Nat.le_refl _, Nat.zero_le _⟩
  · injection hcs with hcs
    simp only [if_true] at hz
    refine ⟨some x, zs.take l, c, by rw [List.length_take, Nat.min_eq_left (by omega)]; exact hcs, rd_of_cells fun i u hu => ?_, fun z hz' => hwz z (List.mem_of_mem_take hz'), by rw [List.length_take]; omega, hm⟩
    have hi : i < l := by
      rcases Nat.lt_or_ge i l with g | g
      · exact g
      · rw [List.getElem?_eq_none (by simp; omega)] at hu; cases hu
    have hz2 : i < zs.length := by omega
    rw [hcell i hz2]
    simp only [List.getElem?_map, List.getElem?_take, if_pos hi, List.getElem?_eq_getElem hz2, Option.map_some] at hu
    rw [← hu, List.getD, List.getElem?_eq_getElem hz2, Option.getD_some]
end

end Go.Proofs.Ytkkpcnibghndgaa.Open
