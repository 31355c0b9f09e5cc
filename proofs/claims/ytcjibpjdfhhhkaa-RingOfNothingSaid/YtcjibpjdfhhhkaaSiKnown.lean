/-
  Rows that a call lays down for a variadic function; the law's own bytes that are counted, the known Sum.
-/
import Derived.Test.YtcjibpjdfhhhkaaSiRefN
set_option linter.unusedVariables false
namespace Go.Proofs.Ytcjibpjdfhhhkaa.Si
open Go.RowKit Go.Proofs.Ytcjibpjdfhhhkaa.Mem

theorem u8_info : (Try.prog.info? 5).map (fun i => (i.zero, i.size, i.bytes)) = some (some (.int .u8 0), 1, 1) := by kernel_rfl
theorem rd_words (w : World) (t : TypeId) (cs : Array Value) (l : List Value) (h : cs.toList = l) (N : Nat) (hN : w.heap.size = N) : Rd (w.alloc (.cells cs t)) (N + 1) (some ⟨N, 0, none⟩) l := by
  subst hN
  refine .inr ⟨w.heap.size, 0, rfl, by omega, fun i u hu => ?_⟩
  rw [Nat.zero_add, (Blk.new w t cs).cell i]
  rw [← h] at hu
  simpa using hu

theorem own_push {w w' : World} {base : Nat} {t : TypeId} {v : Value} {n : Nat} {xs : List Value} {o : Obj} (h : w.ownsRow base t 1 v n xs) (e : w'.heap = w.heap.push o) : w'.ownsRow base t 1 v n xs := by
  obtain ⟨hl, h | ⟨g, cap, cur, hv, hg, hcur, hr⟩⟩ := h
  · exact ⟨hl, .inl h⟩
  · refine ⟨hl, .inr ⟨g, cap, cur, hv, hg, ?_, hr⟩⟩
    have hlt := Blk.lt (t := t) (cs := cur) hcur
    rw [e, Array.getElem?_push_lt hlt, ← Array.getElem?_eq_getElem hlt]
    exact hcur
theorem rows_alloc {w : World} (t : TypeId) (vs : List Value) (rows : List (List UInt8)) (cs : Array Value) (hc : cs.toList = vs) (hl : vs.length = rows.length)
    (h : ∀ i (h : i < rows.length), ∃ (Ai : Option Addr) (ci : Nat), vs[i]? = some (.slice Ai (rows[i]).length ci) ∧ Rd w w.heap.size Ai (bvs rows[i])) : Rows (w.alloc (.cells cs t)) (w.alloc (.cells cs t)).heap.size (some ⟨w.heap.size, 0, none⟩) rows := by
  refine ⟨vs, hl, (rd_words w t cs vs hc w.heap.size rfl).more (by simp), fun i hi => ?_⟩
  obtain ⟨Ai, ci, h1, h2⟩ := h i hi
  exact ⟨Ai, ci, h1, (h2.alloc (Nat.le_refl _) _).more (by simp)⟩
/-- one row, laid down -/
theorem sum_one (ks : Nat → UInt8) (A : Option Addr) (n c : Nat) (l : List UInt8) (w : World) (hn : n = l.length) (hl : n < 100000) (hr : Rd w w.heap.size A (bvs l)) :
    Calls Try.prog 41 #[.agg (key16 ks), .slice (some ⟨w.heap.size, 0, none⟩) 1 1] (w.alloc (.cells #[.slice A n c] 34)) fun e w' => e = .returned (wv (sumOf ks l)) ∧ Below w.heap.size w w' := by
  have h := sum_any ks (some ⟨w.heap.size, 0, none⟩) 1 1 [l] (w.alloc (.cells #[.slice A n c] 34)) rfl (by decide) (by simp [flat]; omega)
    (rows_alloc _ [.slice A n c] [l] _ rfl rfl (fun i hi => by
      obtain rfl : i = 0 := by simpa using hi
      exact ⟨A, c, by simp [hn], hr⟩))
  have e : flat [l] = l := by simp [flat]
  rw [e] at h
  exact h.mono fun e w' hh => ⟨hh.1, ((Below.refl w.heap.size w).alloc (Nat.le_refl _) _).trans (hh.2.mono (by simp))⟩
/-- no row -/
theorem sum_none (ks : Nat → UInt8) (c : Nat) (w : World) :
    Calls Try.prog 41 #[.agg (key16 ks), .slice none 0 c] w fun e w' => e = .returned (wv (sumOf ks [])) ∧ Below w.heap.size w w' :=
  sum_any ks none 0 c [] w rfl (by decide) (by decide) ⟨[], rfl, .inl rfl, fun i hi => by simp at hi⟩

def cnt (n : Nat) : List UInt8 := (List.range n).map UInt8.ofNat
theorem cnt_length (n : Nat) : (cnt n).length = n := by simp [cnt]
theorem cnt_next (i : Nat) (h : i < 256) : bvs (cnt i) ++ [.int .u8 (i : Int)] = bvs (cnt (i + 1)) := by
  unfold cnt
  rw [List.range_succ, List.map_append, bvs_append]
  congr 1
  simp [bvs, bv]
  omega
theorem own_read {w : World} {base : Nat} {t : TypeId} {v : Value} {n : Nat} {xs : List Value} (h : w.ownsRow base t 1 v n xs) : ∃ A c, v = .slice A n c ∧ n ≤ c ∧ Rd w w.heap.size A xs := by
  have h0 := h
  obtain ⟨hl, ⟨rfl, hn⟩ | ⟨g, cap, cur, rfl, _, _, hcap, _⟩⟩ := h
  · subst hn
    exact ⟨none, 0, rfl, Nat.le_refl _, Rd.of_own h0⟩
  · exact ⟨_, cap, rfl, hcap, Rd.of_own h0⟩
theorem ex_sum2 : sumOf (ksOf (cnt 16)) (cnt 15) = 0xa129ca6149be45e5#64 := by decide +kernel
end Go.Proofs.Ytcjibpjdfhhhkaa.Si
