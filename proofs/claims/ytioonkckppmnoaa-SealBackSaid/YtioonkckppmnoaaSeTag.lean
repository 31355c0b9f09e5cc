/-
  The code's tag.
-/
import Derived.Test.YtioonkckppmnoaaSeTurn
set_option linter.unusedVariables false
namespace Go.Proofs.Ytioonkckppmnoaa.Se
open Go.RowKit Go.Proofs.Ytioonkckppmnoaa.Mem

theorem bv_num (u : Nat) (hu : u ≤ 255) : bv (UInt8.ofNat u) = .int .u8 (u : Int) := by
  unfold bv; rw [UInt8.toNat_ofNat', Nat.mod_eq_of_lt (by omega)]
theorem rows_two {w : World} (u : Nat) (hu : u ≤ 255) (A : Option Addr) (m c : Nat) (l : List UInt8) (t t2 : TypeId) (hm : m = l.length) (hr : Rd w w.heap.size A (bvs l)) :
    Si.Rows ((w.alloc (.cells #[.int .u8 (u : Int)] t)).alloc (.cells #[.slice (some ⟨w.heap.size, 0, none⟩) 1 1, .slice A m c] t2)) ((w.alloc (.cells #[.int .u8 (u : Int)] t)).alloc (.cells #[.slice (some ⟨w.heap.size, 0, none⟩) 1 1, .slice A m c] t2)).heap.size (some ⟨w.heap.size + 1, 0, none⟩) [[UInt8.ofNat u], l] := by
  have h := Si.rows_alloc (w := w.alloc (.cells #[.int .u8 (u : Int)] t)) t2 [.slice (some ⟨w.heap.size, 0, none⟩) 1 1, .slice A m c] [[UInt8.ofNat u], l] #[.slice (some ⟨w.heap.size, 0, none⟩) 1 1, .slice A m c] rfl rfl (fun i hi => by
    match i, hi with
    | 0, _ =>
      refine ⟨some ⟨w.heap.size, 0, none⟩, 1, rfl, ?_⟩
      have := Si.rd_words w t #[.int .u8 (u : Int)] [.int .u8 (u : Int)] rfl w.heap.size rfl
      rw [show bvs [[UInt8.ofNat u], l][0] = [.int .u8 (u : Int)] from by show [bv (UInt8.ofNat u)] = _; rw [bv_num u hu]]
      exact this.more (by simp)
    | 1, _ => exact ⟨A, c, by rw [hm]; rfl, (hr.alloc (Nat.le_refl _) _).more (by simp)⟩)
  have e : (w.alloc (.cells #[.int .u8 (u : Int)] t)).heap.size = w.heap.size + 1 := by simp
  rw [e] at h
  exact h
end Go.Proofs.Ytioonkckppmnoaa.Se
