/-
  The stream is the blocks, one behind the other.
-/
import Derived.Test.YtioonkckppmnoaaSpLaw1
set_option linter.unusedVariables false
namespace Go.Proofs.Ytioonkckppmnoaa.SpL
open Go.RowKit Go.Proofs.Ytioonkckppmnoaa.Mem Go.Proofs.Ytioonkckppmnoaa.Sp

theorem sbyte_lo (K : Nat → Wd) (up lo : Wd) (i j : Nat) (hj : j < 4) : (sbyte K up lo (8 * i + j)).toNat = (blockK K (up, lo + BitVec.ofNat 32 i)).1.toNat / 256 ^ j % 256 := by
  have q1 : (8 * i + j) / 8 = i := by omega
  have q2 : (8 * i + j) % 8 = j := by omega
  rw [sbyte, q1, q2, UInt8.toNat_ofNat', blk64]
  have hx := wd_lt (blockK K (up, lo + BitVec.ofNat 32 i)).1
  have h : j = 0 ∨ j = 1 ∨ j = 2 ∨ j = 3 := by omega
  rcases h with rfl | rfl | rfl | rfl <;> simp only [Nat.reducePow] <;> omega
theorem sbyte_hi (K : Nat → Wd) (up lo : Wd) (i j : Nat) (hj : j < 4) : (sbyte K up lo (8 * i + 4 + j)).toNat = (blockK K (up, lo + BitVec.ofNat 32 i)).2.toNat / 256 ^ j % 256 := by
  have q1 : (8 * i + 4 + j) / 8 = i := by omega
  have q2 : (8 * i + 4 + j) % 8 = 4 + j := by omega
  rw [sbyte, q1, q2, UInt8.toNat_ofNat', blk64]
  have hx := wd_lt (blockK K (up, lo + BitVec.ofNat 32 i)).1
  have h : j = 0 ∨ j = 1 ∨ j = 2 ∨ j = 3 := by omega
  rcases h with rfl | rfl | rfl | rfl <;> simp only [Nat.reducePow, Nat.reduceAdd] <;> omega
/-- the cell of a byte of the stream, as a part of the block's word -/
theorem cell_lo {w : World} {g n : Nat} {K : Nat → Wd} {up lo : Wd} (hB : Blk w g 5 (bvs (strm K up lo n)).toArray) (i j : Nat) (hj : j < 4) (hn : 8 * i + j < n) (D : Int) (hD : D = 256 ^ j) :
    w.cell? ⟨g, 8 * i + j, none⟩ = some (.int .u8 (((blockK K (up, lo + BitVec.ofNat 32 i)).1.toNat : Int) / D % 256)) := by
  have hl : 8 * i + j < (strm K up lo n).length := by rw [strm_length]; exact hn
  rw [hB.cell, List.getElem?_toArray, bvs_at hl, hD]
  have e : (strm K up lo n)[8 * i + j] = sbyte K up lo (8 * i + j) := by simp [strm]
  rw [e, bv, sbyte_lo K up lo i j hj]
  congr 2
theorem cell_hi {w : World} {g n : Nat} {K : Nat → Wd} {up lo : Wd} (hB : Blk w g 5 (bvs (strm K up lo n)).toArray) (i j : Nat) (hj : j < 4) (hn : 8 * i + 4 + j < n) (D : Int) (hD : D = 256 ^ j) :
    w.cell? ⟨g, 8 * i + 4 + j, none⟩ = some (.int .u8 (((blockK K (up, lo + BitVec.ofNat 32 i)).2.toNat : Int) / D % 256)) := by
  have hl : 8 * i + 4 + j < (strm K up lo n).length := by rw [strm_length]; exact hn
  rw [hB.cell, List.getElem?_toArray, bvs_at hl, hD]
  have e : (strm K up lo n)[8 * i + 4 + j] = sbyte K up lo (8 * i + 4 + j) := by simp [strm]
  rw [e, bv, sbyte_hi K up lo i j hj]
  congr 2

end Go.Proofs.Ytioonkckppmnoaa.SpL
