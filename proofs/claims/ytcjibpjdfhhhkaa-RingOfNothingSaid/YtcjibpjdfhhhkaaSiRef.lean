/-
  The Sum of a row, the document's.
-/
import Derived.Test.YtcjibpjdfhhhkaaSiSum
set_option linter.unusedVariables false
namespace Go.Proofs.Ytcjibpjdfhhhkaa.Si
open Go.RowKit Go.Proofs.Ytcjibpjdfhhhkaa.Mem

theorem and_255 (n : Int) : bits .and .i64 n 255 = n % 256 := by
  have h127 : (BitVec.ofInt 64 255).toNat = 2 ^ 8 - 1 := by decide
  have key : (BitVec.ofInt 64 n &&& BitVec.ofInt 64 255).toNat = (n % ((2 ^ 64 : Nat) : Int)).toNat % 2 ^ 8 := by
    rw [BitVec.toNat_and, BitVec.toNat_ofInt, h127, Nat.and_two_pow_sub_one_eq_mod]
  show IntKind.i64.wrap ((BitVec.ofInt 64 n &&& BitVec.ofInt 64 255).toNat : Nat) = n % 256
  rw [key, IntKind.wrap_i64]
  omega
theorem Rd.drop {w : World} {B : Nat} {x : Addr} {l : List UInt8} (h : Rd w B (some x) (bvs l)) (p : Nat) : Rd w B (some (x.add p)) (bvs (l.drop p)) := by
  rcases h with h | ⟨b, o, h1, h2, h3⟩
  · left
    have : l = [] := List.map_eq_nil_iff.1 h
    rw [this]; simp [bvs]
  · injection h1 with h1
    subst h1
    rw [addr_add]
    refine .inr ⟨b, o + p, rfl, h2, fun i u hu => ?_⟩
    have : (bvs l)[p + i]? = some u := by
      rw [← hu]; simp [bvs, List.getElem?_drop]
    have := h3 _ _ this
    rwa [Nat.add_assoc]
theorem Rd.take {w : World} {B : Nat} {A : Option Addr} {l : List UInt8} (h : Rd w B A (bvs l)) (k : Nat) : Rd w B A (bvs (l.take k)) := by
  rcases h with h | ⟨b, o, h1, h2, h3⟩
  · left
    have : l = [] := List.map_eq_nil_iff.1 h
    rw [this]; simp [bvs]
  · refine .inr ⟨b, o, h1, h2, fun i u hu => h3 i u ?_⟩
    rw [← hu]
    have hi : i < k := by
      rcases Nat.lt_or_ge i k with g | g
      · exact g
      · rw [List.getElem?_eq_none (by simp [bvs]; omega)] at hu; cases hu
    simp [bvs, hi]
theorem rd_key {w : World} {B : Nat} {t : TypeId} {ks : Nat → UInt8} (h : Blk w B t (key16 ks)) (o : Nat) (ho : o + 8 ≤ 16) : Rd w (B + 1) (some ⟨B, o, none⟩) (bvs ((List.range 8).map fun i => ks (o + i))) := by
  refine .inr ⟨B, o, rfl, by omega, fun i u hu => ?_⟩
  have hi : i < 8 := by
    rcases Nat.lt_or_ge i 8 with g | g
    · exact g
    · rw [List.getElem?_eq_none (by simp [bvs]; omega)] at hu; cases hu
  rw [h.cell, key16_at _ _ (by omega)]
  rw [← hu]
  simp [bvs, hi]
theorem last_or (ks : Nat → UInt8) (l : List UInt8) : bits .or .u64 (wordN (l.drop (8 * (l.length / 8))) : Nat) (IntKind.u64.wrap (((l.length % 256 : Nat) : Int) * 72057594037927936)) = ((lastW (stOf ks l)).toNat : Int) := by
  have hr : wordN (l.drop (8 * (l.length / 8))) < 72057594037927936 := wordN_7 (by rw [List.length_drop]; omega)
  have h := or_count (wordN (l.drop (8 * (l.length / 8)))) (l.length % 256) hr
  rw [IntKind.wrap_u64, h, Nat.mod_mod]
  rw [lastW_nat _ (by rw [stOf_all]; exact hr), stOf_all]
def stcV (ks : Nat → UInt8) : Array Value := cells4 (start ks)
end Go.Proofs.Ytcjibpjdfhhhkaa.Si
