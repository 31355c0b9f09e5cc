/-
  The code's turn: bytes under the stream.
-/
import Derived.Test.YtioonkckppmnoaaSeWord
import Derived.StillTailTactics
set_option linter.unusedVariables false
namespace Go.Proofs.Ytioonkckppmnoaa.Se
open Go.RowKit Go.Proofs.Ytioonkckppmnoaa.Mem

section
variable {w w' a c : World} {b g n : Nat} {h : Option Nat} {A : Option Addr} {xs : List Value} {S : Nat → Prop}
end

/-- the first i of the bytes are turned -/
def tl (ks : Nat → UInt8) (u n : Nat) (p : List UInt8) (i : Nat) : List UInt8 := (mixL ks u n p).take i ++ (strmL ks u n p.length).drop i
theorem tl_length (ks : Nat → UInt8) (u n : Nat) (p : List UInt8) (i : Nat) (h : i ≤ p.length) : (tl ks u n p i).length = p.length := by
  rw [tl, List.length_append, List.length_take, List.length_drop, mixL_length, strmL_length]; omega
theorem tl_at (ks : Nat → UInt8) (u n : Nat) (p : List UInt8) (i : Nat) (h : i < p.length) (h2 : i < (strmL ks u n p.length).length) : (bvs (tl ks u n p i)).toArray[i]? = some (bv (strmL ks u n p.length)[i]) := by
  rw [List.getElem?_toArray]
  unfold bvs tl
  rw [List.getElem?_map, List.getElem?_append_right (by rw [List.length_take, mixL_length]; omega), List.length_take, mixL_length, show i - min i p.length = 0 by omega, List.getElem?_drop, Nat.add_zero, List.getElem?_eq_getElem h2]; rfl
theorem tl_set (ks : Nat → UInt8) (u n : Nat) (p : List UInt8) (i : Nat) (h : i < p.length) (h2 : i < (strmL ks u n p.length).length) : (bvs (tl ks u n p i)).toArray.setIfInBounds i (bv (p[i] ^^^ (strmL ks u n p.length)[i])) = (bvs (tl ks u n p (i + 1))).toArray := by
  rw [List.setIfInBounds_toArray]
  congr 1
  unfold bvs
  rw [← List.map_set]
  congr 1
  have e : (mixL ks u n p).take (i + 1) = (mixL ks u n p).take i ++ [p[i] ^^^ (strmL ks u n p.length)[i]] := by
    rw [List.take_add_one, mixL_at ks u n p i h h2]; rfl
  have hl : ((mixL ks u n p).take i).length = i := by rw [List.length_take, mixL_length]; omega
  unfold tl
  rw [e, List.set_append_right _ _ (by omega), hl, Nat.sub_self, List.append_assoc, List.drop_eq_getElem_cons h2]
  rfl
theorem tl_all (ks : Nat → UInt8) (u n : Nat) (p : List UInt8) : tl ks u n p p.length = mixL ks u n p := by
  rw [tl, List.take_of_length_le (by rw [mixL_length]; exact Nat.le_refl _), List.drop_of_length_le (by rw [strmL_length]; exact Nat.le_refl _), List.append_nil]
theorem tl_none (ks : Nat → UInt8) (u n : Nat) (p : List UInt8) : tl ks u n p 0 = strmL ks u n p.length := by
  rw [tl, List.take_zero, List.drop_zero, List.nil_append]
theorem xor_b (x y : UInt8) : bits .xor .u8 (y.toNat : Int) (x.toNat : Int) = ((x ^^^ y).toNat : Int) := by
  rw [u8_xor_nat _ _ y.toNat_lt x.toNat_lt, UInt8.toNat_xor, Nat.xor_comm]
theorem sn_num (u n : Nat) (hu : u ≤ 255) : ((n : Int) * 256 % 18446744073709551616 + (u : Int)) % 18446744073709551616 = ((sn u n : Nat) : Int) := by unfold sn; omega

theorem sn_wrap (u n : Nat) (hu : u ≤ 255) : IntKind.u64.wrap (IntKind.u64.wrap ((n : Int) * 256) + IntKind.u64.wrap (u : Int)) = ((sn u n : Nat) : Int) := by
  rw [IntKind.wrap_u64, IntKind.wrap_u64, IntKind.wrap_u64]; unfold sn; omega
theorem sn_lt (u n : Nat) : sn u n < 18446744073709551616 := Nat.mod_lt _ (by decide)
/-- what is old, and one more -/
def Nw (n g i : Nat) : Prop := i < n ∨ i = g
end Go.Proofs.Ytioonkckppmnoaa.Se
