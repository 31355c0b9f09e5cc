/-
  The document's own answer: the key's words.
-/
import Derived.Test.YtioonkckppmnoaaSpKey
set_option linter.unusedVariables false
namespace Go.Proofs.Ytioonkckppmnoaa.Sp
open Go.RowKit Go.Proofs.Ytioonkckppmnoaa.Mem

/-- 27 words as cells -/
def cells27 (W : Nat → Wd) : Array Value := ((List.range 27).map (fun j => wv (W j))).toArray
theorem cells27_at (W : Nat → Wd) (i : Nat) (h : i < 27) : (cells27 W)[i]? = some (wv (W i)) := by
  rw [cells27, List.getElem?_toArray]; simp [h]
theorem cells27_set (W : Nat → Wd) (i : Nat) (v : Wd) : (cells27 W).setIfInBounds i (wv v) = cells27 (upd W i v) := by
  unfold cells27
  rw [List.setIfInBounds_toArray]
  congr 1
  apply List.ext_getElem?
  intro j
  rw [List.getElem?_set, List.getElem?_map, List.getElem?_map]
  by_cases hj : i = j
  · subst hj
    rcases Nat.lt_or_ge i 27 with h | h
    · simp [h, upd]
    · simp [Nat.not_lt.2 h]
  · rw [if_neg hj]
    have hji : ¬ j = i := fun h => hj h.symm
    rcases Nat.lt_or_ge j 27 with h | h
    · simp [h, upd, hji]
    · rw [List.getElem?_eq_none (by simpa using h)]; rfl
/-- the bytes ahead of i alone -/
def kz (ks : Nat → UInt8) (i j : Nat) : UInt8 := if j < i then ks j else 0
theorem kz_lt (ks : Nat → UInt8) (i j : Nat) (h : j < i) : kz ks i j = ks j := if_pos h
theorem kz_ge (ks : Nat → UInt8) (i j : Nat) (h : i ≤ j) : kz ks i j = 0 := if_neg (by omega)
def wpart (ks : Nat → UInt8) (t i : Nat) : Wd := kword (kz ks i) t
def wcells (ks : Nat → UInt8) (i : Nat) : Array Value := #[wv (wpart ks 0 i), wv (wpart ks 1 i), wv (wpart ks 2 i), wv (wpart ks 3 i)]
theorem wpart_same (ks : Nat → UInt8) (t i : Nat) (h : t ≠ i / 4) : wpart ks t (i + 1) = wpart ks t i := by
  have e : ∀ j, j / 4 = t → kz ks (i + 1) j = kz ks i j := fun j hj => by
    unfold kz
    by_cases h2 : j < i
    · rw [if_pos h2, if_pos (by omega)]
    · rw [if_neg h2, if_neg (by omega)]
  unfold wpart kword
  rw [e _ (by omega), e _ (by omega), e _ (by omega), e _ (by omega)]
theorem wpart_next (ks : Nat → UInt8) (q r i : Nat) (hr : r < 4) (hi : i = 4 * q + r) : bits .or .u32 ((wpart ks q i).toNat : Int) (((ks i).toNat : Int) * 2 ^ (8 * r) % 4294967296) = ((wpart ks q (i + 1)).toNat : Int) := by
  have hk := (ks i).toNat_lt
  have l0 := (ks (4 * q)).toNat_lt
  have l1 := (ks (4 * q + 1)).toNat_lt
  have l2 := (ks (4 * q + 2)).toNat_lt
  have l3 := (ks (4 * q + 3)).toNat_lt
  have h : r = 0 ∨ r = 1 ∨ r = 2 ∨ r = 3 := by omega
  have z : (0 : UInt8).toNat = 0 := rfl
  unfold wpart kword
  rcases h with rfl | rfl | rfl | rfl
  · subst hi
    have e : ((ks (4 * q + 0)).toNat : Int) * 2 ^ (8 * 0) % 4294967296 = (((ks (4 * q)).toNat : Nat) : Int) := by simp only [Nat.add_zero]; omega
    rw [e, u32_or_nat _ _ (BitVec.isLt _) (by omega), le4_nat, le4_nat]
    simp (disch := omega) only [kz_lt, kz_ge, z]
    simp
  · subst hi
    have e : ((ks (4 * q + 1)).toNat : Int) * 2 ^ (8 * 1) % 4294967296 = (((ks (4 * q + 1)).toNat * 256 : Nat) : Int) := by omega
    rw [e, u32_or_nat _ _ (BitVec.isLt _) (by omega), Nat.or_comm, nat_join 8 _ _ (by omega) (by rw [le4_nat]; simp (disch := omega) only [kz_lt, kz_ge, z]; omega), le4_nat, le4_nat]
    simp (disch := omega) only [kz_lt, kz_ge, z]
    omega
  · subst hi
    have e : ((ks (4 * q + 2)).toNat : Int) * 2 ^ (8 * 2) % 4294967296 = (((ks (4 * q + 2)).toNat * 65536 : Nat) : Int) := by omega
    rw [e, u32_or_nat _ _ (BitVec.isLt _) (by omega), Nat.or_comm, nat_join 16 _ _ (by omega) (by rw [le4_nat]; simp (disch := omega) only [kz_lt, kz_ge, z]; omega), le4_nat, le4_nat]
    simp (disch := omega) only [kz_lt, kz_ge, z]
    omega
  · subst hi
    have e : ((ks (4 * q + 3)).toNat : Int) * 2 ^ (8 * 3) % 4294967296 = (((ks (4 * q + 3)).toNat * 16777216 : Nat) : Int) := by omega
    rw [e, u32_or_nat _ _ (BitVec.isLt _) (by omega), Nat.or_comm, nat_join 24 _ _ (by omega) (by rw [le4_nat]; simp (disch := omega) only [kz_lt, kz_ge, z]; omega), le4_nat, le4_nat]
    simp (disch := omega) only [kz_lt, kz_ge, z]
    omega
theorem wpart_all (ks : Nat → UInt8) (t : Nat) (h : t < 4) : wpart ks t 16 = kword ks t := by
  unfold wpart kword kz
  rw [if_pos (by omega), if_pos (by omega), if_pos (by omega), if_pos (by omega)]
theorem wcells_at (ks : Nat → UInt8) (q i : Nat) (h : q < 4) : (wcells ks i)[q]? = some (wv (wpart ks q i)) := by
  have h2 : q = 0 ∨ q = 1 ∨ q = 2 ∨ q = 3 := by omega
  rcases h2 with rfl | rfl | rfl | rfl <;> rfl
theorem wcells_set (ks : Nat → UInt8) (i : Nat) (h : i < 16) : (wcells ks i).setIfInBounds (i / 4) (wv (wpart ks (i / 4) (i + 1))) = wcells ks (i + 1) := by
  have h2 : i / 4 = 0 ∨ i / 4 = 1 ∨ i / 4 = 2 ∨ i / 4 = 3 := by omega
  unfold wcells
  rcases h2 with e | e | e | e <;> rw [e]
  · rw [wpart_same ks 1 i (by omega), wpart_same ks 2 i (by omega), wpart_same ks 3 i (by omega)]; rfl
  · rw [wpart_same ks 0 i (by omega), wpart_same ks 2 i (by omega), wpart_same ks 3 i (by omega)]; rfl
  · rw [wpart_same ks 0 i (by omega), wpart_same ks 1 i (by omega), wpart_same ks 3 i (by omega)]; rfl
  · rw [wpart_same ks 0 i (by omega), wpart_same ks 1 i (by omega), wpart_same ks 2 i (by omega)]; rfl
end Go.Proofs.Ytioonkckppmnoaa.Sp
