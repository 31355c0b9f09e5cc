/-
  The plain mathematics of chapter 4: eight bytes of a number, the highest first; bytes under the stream; the tag; what is sealed and what opens.
-/
import Derived.Test.YtcjibpjdfhhhkaaSpPlain
import Derived.Test.YtcjibpjdfhhhkaaSiPlain
namespace Go.Proofs.Ytcjibpjdfhhhkaa.Se
open Go.RowKit Go.Proofs.Ytcjibpjdfhhhkaa.Mem

/-! ### eight bytes, the highest first -/
def w8 (n : Nat) : List UInt8 := (List.range 8).map fun j => UInt8.ofNat (n / 2 ^ (56 - 8 * j))
theorem w8_length (n : Nat) : (w8 n).length = 8 := by simp [w8]
/-- the number of some bytes, the highest first -/
def big : Nat → List UInt8 → Nat
  | a, [] => a
  | a, b :: l => big (a * 256 + b.toNat) l
theorem big_snoc (b : UInt8) : ∀ (l : List UInt8) (a : Nat), big a (l ++ [b]) = big a l * 256 + b.toNat
  | [], _ => rfl
  | c :: l, a => big_snoc b l (a * 256 + c.toNat)
theorem big_lt : ∀ (l : List UInt8) (a : Nat), big a l < (a + 1) * 256 ^ l.length
  | [], a => by simp [big]
  | b :: l, a => by
    have h := big_lt l (a * 256 + b.toNat)
    have hb := b.toNat_lt
    refine Nat.lt_of_lt_of_le h ?_
    rw [List.length_cons, Nat.pow_succ, Nat.mul_comm (256 ^ l.length), ← Nat.mul_assoc]
    exact Nat.mul_le_mul_right _ (by omega)
def n8 (l : List UInt8) : Nat := big 0 (l.take 8)
theorem n8_lt (l : List UInt8) : n8 l < 18446744073709551616 := by
  have h := big_lt (l.take 8) 0
  rw [Nat.zero_add, Nat.one_mul] at h
  exact Nat.lt_of_lt_of_le h (Nat.pow_le_pow_right (by decide) (by rw [List.length_take]; omega) : 256 ^ (l.take 8).length ≤ 256 ^ 8)
theorem w8_explicit (n : Nat) : w8 n = [UInt8.ofNat (n / 2 ^ 56), UInt8.ofNat (n / 2 ^ 48), UInt8.ofNat (n / 2 ^ 40), UInt8.ofNat (n / 2 ^ 32), UInt8.ofNat (n / 2 ^ 24), UInt8.ofNat (n / 2 ^ 16), UInt8.ofNat (n / 2 ^ 8), UInt8.ofNat (n / 2 ^ 0)] := rfl
theorem n8_w8 (n : Nat) (h : n < 18446744073709551616) (l : List UInt8) : n8 (w8 n ++ l) = n := by
  unfold n8
  rw [List.take_append_of_le_length (by rw [w8_length]; exact Nat.le_refl _), List.take_of_length_le (by rw [w8_length]; exact Nat.le_refl _), w8_explicit]
  simp only [big, UInt8.toNat_ofNat']
  omega
theorem n8_w8' (n : Nat) (h : n < 18446744073709551616) : n8 (w8 n) = n := by
  have := n8_w8 n h []
  rwa [List.append_nil] at this
theorem w8_n8 (l : List UInt8) (h : l.length = 8) : w8 (n8 l) = l := by
  match l, h with
  | [a, b, c, d, e, f, g, i], _ =>
    have := a.toNat_lt; have := b.toNat_lt; have := c.toNat_lt; have := d.toNat_lt; have := e.toNat_lt; have := f.toNat_lt; have := g.toNat_lt; have := i.toNat_lt
    have key : ∀ (x : Nat) (u : UInt8), x % 256 = u.toNat → UInt8.ofNat x = u := fun x u hx => UInt8.toNat_inj.1 (by rw [UInt8.toNat_ofNat']; exact hx)
    rw [w8_explicit]
    simp only [n8, List.take_succ_cons, List.take_zero, big]
    rw [key _ a (by omega), key _ b (by omega), key _ c (by omega), key _ d (by omega), key _ e (by omega), key _ f (by omega), key _ g (by omega), key _ i (by omega)]
theorem w8_inj {m n : Nat} (hm : m < 18446744073709551616) (hn : n < 18446744073709551616) (h : w8 m = w8 n) : m = n := by
  rw [← n8_w8' m hm, h, n8_w8' n hn]
theorem w8_at (n j : Nat) (h : j < 8) : (w8 n)[j]? = some (UInt8.ofNat (n / 2 ^ (56 - 8 * j))) := by
  simp [w8, h]
theorem w8_take (n j : Nat) (h : j < 8) : (w8 n).take (j + 1) = (w8 n).take j ++ [UInt8.ofNat (n / 2 ^ (56 - 8 * j))] := by
  rw [List.take_add_one, w8_at n j h]; rfl
theorem big_take (l : List UInt8) (j : Nat) (h : j < l.length) : big 0 (l.take (j + 1)) = big 0 (l.take j) * 256 + (l[j]).toNat := by
  rw [List.take_succ_eq_append_getElem h, big_snoc]
theorem big_take_lt (l : List UInt8) (j : Nat) : big 0 (l.take j) < 256 ^ j := by
  have h := big_lt (l.take j) 0
  rw [Nat.zero_add, Nat.one_mul] at h
  exact Nat.lt_of_lt_of_le h (Nat.pow_le_pow_right (by decide) (by rw [List.length_take]; omega))

/-! ### under the stream -/
/-- the stream's number: the nonce and the usage together -/
def sn (u n : Nat) : Nat := (n * 256 + u) % 18446744073709551616
def strmL (ks : Nat → UInt8) (u n m : Nat) : List UInt8 := Sp.strm (Sp.kw ks) (BitVec.ofNat 32 (sn u n / 4294967296)) (BitVec.ofNat 32 (sn u n)) m
theorem strmL_length (ks : Nat → UInt8) (u n m : Nat) : (strmL ks u n m).length = m := Sp.strm_length _ _ _ _
def xorL (p s : List UInt8) : List UInt8 := List.zipWith (· ^^^ ·) p s
def mixL (ks : Nat → UInt8) (u n : Nat) (p : List UInt8) : List UInt8 := xorL p (strmL ks u n p.length)
theorem mixL_length (ks : Nat → UInt8) (u n : Nat) (p : List UInt8) : (mixL ks u n p).length = p.length := by
  simp [mixL, xorL, strmL_length]
theorem xor_back : ∀ p s : List UInt8, p.length ≤ s.length → xorL (xorL p s) s = p
  | [], _, _ => by simp [xorL]
  | a :: p, [], h => by simp at h
  | a :: p, b :: s, h => by
    have ih := xor_back p s (by simpa using h)
    unfold xorL at ih ⊢
    rw [List.zipWith_cons_cons, List.zipWith_cons_cons, ih]
    congr 1
    apply UInt8.toNat_inj.1
    rw [UInt8.toNat_xor, UInt8.toNat_xor, Nat.xor_assoc, Nat.xor_self, Nat.xor_zero]
theorem mix_mix (ks : Nat → UInt8) (u n : Nat) (p : List UInt8) : mixL ks u n (mixL ks u n p) = p := by
  have e : mixL ks u n (mixL ks u n p) = xorL (xorL p (strmL ks u n p.length)) (strmL ks u n p.length) := by
    rw [mixL, mixL_length]; rfl
  rw [e, xor_back _ _ (by rw [strmL_length]; exact Nat.le_refl _)]
theorem mixL_at (ks : Nat → UInt8) (u n : Nat) (p : List UInt8) (i : Nat) (h : i < p.length) (h2 : i < (strmL ks u n p.length).length) : (mixL ks u n p)[i]? = some (p[i] ^^^ (strmL ks u n p.length)[i]) := by
  unfold mixL xorL
  rw [List.getElem?_zipWith, List.getElem?_eq_getElem h, List.getElem?_eq_getElem h2]

/-! ### the tag, what is sealed, what opens -/
/-- a key's second half -/
def k2 (ks : Nat → UInt8) (i : Nat) : UInt8 := ks (16 + i)
def tagL (ks : Nat → UInt8) (u : Nat) (l : List UInt8) : Nat := (Si.sumOf (k2 ks) (UInt8.ofNat u :: l)).toNat
theorem tagL_lt (ks : Nat → UInt8) (u : Nat) (l : List UInt8) : tagL ks u l < 18446744073709551616 := (Si.sumOf (k2 ks) (UInt8.ofNat u :: l)).isLt
def aheadL (ks : Nat → UInt8) (u n : Nat) (p : List UInt8) : List UInt8 := w8 n ++ mixL ks u n p
theorem aheadL_length (ks : Nat → UInt8) (u n : Nat) (p : List UInt8) : (aheadL ks u n p).length = 8 + p.length := by
  rw [aheadL, List.length_append, w8_length, mixL_length]
def sealL (ks : Nat → UInt8) (u n : Nat) (p : List UInt8) : List UInt8 := aheadL ks u n p ++ w8 (tagL ks u (aheadL ks u n p))
theorem sealL_length (ks : Nat → UInt8) (u n : Nat) (p : List UInt8) : (sealL ks u n p).length = p.length + 16 := by
  rw [sealL, List.length_append, aheadL_length, w8_length]; omega
/-- what stands ahead of the last eight bytes, and they -/
def headL (l : List UInt8) : List UInt8 := l.take (l.length - 8)
def lastL (l : List UInt8) : List UInt8 := l.drop (l.length - 8)
def midL (l : List UInt8) : List UInt8 := (headL l).drop 8
def isL (ks : Nat → UInt8) (u : Nat) (l : List UInt8) : Bool := decide (16 ≤ l.length) && decide (l.length ≤ 800) && decide (n8 l ≤ 1099511627776) && decide (tagL ks u (headL l) = n8 (lastL l))
def openL (ks : Nat → UInt8) (u : Nat) (l : List UInt8) : Option (List UInt8) := if isL ks u l = true then some (mixL ks u (n8 l) (midL l)) else none
theorem head_seal (ks : Nat → UInt8) (u n : Nat) (p : List UInt8) : headL (sealL ks u n p) = aheadL ks u n p := by
  unfold headL
  rw [sealL_length]
  unfold sealL
  rw [List.take_append_of_le_length (by rw [aheadL_length]; omega), List.take_of_length_le (by rw [aheadL_length]; omega)]
theorem last_seal (ks : Nat → UInt8) (u n : Nat) (p : List UInt8) : lastL (sealL ks u n p) = w8 (tagL ks u (aheadL ks u n p)) := by
  unfold lastL
  rw [sealL_length]
  unfold sealL
  rw [List.drop_append_of_le_length (by rw [aheadL_length]; omega), List.drop_of_length_le (by rw [aheadL_length]; omega), List.nil_append]
theorem mid_seal (ks : Nat → UInt8) (u n : Nat) (p : List UInt8) : midL (sealL ks u n p) = mixL ks u n p := by
  unfold midL
  rw [head_seal, aheadL, List.drop_append_of_le_length (by rw [w8_length]; exact Nat.le_refl _), List.drop_of_length_le (by rw [w8_length]; exact Nat.le_refl _), List.nil_append]
theorem n8_seal (ks : Nat → UInt8) (u n : Nat) (p : List UInt8) (hn : n < 18446744073709551616) : n8 (sealL ks u n p) = n := by
  unfold sealL aheadL
  rw [List.append_assoc, n8_w8 n hn]
theorem open_seal (ks : Nat → UInt8) (u n : Nat) (p : List UInt8) (hn : n ≤ 1099511627776) (hp : p.length ≤ 784) : openL ks u (sealL ks u n p) = some p := by
  have h : isL ks u (sealL ks u n p) = true := by
    unfold isL
    rw [sealL_length, n8_seal ks u n p (by omega), head_seal, last_seal, n8_w8' _ (tagL_lt _ _ _)]
    simp
    omega
  rw [openL, if_pos h, mid_seal, n8_seal ks u n p (by omega), mix_mix]
theorem openL_length {ks : Nat → UInt8} {u : Nat} {l q : List UInt8} (h : openL ks u l = some q) : q.length + 16 = l.length ∧ l.length ≤ 800 := by
  unfold openL at h
  split at h
  · rename_i hi
    injection h with h
    subst h
    simp only [isL, Bool.and_eq_true, decide_eq_true_eq] at hi
    rw [mixL_length, midL, headL, List.length_drop, List.length_take]
    omega
  · cases h
end Go.Proofs.Ytcjibpjdfhhhkaa.Se
