/-
  Plain mathematics of strict bytes (chapter 1): elements, lengths, numbers, as lists of bytes. No program, no memory.
-/
import Derived.Lib.ItoaNum
namespace Go.Proofs.Ytkkpcnibghndgaa.DerP

abbrev L := List UInt8

/-- a length's bytes -/
def szL (n : Nat) : L := if n < 128 then [UInt8.ofNat n] else if n ≤ 255 then [129, UInt8.ofNat n] else [130, UInt8.ofNat (n / 256), UInt8.ofNat n]
/-- an element -/
def elem (t : UInt8) (p : L) : L := t :: (szL p.length ++ p)

/-- the length that bytes begin with, how many bytes it has, whether it is in the shortest way -/
def lenR : L → Nat × Nat × Bool
  | [] => (0, 0, false)
  | a :: r =>
    if a.toNat < 128 then (a.toNat, 1, true)
    else if a.toNat = 129 then
      match r with
      | [] => (0, 0, false)
      | b :: _ => (b.toNat, 2, decide (128 ≤ b.toNat))
    else if a.toNat = 130 then
      match r with
      | b :: c :: _ => (b.toNat * 256 + c.toNat, 3, decide (255 < b.toNat * 256 + c.toNat))
      | _ => (0, 0, false)
    else (0, 0, false)

/-- parted behind the first element of that tag -/
def splitL (t : UInt8) : L → Option (L × L)
  | [] => none
  | a :: s =>
    if a = t ∧ (lenR s).2.2 = true ∧ (lenR s).1 + (lenR s).2.1 ≤ s.length
    then some ((s.drop (lenR s).2.1).take (lenR s).1, (s.drop (lenR s).2.1).drop (lenR s).1) else none

/-- a Cursor's state: 'none': it erred -/
def nextC (t : UInt8) (c : Option L) : Option L := (c.bind (splitL t)).map (·.2)
def bodyC (t : UInt8) (c : Option L) : Option L := (c.bind (splitL t)).map (·.1)

theorem body_none {t : UInt8} {s : L} (h : splitL t s = none) : bodyC t (some s) = none ∧ nextC t (some s) = none := by simp [bodyC, nextC, h]
theorem body_some {t : UInt8} {s b r : L} (h : splitL t s = some (b, r)) : bodyC t (some s) = some b ∧ nextC t (some s) = some r := by simp [bodyC, nextC, h]
def val (l : L) : Nat := l.foldl (fun a b => a * 256 + b.toNat) 0
def headSmall : L → Bool
  | [] => false
  | b :: _ => decide (b.toNat < 128)
/-- a number's bytes read -/
def numL : L → Option Nat
  | [] => none
  | a :: r =>
    if 7 < r.length ∨ 128 ≤ a.toNat then none
    else if a.toNat = 0 ∧ headSmall r = true then none
    else if 4611686018427387904 < val (a :: r) then none
    else some (val (a :: r))
def digK : Nat → Nat → L
  | 0, _ => []
  | k + 1, n => digK k (n / 256) ++ [UInt8.ofNat n]
/-- a number's bytes -/
def dig (n : Nat) : L := digK (Lib.bitLen n / 8 + 1) n
def clampN (n : Int) : Nat := (min (max n 0) 4611686018427387904).toNat
def encI (n : Int) : L := elem 2 (dig (clampN n))

/-- Int on a Cursor: the number, and the state behind it -/
def intC (c : Option L) : Nat × Option L :=
  match bodyC 2 c with
  | none => (0, none)
  | some b => match numL b with
    | none => (0, none)
    | some n => (n, nextC 2 c)

theorem clampN_le (n : Int) : clampN n ≤ 4611686018427387904 := by unfold clampN; omega
theorem clampN_of (n : Int) (h0 : 0 ≤ n) (h1 : n ≤ 4611686018427387904) : clampN n = n.toNat := by unfold clampN; omega
theorem clampN_int (n : Int) : ((clampN n : Nat) : Int) = min (max n 0) 4611686018427387904 := by unfold clampN; omega

theorem length_digK (k n : Nat) : (digK k n).length = k := by
  induction k generalizing n with
  | zero => rfl
  | succ k ih => simp [digK, ih]
theorem val_snoc (l : L) (b : UInt8) : val (l ++ [b]) = val l * 256 + b.toNat := by simp [val]
theorem val_digK (k n : Nat) : val (digK k n) = n % 256 ^ k := by
  induction k generalizing n with
  | zero => simp [digK, val, Nat.mod_one]
  | succ k ih =>
    rw [digK, val_snoc, ih]
    have h1 : (UInt8.ofNat n).toNat = n % 256 := by simp
    rw [h1, Nat.pow_succ, Nat.mul_comm (256 ^ k) 256, Nat.mod_mul]
    omega
theorem snoc_cases (l : L) (k : Nat) (h : l.length = k + 1) : ∃ m b, l = m ++ [b] ∧ m.length = k := by
  refine ⟨l.take k, l[k]'(by omega), ?_, by simp; omega⟩
  rw [List.take_append_getElem]
  rw [List.take_of_length_le (by omega)]
theorem digK_val (k : Nat) (l : L) (h : l.length = k) : digK k (val l) = l := by
  induction k generalizing l with
  | zero => rw [List.length_eq_zero_iff.1 h]; rfl
  | succ k ih =>
    obtain ⟨m, b, rfl, hm⟩ := snoc_cases l k h
    rw [digK, val_snoc]
    have hb := b.toNat_lt
    have e : (val m * 256 + b.toNat) / 256 = val m := by omega
    rw [e, ih m hm]
    congr 1
    simp only [List.cons.injEq, and_true]
    apply UInt8.toNat_inj.1
    simp
theorem digK_at (k n j : Nat) (h : j < k) : (digK k n)[j]? = some (UInt8.ofNat (n / 256 ^ (k - 1 - j))) := by
  induction k generalizing n with
  | zero => omega
  | succ k ih =>
    rw [digK]
    by_cases hj : j < k
    · rw [List.getElem?_append_left (by rw [length_digK]; exact hj), ih _ hj]
      congr 2
      rw [Nat.div_div_eq_div_mul]
      congr 1
      rw [show k + 1 - 1 - j = (k - 1 - j) + 1 by omega, Nat.pow_succ, Nat.mul_comm]
    · obtain rfl : j = k := by omega
      rw [List.getElem?_append_right (by rw [length_digK]; omega), length_digK]
      simp
theorem drop_step (l : L) (j : Nat) (b : UInt8) (h : l[j]? = some b) : l.drop j = b :: l.drop (j + 1) := by
  obtain ⟨hj, e⟩ := List.getElem?_eq_some_iff.1 h
  rw [List.drop_eq_getElem_cons hj, e]
theorem val_lt (l : L) : val l < 256 ^ l.length := by
  have h := val_digK l.length (val l)
  rw [digK_val l.length l rfl] at h
  have hp : 0 < 256 ^ l.length := Nat.pow_pos (by omega)
  rw [h]; exact Nat.mod_lt _ hp
theorem val_foldl (l : L) (x : Nat) : l.foldl (fun a b => a * 256 + b.toNat) x = x * 256 ^ l.length + val l := by
  induction l generalizing x with
  | nil => simp [val]
  | cons a r ih =>
    have e : val (a :: r) = a.toNat * 256 ^ r.length + val r := by
      show List.foldl _ (0 * 256 + a.toNat) r = _
      rw [ih]; simp
    rw [List.foldl_cons, ih, e, List.length_cons, Nat.pow_succ, Nat.add_mul, Nat.mul_assoc, Nat.mul_comm 256, Nat.add_assoc]
theorem val_cons (a : UInt8) (r : L) : val (a :: r) = a.toNat * 256 ^ r.length + val r := by
  show List.foldl _ (0 * 256 + a.toNat) r = _
  rw [val_foldl]; simp

/-! ### how many digits -/
theorem bitLen_zero : Lib.bitLen 0 = 0 := Lib.bitLenAux_zero 64
theorem bitLen_ge (x : Nat) (hx : x < 18446744073709551616) (k : Nat) (h : 2 ^ k ≤ x) : k + 1 ≤ Lib.bitLen x := by
  have h0 : x ≠ 0 := by
    have := Nat.pow_pos (n := k) (show 0 < 2 by omega); omega
  obtain ⟨_, _, h3⟩ := Lib.bitLenAux_bounds 64 x (by simpa using hx) h0
  have h4 : 2 ^ k < 2 ^ Lib.bitLen x := Nat.lt_of_le_of_lt h h3
  have := (Nat.pow_lt_pow_iff_right (a := 2) (by omega)).1 h4
  omega
theorem bitLen_bound (x k : Nat) (hk : k ≤ 64) (h : x < 2 ^ k) : Lib.bitLen x ≤ k := Lib.bitLen_le x k hk h
theorem lt_bitLen (x : Nat) (hx : x < 18446744073709551616) : x < 2 ^ Lib.bitLen x := by
  by_cases h0 : x = 0
  · subst h0; exact Nat.pow_pos (by omega)
  · exact (Lib.bitLenAux_bounds 64 x (by simpa using hx) h0).2.2
theorem bitLen_62 (n : Nat) (h : n ≤ 4611686018427387904) : Lib.bitLen n ≤ 63 := bitLen_bound n 63 (by omega) (by omega)
theorem length_dig (n : Nat) : (dig n).length = Lib.bitLen n / 8 + 1 := length_digK _ _
theorem dig_len (n : Nat) (h : n ≤ 4611686018427387904) : (dig n).length ≤ 8 := by
  rw [length_dig]; have := bitLen_62 n h; omega
theorem pow256 (k : Nat) : 256 ^ k = 2 ^ (8 * k) := by rw [Nat.pow_mul]
theorem val_dig (n : Nat) (h : n ≤ 4611686018427387904) : val (dig n) = n := by
  rw [dig, val_digK]
  apply Nat.mod_eq_of_lt
  rw [pow256]
  refine Nat.lt_of_lt_of_le (lt_bitLen n (by omega)) (Nat.pow_le_pow_right (by omega) (by omega))

theorem num_dig (n : Nat) (h : n ≤ 4611686018427387904) : numL (dig n) = some n := by
  have hv := val_dig n h
  have hl := length_dig n
  have h62 := bitLen_62 n h
  have hlt := lt_bitLen n (by omega)
  cases hd : dig n with
  | nil => rw [hd] at hl; simp at hl
  | cons a r =>
    rw [hd] at hv hl
    simp only [List.length_cons] at hl
    have hr : r.length = Lib.bitLen n / 8 := by omega
    have hc := val_cons a r
    rw [hv] at hc
    have ha : a.toNat < 128 := by
      rcases Nat.lt_or_ge a.toNat 128 with g | g
      · exact g
      · exfalso
        have h1 : 128 * 256 ^ r.length ≤ n := by
          have := Nat.mul_le_mul_right (256 ^ r.length) g; omega
        have h2 : 2 ^ (8 * r.length + 7) ≤ n := by
          rw [Nat.pow_add, ← pow256, Nat.mul_comm]; simpa using h1
        have h3 := bitLen_ge n (by omega) _ h2
        omega
    have hs : ¬ (a.toNat = 0 ∧ headSmall r = true) := by
      rintro ⟨h0, h1⟩
      cases r with
      | nil => simp [headSmall] at h1
      | cons b q =>
        simp only [headSmall, decide_eq_true_eq] at h1
        have hq := val_cons b q
        have hb := val_lt q
        simp only [List.length_cons] at hr hc
        rw [h0] at hc
        have h4 : n < 128 * 256 ^ q.length := by
          have : (b.toNat + 1) * 256 ^ q.length ≤ 128 * 256 ^ q.length := Nat.mul_le_mul_right _ (by omega)
          rw [Nat.add_mul] at this; omega
        have h5 : n < 2 ^ (8 * q.length + 7) := by
          rw [Nat.pow_add, ← pow256, Nat.mul_comm]; simpa using h4
        have h6 := bitLen_bound n (8 * q.length + 7) (by omega) h5
        omega
    simp only [numL]
    rw [if_neg (by omega), if_neg hs, if_neg (by omega), hv]

theorem val_take_snoc (l : L) (i : Nat) (h : i < l.length) : val (l.take (i + 1)) = val (l.take i) * 256 + (l[i]).toNat := by
  rw [List.take_succ_eq_append_getElem h, val_snoc]
theorem val_take_lt {a : UInt8} {r : L} (ha : a.toNat < 128) (hr : r.length ≤ 7) (i : Nat) : val ((a :: r).take i) < 9223372036854775808 := by
  cases i with
  | zero => simp [val]
  | succ i =>
    rw [List.take_succ_cons, val_cons]
    have h1 := val_lt (r.take i)
    have h2 : (r.take i).length ≤ 7 := by have := List.length_take_le i r; have := List.length_take_le' i r; omega
    have h3 : 256 ^ (r.take i).length ≤ 256 ^ 7 := Nat.pow_le_pow_right (by omega) h2
    have h4 : (a.toNat + 1) * 256 ^ (r.take i).length ≤ 128 * 256 ^ 7 := Nat.mul_le_mul (by omega) h3
    rw [Nat.add_mul] at h4
    have h5 : (128 : Nat) * 256 ^ 7 = 9223372036854775808 := by decide
    omega
/-- what 'number' answers -/
def numR (s : L) : Nat × Bool := ((numL s).getD 0, (numL s).isSome)
theorem numL_none {a : UInt8} {r : L} (h : (7 < r.length ∨ 128 ≤ a.toNat) ∨ (a.toNat = 0 ∧ headSmall r = true) ∨ 4611686018427387904 < val (a :: r)) : numL (a :: r) = none := by
  rw [numL]
  by_cases h1 : 7 < r.length ∨ 128 ≤ a.toNat
  · rw [if_pos h1]
  · rw [if_neg h1]
    by_cases h2 : a.toNat = 0 ∧ headSmall r = true
    · rw [if_pos h2]
    · rw [if_neg h2]
      rcases h with h | h | h
      · exact absurd h h1
      · exact absurd h h2
      · rw [if_pos h]
theorem numR_nil : numR [] = (0, false) := rfl
theorem numR_none {s : L} (h : numL s = none) : numR s = (0, false) := by rw [numR, h]; rfl
theorem numR_long {a : UInt8} {r : L} (h : 7 < r.length) : numR (a :: r) = (0, false) := numR_none (numL_none (.inl (.inl h)))
theorem numR_high {a : UInt8} {r : L} (h : 128 ≤ a.toNat) : numR (a :: r) = (0, false) := numR_none (numL_none (.inl (.inr h)))
theorem numR_lead {a b : UInt8} {r : L} (h : a.toNat = 0) (hb : b.toNat < 128) : numR (a :: b :: r) = (0, false) := numR_none (numL_none (.inr (.inl ⟨h, by simpa [headSmall] using hb⟩)))
theorem numR_great {a : UInt8} {r : L} (h : 4611686018427387904 < val (a :: r)) : numR (a :: r) = (0, false) := numR_none (numL_none (.inr (.inr h)))
theorem numR_good {a : UInt8} {r : L} (h1 : r.length ≤ 7) (h2 : a.toNat < 128) (h3 : ¬ (a.toNat = 0 ∧ headSmall r = true)) (h4 : val (a :: r) ≤ 4611686018427387904) : numR (a :: r) = (val (a :: r), true) := by
  simp only [numR, numL]
  rw [if_neg (by omega), if_neg h3, if_neg (by omega)]; rfl

theorem numL_some {p : L} {n : Nat} (h : numL p = some n) : n = val p ∧ n ≤ 4611686018427387904 ∧ 1 ≤ p.length ∧ p.length ≤ 8 ∧ Lib.bitLen n / 8 + 1 = p.length := by
  cases p with
  | nil => simp [numL] at h
  | cons a r =>
    simp only [numL] at h
    by_cases c1 : 7 < r.length ∨ 128 ≤ a.toNat
    · rw [if_pos c1] at h; cases h
    · rw [if_neg c1] at h
      by_cases c2 : a.toNat = 0 ∧ headSmall r = true
      · rw [if_pos c2] at h; cases h
      · rw [if_neg c2] at h
        by_cases c3 : 4611686018427387904 < val (a :: r)
        · rw [if_pos c3] at h; cases h
        · rw [if_neg c3] at h
          injection h with h
          subst h
          have hc := val_cons a r
          have hr := val_lt r
          have hup : val (a :: r) < 2 ^ (8 * r.length + 7) := by
            have : (a.toNat + 1) * 256 ^ r.length ≤ 128 * 256 ^ r.length := Nat.mul_le_mul_right _ (by omega)
            rw [Nat.add_mul] at this
            rw [Nat.pow_add, ← pow256, Nat.mul_comm]
            have e : (2 : Nat) ^ 7 = 128 := by decide
            rw [e]; omega
          have hu := bitLen_bound _ _ (by omega) hup
          have hlow : r.length = 0 ∨ 8 * r.length ≤ Lib.bitLen (val (a :: r)) := by
            cases r with
            | nil => left; rfl
            | cons b q =>
              right
              have hq := val_cons b q
              simp only [List.length_cons] at *
              by_cases ha : a.toNat = 0
              · have hb : 128 ≤ b.toNat := by
                  have : ¬ headSmall (b :: q) = true := fun g => c2 ⟨ha, g⟩
                  simp only [headSmall, decide_eq_true_eq] at this
                  omega
                have h1 : 128 * 256 ^ q.length ≤ val (a :: b :: q) := by
                  have := Nat.mul_le_mul_right (256 ^ q.length) hb; omega
                have h2 : 2 ^ (8 * q.length + 7) ≤ val (a :: b :: q) := by
                  rw [Nat.pow_add, ← pow256, Nat.mul_comm]; simpa using h1
                have := bitLen_ge _ (by omega) _ h2
                omega
              · have h1 : 1 * 256 ^ (q.length + 1) ≤ val (a :: b :: q) := by
                  have := Nat.mul_le_mul_right (256 ^ (q.length + 1)) (show 1 ≤ a.toNat by omega); omega
                have h2 : 2 ^ (8 * (q.length + 1)) ≤ val (a :: b :: q) := by
                  rw [← pow256]; simpa using h1
                have := bitLen_ge _ (by omega) _ h2
                omega
          simp only [List.length_cons]
          refine ⟨trivial, by omega, by omega, by omega, ?_⟩
          rcases hlow with h0 | h0
          · omega
          · omega

theorem dig_num {p : L} {n : Nat} (h : numL p = some n) : dig n = p := by
  obtain ⟨h1, _, _, _, h5⟩ := numL_some h
  rw [dig, h5, h1]
  exact digK_val _ _ rfl

/-! ### elements -/
theorem lenR_small {a : UInt8} {r : L} (h : a.toNat < 128) : lenR (a :: r) = (a.toNat, 1, true) := by simp [lenR, h]
theorem lenR_129_nil {a : UInt8} (h : a.toNat = 129) : lenR [a] = (0, 0, false) := by simp [lenR, h]
theorem lenR_129 {a b : UInt8} {r : L} (h : a.toNat = 129) : lenR (a :: b :: r) = (b.toNat, 2, decide (128 ≤ b.toNat)) := by simp [lenR, h]
theorem lenR_130_nil {a : UInt8} (h : a.toNat = 130) : lenR [a] = (0, 0, false) := by simp [lenR, h]
theorem lenR_130_one {a b : UInt8} (h : a.toNat = 130) : lenR [a, b] = (0, 0, false) := by simp [lenR, h]
theorem lenR_130 {a b c : UInt8} {r : L} (h : a.toNat = 130) : lenR (a :: b :: c :: r) = (b.toNat * 256 + c.toNat, 3, decide (255 < b.toNat * 256 + c.toNat)) := by simp [lenR, h]
theorem lenR_else {a : UInt8} {r : L} (h1 : ¬ a.toNat < 128) (h2 : ¬ a.toNat = 129) (h3 : ¬ a.toNat = 130) : lenR (a :: r) = (0, 0, false) := by simp [lenR, h1, h2, h3]
theorem lenR_le (s : L) : (lenR s).1 ≤ 65535 ∧ (lenR s).2.1 ≤ 3 := by
  cases s with
  | nil => simp [lenR]
  | cons a r =>
    have ha := a.toNat_lt
    by_cases h1 : a.toNat < 128
    · rw [lenR_small h1]; simp; omega
    · by_cases h2 : a.toNat = 129
      · cases r with
        | nil => rw [lenR_129_nil h2]; simp
        | cons b q => rw [lenR_129 h2]; have := b.toNat_lt; simp; omega
      · by_cases h3 : a.toNat = 130
        · rcases r with _ | ⟨b, _ | ⟨c, q⟩⟩
          · rw [lenR_130_nil h3]; simp
          · rw [lenR_130_one h3]; simp
          · rw [lenR_130 h3]; have := b.toNat_lt; have := c.toNat_lt; simp; omega
        · rw [lenR_else h1 h2 h3]; simp
theorem length_szL (n : Nat) : (szL n).length = if n < 128 then 1 else if n ≤ 255 then 2 else 3 := by
  unfold szL; split
  · rfl
  · split <;> rfl
theorem length_elem (t : UInt8) (p : L) : (elem t p).length = 1 + (szL p.length).length + p.length := by
  simp [elem]; omega
theorem lenR_szL (n : Nat) (h : n ≤ 65535) (r : L) : lenR (szL n ++ r) = (n, (szL n).length, true) := by
  unfold szL
  by_cases h1 : n < 128
  · have e : n % 256 = n := by omega
    simp [h1, lenR, e]
  · by_cases h2 : n ≤ 255
    · have e : (UInt8.ofNat n).toNat = n := by simp; omega
      simp [h1, h2, lenR]
      omega
    · have e1 : (UInt8.ofNat (n / 256)).toNat = n / 256 := by simp; omega
      have e2 : (UInt8.ofNat n).toNat = n % 256 := by simp
      have e3 : n / 256 % 256 * 256 + n % 256 = n := by omega
      simp [h1, h2, lenR, e3]
      omega
theorem szL_of_lenR {s : L} (h : (lenR s).2.2 = true) : szL (lenR s).1 = s.take (lenR s).2.1 ∧ (lenR s).2.1 = (szL (lenR s).1).length ∧ (lenR s).2.1 ≤ s.length ∧ (lenR s).1 ≤ 65535 := by
  have key : ∀ a : UInt8, UInt8.ofNat a.toNat = a := fun a => by simp
  cases s with
  | nil => simp [lenR] at h
  | cons a r =>
    have ha := a.toNat_lt
    by_cases h1 : a.toNat < 128
    · simp [lenR, h1, szL]; omega
    · by_cases h2 : a.toNat = 129
      · cases r with
        | nil => simp [lenR, h2] at h
        | cons b q =>
          have hb := b.toNat_lt
          have hae : a = 129 := UInt8.toNat_inj.1 h2
          subst hae
          simp [lenR] at h
          have h3 : ¬ b.toNat < 128 := by omega
          have h4 : b.toNat ≤ 255 := by omega
          simp [lenR, szL, h3, h4]
          omega
      · by_cases h3 : a.toNat = 130
        · rcases r with _ | ⟨b, _ | ⟨c, q⟩⟩
          · simp [lenR, h3] at h
          · simp [lenR, h3] at h
          · have hb := b.toNat_lt
            have hc := c.toNat_lt
            have hae : a = 130 := UInt8.toNat_inj.1 h3
            subst hae
            simp [lenR] at h
            have g1 : ¬ b.toNat * 256 + c.toNat < 128 := by omega
            have g2 : ¬ b.toNat * 256 + c.toNat ≤ 255 := by omega
            have e1 : UInt8.ofNat ((b.toNat * 256 + c.toNat) / 256) = b := by
              rw [show (b.toNat * 256 + c.toNat) / 256 = b.toNat by omega]; simp
            have e2 : UInt8.ofNat (b.toNat * 256 + c.toNat) = c := by
              apply UInt8.toNat_inj.1; simp
            simp only [lenR, szL]
            simp [g1, g2, e1, e2]
            omega
        · simp [lenR, h1, h2, h3] at h

theorem split_elem (t : UInt8) (p r : L) (h : p.length ≤ 65535) : splitL t (elem t p ++ r) = some (p, r) := by
  show splitL t (t :: (szL p.length ++ p ++ r)) = _
  rw [List.append_assoc, splitL, lenR_szL _ h]
  simp
  omega
theorem split_sound {t : UInt8} {s b r : L} (h : splitL t s = some (b, r)) : s = elem t b ++ r ∧ b.length ≤ 65535 := by
  cases s with
  | nil => simp [splitL] at h
  | cons a s =>
    simp only [splitL] at h
    by_cases hc : a = t ∧ (lenR s).2.2 = true ∧ (lenR s).1 + (lenR s).2.1 ≤ s.length
    · rw [if_pos hc] at h
      obtain ⟨rfl, h1, h2⟩ := hc
      obtain ⟨g1, g2, g3, g4⟩ := szL_of_lenR h1
      injection h with h
      injection h with hb hr
      have hl : b.length = (lenR s).1 := by rw [← hb]; simp; omega
      refine ⟨?_, by omega⟩
      rw [elem, hl, g1, ← hb, ← hr, List.cons_append, List.append_assoc, List.take_append_drop, List.take_append_drop]
    · rw [if_neg hc] at h; cases h
theorem elem_inj {t : UInt8} {p q r1 r2 : L} (hp : p.length ≤ 65535) (hq : q.length ≤ 65535) (h : elem t p ++ r1 = elem t q ++ r2) : p = q ∧ r1 = r2 := by
  have h1 := split_elem t p r1 hp
  rw [h, split_elem t q r2 hq] at h1
  injection h1 with h1
  injection h1 with h1 h2
  exact ⟨h1.symm, h2.symm⟩
theorem split_cut (t : UInt8) (p : L) (hp : p.length ≤ 65535) (k : Nat) (hk : k < (elem t p).length) : splitL t ((elem t p).take k) = none := by
  cases h : splitL t ((elem t p).take k) with
  | none => rfl
  | some x =>
    obtain ⟨b, r⟩ := x
    obtain ⟨h1, h2⟩ := split_sound h
    have h3 : elem t p ++ [] = elem t b ++ (r ++ (elem t p).drop k) := by
      rw [← List.append_assoc, ← h1, List.take_append_drop, List.append_nil]
    obtain ⟨_, h4⟩ := elem_inj hp h2 h3
    have h5 := congrArg List.length h4
    simp at h5
    omega
theorem split_len {t : UInt8} {s b r : L} (h : splitL t s = some (b, r)) : b.length ≤ s.length ∧ r.length ≤ s.length := by
  have := congrArg List.length (split_sound h).1
  simp [length_elem] at this
  omega
theorem body_len (t : UInt8) (c : Option L) : ((bodyC t c).getD []).length ≤ (c.getD []).length ∧ ((nextC t c).getD []).length ≤ (c.getD []).length := by
  cases c with
  | none => simp [bodyC, nextC]
  | some s =>
    cases h : splitL t s with
    | none => obtain ⟨e1, e2⟩ := body_none h; rw [e1, e2]; simp
    | some x =>
      obtain ⟨b, r⟩ := x
      obtain ⟨e1, e2⟩ := body_some h
      rw [e1, e2]
      exact split_len h
theorem body_next (t : UInt8) (c : Option L) (h : bodyC t c = none) : nextC t c = none := by
  unfold bodyC at h
  unfold nextC
  rw [Option.map_eq_none_iff] at h ⊢
  exact h
theorem split_tag {t u : UInt8} {s : L} (h : t ≠ u) : splitL u (t :: s) = none := by
  simp [splitL, h]
theorem encI_len (n : Int) : (dig (clampN n)).length ≤ 8 := dig_len _ (clampN_le n)
theorem int_enc (n : Int) (r : L) : intC (some (encI n ++ r)) = (clampN n, some r) := by
  have h := split_elem 2 (dig (clampN n)) r (by have := encI_len n; omega)
  simp only [intC, bodyC, nextC, encI, Option.bind_some, h, Option.map_some, num_dig _ (clampN_le n)]

end Go.Proofs.Ytkkpcnibghndgaa.DerP
