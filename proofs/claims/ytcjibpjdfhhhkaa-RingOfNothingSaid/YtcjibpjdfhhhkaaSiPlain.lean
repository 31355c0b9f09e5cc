/-
  The plain mathematics of chapter 3: words of 64 digits, a round, the state behind so many bytes, and that it is the state behind the full words.
-/
import Derived.Test.YtcjibpjdfhhhkaaMem
import Derived.Laws.Bits64
import Derived.Laws.Bits64b
namespace Go.Proofs.Ytcjibpjdfhhhkaa.Si
open Go.RowKit Go.Proofs.Ytcjibpjdfhhhkaa.Mem

abbrev Wd := BitVec 64
/-- x turned to the left by s -/
def rot (v : Wd) (s : Nat) : Wd := (v <<< s) ||| (v >>> (64 - s))
/-- a word as a value -/
abbrev wv (v : Wd) : Value := .int .u64 (v.toNat : Int)
def wd (n : Nat) : Wd := BitVec.ofNat 64 n

theorem wd_lt (v : Wd) : v.toNat < 18446744073709551616 := v.isLt
theorem wd_nat (n : Nat) (h : n < 18446744073709551616) : (wd n).toNat = n := by
  rw [wd, BitVec.toNat_ofNat]; exact Nat.mod_eq_of_lt h
theorem xor_w (x y : Wd) : bits .xor .u64 (x.toNat : Int) (y.toNat : Int) = ((x ^^^ y).toNat : Int) := by
  rw [u64_xor_nat _ _ x.isLt y.isLt, BitVec.toNat_xor]
theorem add_w (x y : Wd) : ((x.toNat : Int) + (y.toNat : Int)) % 18446744073709551616 = ((x + y).toNat : Int) := by
  rw [BitVec.toNat_add]; omega
theorem add_ww (x y : Wd) : IntKind.u64.wrap ((x.toNat : Int) + (y.toNat : Int)) = ((x + y).toNat : Int) := by
  rw [IntKind.wrap_u64, add_w]
theorem rot_nat (v : Wd) (s : Nat) : (rot v s).toNat = (v.toNat * 2 ^ s % 18446744073709551616) ||| (v.toNat / 2 ^ (64 - s)) := by
  simp [rot, BitVec.toNat_or, BitVec.toNat_shiftLeft, BitVec.toNat_ushiftRight, Nat.shiftLeft_eq, Nat.shiftRight_eq_div_pow]
theorem or_rot (v : Wd) (a b : Nat) (s : Nat) (ha : a = v.toNat * 2 ^ s % 18446744073709551616) (hb : b = v.toNat / 2 ^ (64 - s)) : bits .or .u64 (a : Int) (b : Int) = ((rot v s).toNat : Int) := by
  rw [u64_or_nat a b (by omega) (by have := wd_lt v; have := Nat.div_le_self v.toNat (2 ^ (64 - s)); omega), rot_nat, ha, hb]
theorem or13 (v : Wd) : bits .or .u64 ((v.toNat : Int) * 8192 % 18446744073709551616) ((v.toNat : Int) / 2251799813685248) = ((rot v 13).toNat : Int) := or_rot v _ _ 13 rfl rfl
theorem or32 (v : Wd) : bits .or .u64 ((v.toNat : Int) * 4294967296 % 18446744073709551616) ((v.toNat : Int) / 4294967296) = ((rot v 32).toNat : Int) := or_rot v _ _ 32 rfl rfl
theorem or16 (v : Wd) : bits .or .u64 ((v.toNat : Int) * 65536 % 18446744073709551616) ((v.toNat : Int) / 281474976710656) = ((rot v 16).toNat : Int) := or_rot v _ _ 16 rfl rfl
theorem or21 (v : Wd) : bits .or .u64 ((v.toNat : Int) * 2097152 % 18446744073709551616) ((v.toNat : Int) / 8796093022208) = ((rot v 21).toNat : Int) := or_rot v _ _ 21 rfl rfl
theorem or17 (v : Wd) : bits .or .u64 ((v.toNat : Int) * 131072 % 18446744073709551616) ((v.toNat : Int) / 140737488355328) = ((rot v 17).toNat : Int) := or_rot v _ _ 17 rfl rfl

/-! ### bytes as a word -/
def wordN : List UInt8 → Nat
  | [] => 0
  | b :: l => b.toNat + 256 * wordN l
theorem wordN_lt : ∀ l, wordN l < 256 ^ l.length
  | [] => by simp [wordN]
  | b :: l => by
    have h := wordN_lt l
    have hb := b.toNat_lt
    rw [wordN, List.length_cons, Nat.pow_succ]
    omega
theorem wordN_snoc (b : UInt8) : ∀ l, wordN (l ++ [b]) = wordN l + b.toNat * 256 ^ l.length
  | [] => by simp [wordN]
  | c :: l => by
    rw [List.cons_append, wordN, wordN_snoc b l, wordN, List.length_cons, Nat.pow_succ, Nat.mul_add, Nat.add_assoc]
    congr 2
    rw [Nat.mul_comm, Nat.mul_assoc]
theorem wordN_8 {l : List UInt8} (h : l.length ≤ 8) : wordN l < 18446744073709551616 :=
  Nat.lt_of_lt_of_le (wordN_lt l) (Nat.pow_le_pow_right (by decide) h : 256 ^ l.length ≤ 256 ^ 8)
theorem wordN_7 {l : List UInt8} (h : l.length ≤ 7) : wordN l < 72057594037927936 :=
  Nat.lt_of_lt_of_le (wordN_lt l) (Nat.pow_le_pow_right (by decide) h : 256 ^ l.length ≤ 256 ^ 7)

/-! ### the state -/
structure V where
  a : Wd
  b : Wd
  c : Wd
  d : Wd
def rnd (s : V) : V :=
  let a1 := s.a + s.b
  let b1 := rot s.b 13 ^^^ a1
  let a2 := rot a1 32
  let c1 := s.c + s.d
  let d1 := rot s.d 16 ^^^ c1
  let a3 := a2 + d1
  let d2 := rot d1 21 ^^^ a3
  let c2 := c1 + b1
  let b2 := rot b1 17 ^^^ c2
  let c3 := rot c2 32
  ⟨a3, b2, c3, d2⟩
def rnds : Nat → V → V
  | 0, s => s
  | n + 1, s => rnd (rnds n s)
def addM (s : V) (m : Wd) : V := ⟨(rnds 2 ⟨s.a, s.b, s.c, s.d ^^^ m⟩).a ^^^ m, (rnds 2 ⟨s.a, s.b, s.c, s.d ^^^ m⟩).b, (rnds 2 ⟨s.a, s.b, s.c, s.d ^^^ m⟩).c, (rnds 2 ⟨s.a, s.b, s.c, s.d ^^^ m⟩).d⟩
def allX (s : V) : Wd := s.a ^^^ s.b ^^^ s.c ^^^ s.d
def fin (s : V) : Wd := allX (rnds 4 ⟨s.a, s.b, s.c ^^^ 255#64, s.d⟩)
def kA (ks : Nat → UInt8) : Wd := wd (wordN ((List.range 8).map ks))
def kB (ks : Nat → UInt8) : Wd := wd (wordN ((List.range 8).map fun i => ks (8 + i)))
def start (ks : Nat → UInt8) : V := ⟨0x736f6d6570736575#64 ^^^ kA ks, 0x646f72616e646f6d#64 ^^^ kB ks, 0x6c7967656e657261#64 ^^^ kA ks, 0x7465646279746573#64 ^^^ kB ks⟩
structure St where
  v : V
  r : Nat
  n : Nat
def addB (s : St) (b : UInt8) : St :=
  if (s.n + 1) % 8 = 0 then ⟨addM s.v (wd (s.r + b.toNat * 256 ^ (s.n % 8))), 0, s.n + 1⟩ else ⟨s.v, s.r + b.toNat * 256 ^ (s.n % 8), s.n + 1⟩
theorem addB_end (s : St) (b : UInt8) (h : (s.n + 1) % 8 = 0) : addB s b = ⟨addM s.v (wd (s.r + b.toNat * 256 ^ (s.n % 8))), 0, s.n + 1⟩ := if_pos h
theorem addB_in (s : St) (b : UInt8) (h : ¬(s.n + 1) % 8 = 0) : addB s b = ⟨s.v, s.r + b.toNat * 256 ^ (s.n % 8), s.n + 1⟩ := if_neg h
def stOf (ks : Nat → UInt8) (l : List UInt8) : St := l.foldl addB ⟨start ks, 0, 0⟩
def lastW (s : St) : Wd := wd (s.r + s.n % 256 * 72057594037927936)
def finS (s : St) : Wd := fin (addM s.v (lastW s))
def sumOf (ks : Nat → UInt8) (l : List UInt8) : Wd := finS (stOf ks l)
theorem stOf_snoc (ks : Nat → UInt8) (l : List UInt8) (b : UInt8) : stOf ks (l ++ [b]) = addB (stOf ks l) b := by simp [stOf]
theorem stOf_more (ks : Nat → UInt8) (l m : List UInt8) : stOf ks (l ++ m) = m.foldl addB (stOf ks l) := by simp [stOf]

/-- the state behind j full words -/
def full (ks : Nat → UInt8) (p : List UInt8) : Nat → V
  | 0 => start ks
  | j + 1 => addM (full ks p j) (wd (wordN ((p.drop (8 * j)).take 8)))
theorem stOf_full (ks : Nat → UInt8) (p : List UInt8) : ∀ n, n ≤ p.length → stOf ks (p.take n) = ⟨full ks p (n / 8), wordN ((p.take n).drop (8 * (n / 8))), n⟩
  | 0, _ => by simp [stOf, full, wordN]
  | n + 1, h => by
    have ih := stOf_full ks p n (by omega)
    have hlt : n < p.length := by omega
    have et : p.take (n + 1) = p.take n ++ [p[n]] := by rw [List.take_succ_eq_append_getElem hlt]
    have el : ((p.take n).drop (8 * (n / 8))).length = n % 8 := by rw [List.length_drop, List.length_take]; omega
    have ew : (p.take (n + 1)).drop (8 * (n / 8)) = (p.take n).drop (8 * (n / 8)) ++ [p[n]] := by
      rw [et, List.drop_append_of_le_length (by rw [List.length_take]; omega)]
    have eN : wordN ((p.take (n + 1)).drop (8 * (n / 8))) = wordN ((p.take n).drop (8 * (n / 8))) + p[n].toNat * 256 ^ (n % 8) := by rw [ew, wordN_snoc, el]
    have e0 : stOf ks (p.take (n + 1)) = addB (stOf ks (p.take n)) p[n] := by rw [et, stOf_snoc]
    have ez : (p.take (n + 1)).drop (n + 1) = [] := List.drop_of_length_le (by rw [List.length_take]; omega)
    rw [e0, ih]
    by_cases h8 : (n + 1) % 8 = 0
    · have hd : (n + 1) / 8 = n / 8 + 1 := by omega
      have hm : 8 * ((n + 1) / 8) = n + 1 := by omega
      have ed : (p.take (n + 1)).drop (8 * (n / 8)) = (p.drop (8 * (n / 8))).take 8 := by rw [List.drop_take, show n + 1 - 8 * (n / 8) = 8 by omega]
      rw [addB_end _ _ h8, ← eN, hm, ez, hd, full, ed]
      simp only [wordN]
    · have hd : (n + 1) / 8 = n / 8 := by omega
      rw [addB_in _ _ h8, hd, eN]
theorem stOf_all (ks : Nat → UInt8) (p : List UInt8) : stOf ks p = ⟨full ks p (p.length / 8), wordN (p.drop (8 * (p.length / 8))), p.length⟩ := by
  have h := stOf_full ks p p.length (Nat.le_refl _)
  rwa [List.take_length] at h
theorem stOf_n (ks : Nat → UInt8) (p : List UInt8) : (stOf ks p).n = p.length := by rw [stOf_all]
theorem stOf_r (ks : Nat → UInt8) (p : List UInt8) : (stOf ks p).r < 256 ^ ((stOf ks p).n % 8) := by
  rw [stOf_all]
  have h := wordN_lt (p.drop (8 * (p.length / 8)))
  rw [List.length_drop] at h
  rwa [show p.length - 8 * (p.length / 8) = p.length % 8 by omega] at h
theorem pow_8 (k : Nat) (h : k ≤ 7) : 256 ^ k ≤ 72057594037927936 := (Nat.pow_le_pow_right (by decide) h : 256 ^ k ≤ 256 ^ 7)

/-! ### a byte laid on its place -/
theorem nat_or_place (r b k : Nat) (hr : r < 256 ^ k) : r ||| b * 256 ^ k = r + b * 256 ^ k := by
  have e : (256 : Nat) ^ k = 2 ^ (8 * k) := by rw [Nat.pow_mul]
  rw [e] at hr ⊢
  have h := Nat.shiftLeft_add_eq_or_of_lt hr b
  rw [Nat.shiftLeft_eq] at h
  rw [Nat.or_comm, ← h, Nat.add_comm]
theorem place_lt (r : Nat) (b : UInt8) (k : Nat) (hr : r < 256 ^ k) : r + b.toNat * 256 ^ k < 256 ^ (k + 1) := by
  have hb := b.toNat_lt
  rw [Nat.pow_succ]
  have : b.toNat * 256 ^ k ≤ 255 * 256 ^ k := Nat.mul_le_mul_right _ (by omega)
  omega
theorem or_place (r : Nat) (b : UInt8) (k : Nat) (hk : k ≤ 7) (hr : r < 256 ^ k) (X : Int) (hX : X = ((b.toNat * 256 ^ k : Nat) : Int)) : bits .or .u64 (r : Int) X = ((r + b.toNat * 256 ^ k : Nat) : Int) := by
  have hp := pow_8 k hk
  have hl := place_lt r b k hr
  have h8 : (256 : Nat) ^ (k + 1) ≤ 256 ^ 8 := Nat.pow_le_pow_right (by decide) (by omega)
  have h8' : (256 : Nat) ^ 8 = 18446744073709551616 := by decide
  rw [hX, u64_or_nat _ _ (by omega) (by omega), nat_or_place r _ k hr]
theorem or_count (r n : Nat) (hr : r < 72057594037927936) : bits .or .u64 (r : Int) ((n : Int) * 72057594037927936 % 18446744073709551616) = ((r + n % 256 * 72057594037927936 : Nat) : Int) := by
  have e : (n : Int) * 72057594037927936 % 18446744073709551616 = ((n % 256 * 256 ^ 7 : Nat) : Int) := by
    have : (256 : Nat) ^ 7 = 72057594037927936 := by decide
    rw [this]; omega
  have eb : (UInt8.ofNat (n % 256)).toNat = n % 256 := by simp
  have h := or_place r (UInt8.ofNat (n % 256)) 7 (by decide) hr ((n : Int) * 72057594037927936 % 18446744073709551616) (by rw [e, eb])
  rw [h, eb]
/-- the round's own example -/
theorem ex_sum : sumOf (fun i => UInt8.ofNat i) ((List.range 15).map UInt8.ofNat) = 0xa129ca6149be45e5#64 := by decide +kernel
end Go.Proofs.Ytcjibpjdfhhhkaa.Si
