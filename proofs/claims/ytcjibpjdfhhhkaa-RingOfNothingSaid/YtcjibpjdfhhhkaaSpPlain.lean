/-
  The plain mathematics of chapter 2: words of 32 digits that are turned, the key's words, a block and what undoes it, the stream's bytes.
-/
import Derived.Test.YtcjibpjdfhhhkaaMem
namespace Go.Proofs.Ytcjibpjdfhhhkaa.Sp
open Go.RowKit Go.Proofs.Ytcjibpjdfhhhkaa.Mem

abbrev Wd := BitVec 32
/-- x turned to the left by s -/
def rot (v : Wd) (s : Nat) : Wd := (v <<< s) ||| (v >>> (32 - s))
/-- a word as a value -/
abbrev wv (v : Wd) : Value := .int .u32 (v.toNat : Int)

theorem wd_lt (v : Wd) : v.toNat < 4294967296 := v.isLt
theorem u32_word (n : Nat) : IntKind.u32.wrap (n : Int) = ((BitVec.ofNat 32 n).toNat : Int) := by
  rw [IntKind.wrap_u32, BitVec.toNat_ofNat]; omega
theorem xor_w (x y : Wd) : bits .xor .u32 (x.toNat : Int) (y.toNat : Int) = ((x ^^^ y).toNat : Int) := by
  rw [u32_xor_nat _ _ x.isLt y.isLt, BitVec.toNat_xor]
theorem add_w (x y : Wd) : ((x.toNat : Int) + (y.toNat : Int)) % 4294967296 = ((x + y).toNat : Int) := by
  rw [BitVec.toNat_add]; omega
theorem sub_w (x y : Wd) : ((x.toNat : Int) - (y.toNat : Int)) % 4294967296 = ((x - y).toNat : Int) := by
  have := wd_lt x; have := wd_lt y
  rw [BitVec.toNat_sub]; omega
theorem rot_nat (v : Wd) (s : Nat) : (rot v s).toNat = (v.toNat * 2 ^ s % 4294967296) ||| (v.toNat / 2 ^ (32 - s)) := by
  simp [rot, BitVec.toNat_or, BitVec.toNat_shiftLeft, BitVec.toNat_ushiftRight, Nat.shiftLeft_eq, Nat.shiftRight_eq_div_pow]
theorem rot_cut (v : Wd) (s : Nat) (hs : s ≤ 32) : v.toNat * 2 ^ s % 4294967296 = v.toNat % 2 ^ (32 - s) * 2 ^ s := by
  have : (4294967296 : Nat) = 2 ^ (32 - s) * 2 ^ s := by rw [← Nat.pow_add, Nat.sub_add_cancel hs]
  rw [this, Nat.mul_mod_mul_right]
theorem rot_sum (v : Wd) (s : Nat) (hs : s ≤ 32) : (rot v s).toNat = v.toNat % 2 ^ (32 - s) * 2 ^ s + v.toNat / 2 ^ (32 - s) := by
  rw [rot_nat, rot_cut v s hs]
  refine nat_join s _ _ (Nat.mul_mod_left _ _) ?_
  have : (4294967296 : Nat) = 2 ^ (32 - s) * 2 ^ s := by rw [← Nat.pow_add, Nat.sub_add_cancel hs]
  exact Nat.div_lt_of_lt_mul (this ▸ v.isLt)
theorem or_rot (v : Wd) (a b : Nat) (s : Nat) (ha : a = v.toNat * 2 ^ s % 4294967296) (hb : b = v.toNat / 2 ^ (32 - s)) : bits .or .u32 (a : Int) (b : Int) = ((rot v s).toNat : Int) := by
  rw [u32_or_nat a b (by omega) (by have := wd_lt v; have := Nat.div_le_self v.toNat (2 ^ (32 - s)); omega), rot_nat, ha, hb]
theorem or_rot' (v : Wd) (a b : Nat) (s : Nat) (ha : a = v.toNat * 2 ^ s % 4294967296) (hb : b = v.toNat / 2 ^ (32 - s)) : bits .or .u32 (b : Int) (a : Int) = ((rot v s).toNat : Int) := by
  rw [u32_or_nat b a (by have := wd_lt v; have := Nat.div_le_self v.toNat (2 ^ (32 - s)); omega) (by omega), rot_nat, ha, hb, Nat.or_comm]
theorem or3 (v : Wd) : bits .or .u32 ((v.toNat : Int) * 8 % 4294967296) ((v.toNat : Int) / 536870912) = ((rot v 3).toNat : Int) := or_rot v _ _ 3 rfl rfl
theorem or8 (v : Wd) : bits .or .u32 ((v.toNat : Int) * 256 % 4294967296) ((v.toNat : Int) / 16777216) = ((rot v 8).toNat : Int) := or_rot v _ _ 8 rfl rfl
theorem or24 (v : Wd) : bits .or .u32 ((v.toNat : Int) * 16777216 % 4294967296) ((v.toNat : Int) / 256) = ((rot v 24).toNat : Int) := or_rot v _ _ 24 rfl rfl
theorem or29 (v : Wd) : bits .or .u32 ((v.toNat : Int) * 536870912 % 4294967296) ((v.toNat : Int) / 8) = ((rot v 29).toNat : Int) := or_rot v _ _ 29 rfl rfl
theorem ro3 (v : Wd) : bits .or .u32 ((v.toNat : Int) / 536870912) ((v.toNat : Int) * 8 % 4294967296) = ((rot v 3).toNat : Int) := or_rot' v _ _ 3 rfl rfl
theorem ro8 (v : Wd) : bits .or .u32 ((v.toNat : Int) / 16777216) ((v.toNat : Int) * 256 % 4294967296) = ((rot v 8).toNat : Int) := or_rot' v _ _ 8 rfl rfl
theorem ro24 (v : Wd) : bits .or .u32 ((v.toNat : Int) / 256) ((v.toNat : Int) * 16777216 % 4294967296) = ((rot v 24).toNat : Int) := or_rot' v _ _ 24 rfl rfl
theorem ro29 (v : Wd) : bits .or .u32 ((v.toNat : Int) / 8) ((v.toNat : Int) * 536870912 % 4294967296) = ((rot v 29).toNat : Int) := or_rot' v _ _ 29 rfl rfl
theorem rot_3_29 (v : Wd) : rot (rot v 3) 29 = v := by
  apply BitVec.eq_of_toNat_eq
  have := wd_lt v
  rw [rot_sum _ 29 (by decide), rot_sum _ 3 (by decide)]; omega
theorem rot_29_3 (v : Wd) : rot (rot v 29) 3 = v := by
  apply BitVec.eq_of_toNat_eq
  have := wd_lt v
  rw [rot_sum _ 3 (by decide), rot_sum _ 29 (by decide)]; omega
theorem rot_8_24 (v : Wd) : rot (rot v 8) 24 = v := by
  apply BitVec.eq_of_toNat_eq
  have := wd_lt v
  rw [rot_sum _ 24 (by decide), rot_sum _ 8 (by decide)]; omega
theorem rot_24_8 (v : Wd) : rot (rot v 24) 8 = v := by
  apply BitVec.eq_of_toNat_eq
  have := wd_lt v
  rw [rot_sum _ 8 (by decide), rot_sum _ 24 (by decide)]; omega
theorem xor_undo (a b : Wd) : (a ^^^ b) ^^^ b = a := by rw [BitVec.xor_assoc, BitVec.xor_self, BitVec.xor_zero]

/-! ### a block and what undoes it -/
def step (k : Wd) (p : Wd × Wd) : Wd × Wd := ((rot p.1 24 + p.2) ^^^ k, rot p.2 3 ^^^ ((rot p.1 24 + p.2) ^^^ k))
def unstep (k : Wd) (p : Wd × Wd) : Wd × Wd := (rot ((p.1 ^^^ k) - rot (p.2 ^^^ p.1) 29) 8, rot (p.2 ^^^ p.1) 29)
theorem unstep_step (k : Wd) (p : Wd × Wd) : unstep k (step k p) = p := by
  unfold unstep step
  simp only [xor_undo]
  rw [rot_3_29, BitVec.add_sub_cancel, rot_24_8]
theorem step_unstep (k : Wd) (p : Wd × Wd) : step k (unstep k p) = p := by
  have e : (rot (rot ((p.1 ^^^ k) - rot (p.2 ^^^ p.1) 29) 8) 24 + rot (p.2 ^^^ p.1) 29) ^^^ k = p.1 := by
    rw [rot_8_24, BitVec.sub_add_cancel, xor_undo]
  unfold step unstep
  simp only [e]
  rw [rot_29_3, xor_undo]
/-- the first n rounds -/
def turnN (K : Nat → Wd) : Nat → Wd × Wd → Wd × Wd
  | 0, p => p
  | n + 1, p => step (K n) (turnN K n p)
/-- what undoes them -/
def unN (K : Nat → Wd) : Nat → Wd × Wd → Wd × Wd
  | 0, p => p
  | n + 1, p => unN K n (unstep (K n) p)
theorem un_turn (K : Nat → Wd) : ∀ n p, unN K n (turnN K n p) = p
  | 0, _ => rfl
  | n + 1, p => by rw [turnN, unN, unstep_step, un_turn K n p]
theorem turn_un (K : Nat → Wd) : ∀ n p, turnN K n (unN K n p) = p
  | 0, _ => rfl
  | n + 1, p => by rw [unN, turnN, turn_un K n, step_unstep]
def blockK (K : Nat → Wd) (p : Wd × Wd) : Wd × Wd := turnN K 27 p
def backK (K : Nat → Wd) (p : Wd × Wd) : Wd × Wd := unN K 27 p
theorem back_block (K : Nat → Wd) (p) : backK K (blockK K p) = p := un_turn K 27 p
theorem block_back (K : Nat → Wd) (p) : blockK K (backK K p) = p := turn_un K 27 p

/-! ### the key's words -/
/-- four bytes, the lowest first -/
def le4 (a b c d : UInt8) : Wd := BitVec.ofNat 32 (a.toNat + b.toNat * 256 + c.toNat * 65536 + d.toNat * 16777216)
theorem le4_nat (a b c d : UInt8) : (le4 a b c d).toNat = a.toNat + b.toNat * 256 + c.toNat * 65536 + d.toNat * 16777216 := by
  have := a.toNat_lt; have := b.toNat_lt; have := c.toNat_lt; have := d.toNat_lt
  rw [le4, BitVec.toNat_ofNat]; omega
theorem le4_or (a b c d : UInt8) : bits .or .u32 (bits .or .u32 (bits .or .u32 (a.toNat : Int) ((b.toNat : Int) * 256 % 4294967296)) ((c.toNat : Int) * 65536 % 4294967296)) ((d.toNat : Int) * 16777216 % 4294967296) = ((le4 a b c d).toNat : Int) := by
  have ha := a.toNat_lt; have hb := b.toNat_lt; have hc := c.toNat_lt; have hd := d.toNat_lt
  have eb : (b.toNat : Int) * 256 % 4294967296 = ((b.toNat * 256 : Nat) : Int) := by omega
  have ec : (c.toNat : Int) * 65536 % 4294967296 = ((c.toNat * 65536 : Nat) : Int) := by omega
  have ed : (d.toNat : Int) * 16777216 % 4294967296 = ((d.toNat * 16777216 : Nat) : Int) := by omega
  have j1 : a.toNat ||| b.toNat * 256 = b.toNat * 256 + a.toNat := by rw [Nat.or_comm]; exact nat_join 8 _ _ (by omega) (by omega)
  have j2 : (b.toNat * 256 + a.toNat) ||| c.toNat * 65536 = c.toNat * 65536 + (b.toNat * 256 + a.toNat) := by rw [Nat.or_comm]; exact nat_join 16 _ _ (by omega) (by omega)
  have j3 : (c.toNat * 65536 + (b.toNat * 256 + a.toNat)) ||| d.toNat * 16777216 = d.toNat * 16777216 + (c.toNat * 65536 + (b.toNat * 256 + a.toNat)) := by rw [Nat.or_comm]; exact nat_join 24 _ _ (by omega) (by omega)
  rw [eb, ec, ed, u32_or_nat _ _ (by omega) (by omega), j1, u32_or_nat _ _ (by omega) (by omega), j2, u32_or_nat _ _ (by omega) (by omega), j3, le4_nat]
  omega
def kword (ks : Nat → UInt8) (i : Nat) : Wd := le4 (ks (4 * i)) (ks (4 * i + 1)) (ks (4 * i + 2)) (ks (4 * i + 3))
structure Sch where
  k : Wd
  a : Wd
  b : Wd
  c : Wd
def nextL (i : Nat) (s : Sch) : Wd := (s.k + rot s.a 24) ^^^ BitVec.ofNat 32 i
def sch (ks : Nat → UInt8) : Nat → Sch
  | 0 => ⟨kword ks 0, kword ks 1, kword ks 2, kword ks 3⟩
  | i + 1 => ⟨rot (sch ks i).k 3 ^^^ nextL i (sch ks i), (sch ks i).b, (sch ks i).c, nextL i (sch ks i)⟩
def kw (ks : Nat → UInt8) (i : Nat) : Wd := (sch ks i).k
def lw (ks : Nat → UInt8) (i : Nat) : Wd := (sch ks i).a
theorem lw_1 (ks : Nat → UInt8) (i : Nat) : lw ks (i + 1) = (sch ks i).b := rfl
theorem lw_2 (ks : Nat → UInt8) (i : Nat) : lw ks (i + 2) = (sch ks i).c := rfl
theorem lw_3 (ks : Nat → UInt8) (i : Nat) : lw ks (i + 3) = (kw ks i + rot (lw ks i) 24) ^^^ BitVec.ofNat 32 i := rfl
theorem kw_next (ks : Nat → UInt8) (i : Nat) : kw ks (i + 1) = rot (kw ks i) 3 ^^^ lw ks (i + 3) := rfl

/-! ### the stream -/
def blk64 (K : Nat → Wd) (up lo : Wd) (i : Nat) : Nat := (blockK K (up, lo + BitVec.ofNat 32 i)).1.toNat + 4294967296 * (blockK K (up, lo + BitVec.ofNat 32 i)).2.toNat
def sbyte (K : Nat → Wd) (up lo : Wd) (j : Nat) : UInt8 := UInt8.ofNat (blk64 K up lo (j / 8) / 256 ^ (j % 8))
def strm (K : Nat → Wd) (up lo : Wd) (n : Nat) : List UInt8 := (List.range n).map (sbyte K up lo)
theorem strm_length (K : Nat → Wd) (up lo : Wd) (n : Nat) : (strm K up lo n).length = n := by simp [strm]
theorem strm_take (K : Nat → Wd) (up lo : Wd) (n m : Nat) (h : n ≤ m) : (strm K up lo m).take n = strm K up lo n := by
  simp [strm, List.take_range, ← List.map_take, Nat.min_eq_left h]
end Go.Proofs.Ytcjibpjdfhhhkaa.Sp
