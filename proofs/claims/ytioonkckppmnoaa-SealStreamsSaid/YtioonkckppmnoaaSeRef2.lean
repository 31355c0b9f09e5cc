/-
  The document's own: a number's eight bytes, eight bytes as a number.
-/
import Derived.Test.YtioonkckppmnoaaSeRef
set_option linter.unusedVariables false
namespace Go.Proofs.Ytioonkckppmnoaa.Se
open Go.RowKit Go.Proofs.Ytioonkckppmnoaa.Mem

set_option maxRecDepth 100000 in
set_option maxHeartbeats 1600000 in
theorem dbig (N : Nat) (w : World) (hN : N < 18446744073709551616) :
    Calls Try.prog 28 #[.int .u64 (N : Int)] w fun e w' => ∃ v, e = .returned v ∧ w'.ownsRow w.heap.size 5 1 v 8 (bvs (w8 N)) ∧ Below w.heap.size w w' := by
  obtain ⟨ib, hi0, hz0, hs0, hb0⟩ := info_parts Si.u8_info
  obtain ⟨B, eB⟩ : ∃ B, B = w.heap.size := ⟨_, rfl⟩
  have EB := Lib.hid eB; clear eB
  have HN := Lib.hid hN; clear hN
  go_enter Try.func28, Try.ntmps28
  go_wp2_with fail
  go_loopw [3, 4] (fun bv_ iv wr => ∃ j : Nat, j ≤ 8 ∧ iv = .int .i64 (7 - (j : Int)) ∧ wr.ownsRow B 5 1 bv_ j (laid [] N j) ∧ Below B w wr) (fun _ iv _ => (intOf iv + 1).toNat)
  case atStart => exact ⟨0, by decide, rfl, ⟨rfl, .inl ⟨rfl, rfl⟩⟩, Below.refl _ _⟩
  case round =>
    obtain ⟨j, hj, rfl, hown, hbl⟩ := hrel
    have HR := Lib.hid hown; clear hown
    have HW := Lib.hid hbl; clear hbl
    by_cases hx : j = 8
    · subst hx
      go_wp2_with fail
      go_ret
      exact ⟨_, rfl, by have := HR.out; rw [laid_8, List.nil_append] at this; exact EB.out ▸ this, EB.out ▸ HW.out⟩
    · obtain ⟨k, ek⟩ : ∃ k : Nat, k = 7 - j := ⟨_, rfl⟩
      obtain ⟨m, em⟩ : ∃ m : Nat, m = 56 - 8 * j := ⟨_, rfl⟩
      have hk : (7 : Int) - (j : Int) = (k : Int) := by omega
      rw [hk]
      have hx3 : j < 8 := by omega
      have hm8 : (8 : Int) * (k : Int) = (m : Int) := by omega
      have hx4 : m < 64 := by omega
      have hx5 : (m : Int) < 64 := by omega
      have hx6 : (0 : Int) ≤ (m : Int) := by omega
      have hx7 : min m 64 = m := by omega
      have hx8 : (0 : Int) ≤ (k : Int) := by omega
      have hx9 : (k : Int) ≤ 7 := by omega
      have hnx := laid_next [] N j hx3
      have hv : bv (UInt8.ofNat (N / 2 ^ (56 - 8 * j))) = .int .u8 ((N : Int) / 2 ^ m % 256) := by
        unfold bv; rw [UInt8.toNat_ofNat', ← em]; congr 1
      rw [hv] at hnx
      have NX := Lib.hid hnx; clear hnx
      have EM := Lib.hid em; clear em
      have EK := Lib.hid ek; clear ek
      have HX := Lib.hid hx; clear hx
      have HJ := Lib.hid hj; clear hj
      have HX3 := Lib.hid hx3; clear hx3
      clear hk hv
      go_wp2_with (first | (at_builtin; refine wpList_append_rd _ (by rfl) (.tmp 9) (.tmp 16) 22 (by rfl) B 5 ib _ 1 Try.underlying22 hi0 hz0 hs0 hb0 (by rfl) _ j (laid [] N j) (by rfl) (own_push HR.out (by rfl)) (wr.heap.size + 1) (some ⟨wr.heap.size, 0, none⟩) 1 1 [.int .u8 ((N : Int) / 2 ^ m % 256)] (by rfl) (by rfl) (Si.rd_words wr 5 _ [.int .u8 ((N : Int) / 2 ^ m % 256)] (by rfl) _ rfl) (by simp [Value.oneCell']) (by have := HX3.out; unfold maxLen; omega) (by have := HX3.out; omega) (by have := EB.out; have := HW.out.size; simp; omega) ?_; intro v6 w6 hown6 hgrow6 hat6; have O6 := Lib.hid hown6; have G6 := Lib.hid hgrow6; clear hown6 hgrow6 hat6) | fail)
      go_roundw
      case rel =>
        refine ⟨j + 1, by have := HX3.out; omega, ?_, by rw [← NX.out]; exact O6.out, ?_⟩
        · exact congrArg (Value.int .i64) (by have := EK.out; have := HX3.out; omega)
        · exact (HW.out.alloc (by have := EB.out; have := HW.out.size; omega) _).grown G6.out (by have := EB.out; have := HW.out.size; simp; omega) (fun q hq => (HR.out.lt q hq).1)
      case measure => simp [intOf]

set_option maxRecDepth 100000 in
set_option maxHeartbeats 1600000 in
theorem dnumber (B : Nat) (A : Option Addr) (n c : Nat) (l : List UInt8) (w : World) (hn : n = l.length) (h8 : 8 ≤ n) (hr : Rd w B A (bvs l)) :
    Calls Try.prog 33 #[.slice A n c] w fun e w' => e = .returned (.int .u64 (n8 l : Int)) ∧ w' = w := by
  obtain ⟨b, o, rfl, hb, hcell⟩ : ∃ b o, A = some ⟨b, o, none⟩ ∧ b < B ∧ ∀ i (h : i < l.length), w.cell? ⟨b, o + i, none⟩ = some (bv l[i]) := by
    rcases hr with h | ⟨b, o, h1, h2, h3⟩
    · have := bvs_length l; rw [h] at this; simp at this; omega
    · exact ⟨b, o, h1, h2, fun i hi => h3 i _ (bvs_at hi)⟩
  have HC := Lib.hid hcell; clear hcell
  have hn8 : (8 : Int) ≤ (n : Int) := by omega
  have HN := Lib.hid hn; clear hn
  have H8 := Lib.hid h8; clear h8
  clear hr hb
  go_enter Try.func33, Try.ntmps33
  go_wp2_with fail
  go_loop [3, 4] (fun wv_ iv => ∃ i : Nat, i ≤ 8 ∧ iv = .int .i64 (i : Int) ∧ wv_ = .int .u64 (big 0 (l.take i) : Nat)) (fun _ iv => 8 - (intOf iv).toNat)
  case atStart => exact ⟨0, by decide, rfl, rfl⟩
  case round =>
    obtain ⟨i, hi, rfl, rfl⟩ := hrel
    by_cases hx : i = 8
    · subst hx
      go_wp2_with fail
      go_ret
      exact ⟨rfl, rfl⟩
    · have e1 : (i : Int) < 8 := by omega
      have e2 : (0 : Int) ≤ (i : Int) := by omega
      have e3 : i < 8 := by omega
      have hl : i < l.length := by have := HN.out; have := H8.out; omega
      have e4 : i < n := by have := H8.out; omega
      have e5 : (i : Int) < (n : Int) := by omega
      obtain ⟨y, ey⟩ : ∃ y, y = l[i] := ⟨_, rfl⟩
      have hcc := HC.out i hl
      rw [← ey] at hcc
      simp only [bv] at hcc
      have hy := y.toNat_lt
      obtain ⟨v, ev⟩ : ∃ v, v = big 0 (l.take i) := ⟨_, rfl⟩
      obtain ⟨u, eu⟩ : ∃ u, u = v * 256 + y.toNat := ⟨_, rfl⟩
      rw [← ev]
      have hv : v < 72057594037927936 := by
        have := big_take_lt l i
        rw [← ev] at this
        exact Nat.lt_of_lt_of_le this (Nat.pow_le_pow_right (by decide) (by omega) : 256 ^ i ≤ 256 ^ 7)
      have hw1 : (v : Int) * 256 % 18446744073709551616 = (v : Int) * 256 := by omega
      have hw2 : (y.toNat : Int) % 18446744073709551616 = (y.toNat : Int) := by omega
      have hw3 : IntKind.u64.wrap (y.toNat : Int) = (y.toNat : Int) := by rw [IntKind.wrap_u64]; exact hw2
      have hw4 : IntKind.u64.wrap ((v : Int) * 256) = (v : Int) * 256 := by rw [IntKind.wrap_u64]; exact hw1
      have hor : bits .or .u64 ((v : Int) * 256) (y.toNat : Int) = (u : Int) := by rw [eu]; exact or_byte v y.toNat hy hv
      have hnx : u = big 0 (l.take (i + 1)) := by rw [big_take l i hl, ← ey, ← ev, eu]
      have NX := Lib.hid hnx; clear hnx
      have HI := Lib.hid hi; clear hi
      have HX := Lib.hid hx; clear hx
      have HV := Lib.hid hv; clear hv
      clear eu ev ey
      go_wp2_with fail
      go_round
      case rel => exact ⟨i + 1, by omega, by go_num, by rw [← NX.out]⟩
      case measure => simp [intOf]; omega
end Go.Proofs.Ytioonkckppmnoaa.Se
