/-
  What the turning functions do, the code's and the document's, and bytes as a word: by their contracts over the plain mathematics.
-/
import Derived.Test.YtcjibpjdfhhhkaaProg
import Derived.Test.YtcjibpjdfhhhkaaSiPlain
set_option linter.unusedVariables false
namespace Go.Proofs.Ytcjibpjdfhhhkaa.Si
open Go.RowKit Go.Proofs.Ytcjibpjdfhhhkaa.Mem

theorem rotL13 (v : Wd) (w : World) : Calls Try.prog 79 #[wv v, .int .i64 13] w fun e w' => e = .returned (wv (rot v 13)) ∧ w' = w := by
  have hand : bits .and .u64 13 63 = 13 := by kernel_rfl
  have hr := or13 v
  rw [← IntKind.wrap_u64] at hr
  go_enter Try.func79, Try.ntmps79
  go_wp2
  go_ret
  exact ⟨rfl, rfl⟩
theorem rotL32 (v : Wd) (w : World) : Calls Try.prog 79 #[wv v, .int .i64 32] w fun e w' => e = .returned (wv (rot v 32)) ∧ w' = w := by
  have hand : bits .and .u64 32 63 = 32 := by kernel_rfl
  have hr := or32 v
  rw [← IntKind.wrap_u64] at hr
  go_enter Try.func79, Try.ntmps79
  go_wp2
  go_ret
  exact ⟨rfl, rfl⟩
theorem rotL16 (v : Wd) (w : World) : Calls Try.prog 79 #[wv v, .int .i64 16] w fun e w' => e = .returned (wv (rot v 16)) ∧ w' = w := by
  have hand : bits .and .u64 16 63 = 16 := by kernel_rfl
  have hr := or16 v
  rw [← IntKind.wrap_u64] at hr
  go_enter Try.func79, Try.ntmps79
  go_wp2
  go_ret
  exact ⟨rfl, rfl⟩
theorem rotL21 (v : Wd) (w : World) : Calls Try.prog 79 #[wv v, .int .i64 21] w fun e w' => e = .returned (wv (rot v 21)) ∧ w' = w := by
  have hand : bits .and .u64 21 63 = 21 := by kernel_rfl
  have hr := or21 v
  rw [← IntKind.wrap_u64] at hr
  go_enter Try.func79, Try.ntmps79
  go_wp2
  go_ret
  exact ⟨rfl, rfl⟩
theorem rotL17 (v : Wd) (w : World) : Calls Try.prog 79 #[wv v, .int .i64 17] w fun e w' => e = .returned (wv (rot v 17)) ∧ w' = w := by
  have hand : bits .and .u64 17 63 = 17 := by kernel_rfl
  have hr := or17 v
  rw [← IntKind.wrap_u64] at hr
  go_enter Try.func79, Try.ntmps79
  go_wp2
  go_ret
  exact ⟨rfl, rfl⟩
/-! ### bytes as a word -/
theorem or_next (M : Nat) (b : UInt8) (hM : M < 72057594037927936) : bits .or .u64 ((M : Int) * 256) (b.toNat : Int) = ((b.toNat + 256 * M : Nat) : Int) := by
  have hb := b.toNat_lt
  have e : (M : Int) * 256 = ((M * 256 : Nat) : Int) := by omega
  rw [e, u64_or_nat _ _ (by omega) (by omega)]
  have h := nat_join 8 (M * 256) b.toNat (by omega) (by omega)
  rw [h]; omega
/-- eight bytes as a value -/
def key8 (f : Nat → UInt8) : Array Value := #[.int .u8 (f 0).toNat, .int .u8 (f 1).toNat, .int .u8 (f 2).toNat, .int .u8 (f 3).toNat, .int .u8 (f 4).toNat, .int .u8 (f 5).toNat, .int .u8 (f 6).toNat, .int .u8 (f 7).toNat]
def wordF (f : Nat → UInt8) (i : Nat) : Nat := wordN ((List.range i).map f)
theorem wordF_next (f : Nat → UInt8) (i : Nat) : wordF f (i + 1) = wordF f i + (f i).toNat * 256 ^ i := by
  unfold wordF
  rw [List.range_succ, List.map_append, List.map_singleton, wordN_snoc]; simp
theorem wordF_lt (f : Nat → UInt8) (i : Nat) : wordF f i < 256 ^ i := by
  have := wordN_lt ((List.range i).map f)
  simpa [wordF] using this
theorem or_at (f : Nat → UInt8) (i : Nat) (K : Int) (hi : i ≤ 7) (hK : K = ((256 ^ i : Nat) : Int)) : bits .or .u64 (wordF f i : Nat) (IntKind.u64.wrap (((f i).toNat : Int) * K)) = (wordF f (i + 1) : Nat) := by
  rw [wordF_next]
  refine or_place _ _ i hi (wordF_lt f i) _ ?_
  have h1 := pow_8 i hi
  have h2 := (f i).toNat_lt
  have h3 : (f i).toNat * 256 ^ i ≤ 255 * 72057594037927936 := Nat.mul_le_mul (by omega) h1
  rw [hK, IntKind.wrap_u64, ← Int.natCast_mul]
  omega
set_option maxHeartbeats 1600000 in
theorem word_any (f : Nat → UInt8) (w : World) :
    Calls Try.prog 67 #[.agg (key8 f)] w fun e w' => e = .returned (wv (wd (wordF f 8))) ∧ Below w.heap.size w w' := by
  unfold key8
  go_enter Try.func67, Try.ntmps67
  go_wp2_with fail
  go_loop [3, 7] (fun mv iv => ∃ j : Nat, j ≤ 8 ∧ iv = .int .i64 (j : Int) ∧ mv = .int .u64 (wordF f j : Nat)) (fun _ iv => 8 - (intOf iv).toNat)
  case atStart => exact ⟨0, by decide, rfl, rfl⟩
  case round =>
    obtain ⟨j, hj, rfl, rfl⟩ := hrel
    obtain ⟨M, eM⟩ : ∃ M, M = wordF f j := ⟨_, rfl⟩
    obtain ⟨M2, eM2⟩ : ∃ M, M = wordF f (j + 1) := ⟨_, rfl⟩
    have hx : ∀ K : Int, j ≤ 7 → K = ((256 ^ j : Nat) : Int) → bits .or .u64 (M : Int) (IntKind.u64.wrap (((f j).toNat : Int) * K)) = (M2 : Int) := fun K h1 h2 => by rw [eM, eM2]; exact or_at f j K h1 h2
    rw [← eM]
    have EM := Lib.hid eM; clear eM
    have EM2 := Lib.hid eM2; clear eM2
    have hs : j = 0 ∨ j = 1 ∨ j = 2 ∨ j = 3 ∨ j = 4 ∨ j = 5 ∨ j = 6 ∨ j = 7 ∨ j = 8 := by omega
    clear hj
    rcases hs with rfl | rfl | rfl | rfl | rfl | rfl | rfl | rfl | rfl
    · have hx := hx 1 (by decide) (by decide)
      have hy : IntKind.u64.wrap ((f 0).toNat : Int) = ((f 0).toNat : Int) := by rw [IntKind.wrap_u64]; have := (f 0).toNat_lt; omega
      rw [Int.mul_one, hy] at hx
      have hi : ∀ w : World, (Instr.index 129 (.agg #[.int .u8 (f 0).toNat, .int .u8 (f 1).toNat, .int .u8 (f 2).toNat, .int .u8 (f 3).toNat, .int .u8 (f 4).toNat, .int .u8 (f 5).toNat, .int .u8 (f 6).toNat, .int .u8 (f 7).toNat]) (.int .i64 0)).run Try.prog w = .ok (.int .u8 (f 0).toNat) w := fun _ => by kernel_rfl
      go_wp2_with fail
      go_round
      case rel => exact ⟨1, by decide, by go_num, by rw [EM2.out]⟩
      case measure => simp [intOf]
    · have hx := hx 256 (by decide) (by decide)
      have hy : IntKind.u64.wrap ((f 1).toNat : Int) = ((f 1).toNat : Int) := by rw [IntKind.wrap_u64]; have := (f 1).toNat_lt; omega
      have hi : ∀ w : World, (Instr.index 129 (.agg #[.int .u8 (f 0).toNat, .int .u8 (f 1).toNat, .int .u8 (f 2).toNat, .int .u8 (f 3).toNat, .int .u8 (f 4).toNat, .int .u8 (f 5).toNat, .int .u8 (f 6).toNat, .int .u8 (f 7).toNat]) (.int .i64 1)).run Try.prog w = .ok (.int .u8 (f 1).toNat) w := fun _ => by kernel_rfl
      go_wp2_with fail
      go_round
      case rel => exact ⟨2, by decide, by go_num, by rw [EM2.out]⟩
      case measure => simp [intOf]
    · have hx := hx 65536 (by decide) (by decide)
      have hy : IntKind.u64.wrap ((f 2).toNat : Int) = ((f 2).toNat : Int) := by rw [IntKind.wrap_u64]; have := (f 2).toNat_lt; omega
      have hi : ∀ w : World, (Instr.index 129 (.agg #[.int .u8 (f 0).toNat, .int .u8 (f 1).toNat, .int .u8 (f 2).toNat, .int .u8 (f 3).toNat, .int .u8 (f 4).toNat, .int .u8 (f 5).toNat, .int .u8 (f 6).toNat, .int .u8 (f 7).toNat]) (.int .i64 2)).run Try.prog w = .ok (.int .u8 (f 2).toNat) w := fun _ => by kernel_rfl
      go_wp2_with fail
      go_round
      case rel => exact ⟨3, by decide, by go_num, by rw [EM2.out]⟩
      case measure => simp [intOf]
    · have hx := hx 16777216 (by decide) (by decide)
      have hy : IntKind.u64.wrap ((f 3).toNat : Int) = ((f 3).toNat : Int) := by rw [IntKind.wrap_u64]; have := (f 3).toNat_lt; omega
      have hi : ∀ w : World, (Instr.index 129 (.agg #[.int .u8 (f 0).toNat, .int .u8 (f 1).toNat, .int .u8 (f 2).toNat, .int .u8 (f 3).toNat, .int .u8 (f 4).toNat, .int .u8 (f 5).toNat, .int .u8 (f 6).toNat, .int .u8 (f 7).toNat]) (.int .i64 3)).run Try.prog w = .ok (.int .u8 (f 3).toNat) w := fun _ => by kernel_rfl
      go_wp2_with fail
      go_round
      case rel => exact ⟨4, by decide, by go_num, by rw [EM2.out]⟩
      case measure => simp [intOf]
    · have hx := hx 4294967296 (by decide) (by decide)
      have hy : IntKind.u64.wrap ((f 4).toNat : Int) = ((f 4).toNat : Int) := by rw [IntKind.wrap_u64]; have := (f 4).toNat_lt; omega
      have hi : ∀ w : World, (Instr.index 129 (.agg #[.int .u8 (f 0).toNat, .int .u8 (f 1).toNat, .int .u8 (f 2).toNat, .int .u8 (f 3).toNat, .int .u8 (f 4).toNat, .int .u8 (f 5).toNat, .int .u8 (f 6).toNat, .int .u8 (f 7).toNat]) (.int .i64 4)).run Try.prog w = .ok (.int .u8 (f 4).toNat) w := fun _ => by kernel_rfl
      go_wp2_with fail
      go_round
      case rel => exact ⟨5, by decide, by go_num, by rw [EM2.out]⟩
      case measure => simp [intOf]
    · have hx := hx 1099511627776 (by decide) (by decide)
      have hy : IntKind.u64.wrap ((f 5).toNat : Int) = ((f 5).toNat : Int) := by rw [IntKind.wrap_u64]; have := (f 5).toNat_lt; omega
      have hi : ∀ w : World, (Instr.index 129 (.agg #[.int .u8 (f 0).toNat, .int .u8 (f 1).toNat, .int .u8 (f 2).toNat, .int .u8 (f 3).toNat, .int .u8 (f 4).toNat, .int .u8 (f 5).toNat, .int .u8 (f 6).toNat, .int .u8 (f 7).toNat]) (.int .i64 5)).run Try.prog w = .ok (.int .u8 (f 5).toNat) w := fun _ => by kernel_rfl
      go_wp2_with fail
      go_round
      case rel => exact ⟨6, by decide, by go_num, by rw [EM2.out]⟩
      case measure => simp [intOf]
    · have hx := hx 281474976710656 (by decide) (by decide)
      have hy : IntKind.u64.wrap ((f 6).toNat : Int) = ((f 6).toNat : Int) := by rw [IntKind.wrap_u64]; have := (f 6).toNat_lt; omega
      have hi : ∀ w : World, (Instr.index 129 (.agg #[.int .u8 (f 0).toNat, .int .u8 (f 1).toNat, .int .u8 (f 2).toNat, .int .u8 (f 3).toNat, .int .u8 (f 4).toNat, .int .u8 (f 5).toNat, .int .u8 (f 6).toNat, .int .u8 (f 7).toNat]) (.int .i64 6)).run Try.prog w = .ok (.int .u8 (f 6).toNat) w := fun _ => by kernel_rfl
      go_wp2_with fail
      go_round
      case rel => exact ⟨7, by decide, by go_num, by rw [EM2.out]⟩
      case measure => simp [intOf]
    · have hx := hx 72057594037927936 (by decide) (by decide)
      have hy : IntKind.u64.wrap ((f 7).toNat : Int) = ((f 7).toNat : Int) := by rw [IntKind.wrap_u64]; have := (f 7).toNat_lt; omega
      have hi : ∀ w : World, (Instr.index 129 (.agg #[.int .u8 (f 0).toNat, .int .u8 (f 1).toNat, .int .u8 (f 2).toNat, .int .u8 (f 3).toNat, .int .u8 (f 4).toNat, .int .u8 (f 5).toNat, .int .u8 (f 6).toNat, .int .u8 (f 7).toNat]) (.int .i64 7)).run Try.prog w = .ok (.int .u8 (f 7).toNat) w := fun _ => by kernel_rfl
      go_wp2_with fail
      go_round
      case rel => exact ⟨8, by decide, by go_num, by rw [EM2.out]⟩
      case measure => simp [intOf]
    · have hx := wd_nat (wordF f 8) (wordN_8 (by simp))
      have hz : M = (wd (wordF f 8)).toNat := by rw [hx]; exact EM.out
      have HZ := Lib.hid hz; clear hz
      clear hx
      go_wp2_with fail
      go_ret
      exact ⟨by rw [wv, ← HZ.out]; rfl, (Below.refl w.heap.size w).alloc (Nat.le_refl _) _⟩
end Go.Proofs.Ytcjibpjdfhhhkaa.Si
