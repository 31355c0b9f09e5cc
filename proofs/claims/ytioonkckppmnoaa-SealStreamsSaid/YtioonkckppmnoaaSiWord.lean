/-
  What the turning functions do, the code's and the document's, and bytes as a word: by their contracts over the plain mathematics.
-/
import Derived.Test.YtioonkckppmnoaaProg
import Derived.Test.YtioonkckppmnoaaSiPlain
set_option linter.unusedVariables false
namespace Go.Proofs.Ytioonkckppmnoaa.Si
open Go.RowKit Go.Proofs.Ytioonkckppmnoaa.Mem

theorem rotL13 (v : Wd) (w : World) : Calls Try.prog 72 #[wv v, .int .i64 13] w fun e w' => e = .returned (wv (rot v 13)) ∧ w' = w := by
  have hand : bits .and .u64 13 63 = 13 := by kernel_rfl
  have hr := or13 v
  rw [← IntKind.wrap_u64] at hr
  go_enter Try.func72, Try.ntmps72
  go_wp2
  go_ret
  exact ⟨rfl, rfl⟩
theorem rotL32 (v : Wd) (w : World) : Calls Try.prog 72 #[wv v, .int .i64 32] w fun e w' => e = .returned (wv (rot v 32)) ∧ w' = w := by
  have hand : bits .and .u64 32 63 = 32 := by kernel_rfl
  have hr := or32 v
  rw [← IntKind.wrap_u64] at hr
  go_enter Try.func72, Try.ntmps72
  go_wp2
  go_ret
  exact ⟨rfl, rfl⟩
theorem rotL16 (v : Wd) (w : World) : Calls Try.prog 72 #[wv v, .int .i64 16] w fun e w' => e = .returned (wv (rot v 16)) ∧ w' = w := by
  have hand : bits .and .u64 16 63 = 16 := by kernel_rfl
  have hr := or16 v
  rw [← IntKind.wrap_u64] at hr
  go_enter Try.func72, Try.ntmps72
  go_wp2
  go_ret
  exact ⟨rfl, rfl⟩
theorem rotL21 (v : Wd) (w : World) : Calls Try.prog 72 #[wv v, .int .i64 21] w fun e w' => e = .returned (wv (rot v 21)) ∧ w' = w := by
  have hand : bits .and .u64 21 63 = 21 := by kernel_rfl
  have hr := or21 v
  rw [← IntKind.wrap_u64] at hr
  go_enter Try.func72, Try.ntmps72
  go_wp2
  go_ret
  exact ⟨rfl, rfl⟩
theorem rotL17 (v : Wd) (w : World) : Calls Try.prog 72 #[wv v, .int .i64 17] w fun e w' => e = .returned (wv (rot v 17)) ∧ w' = w := by
  have hand : bits .and .u64 17 63 = 17 := by kernel_rfl
  have hr := or17 v
  rw [← IntKind.wrap_u64] at hr
  go_enter Try.func72, Try.ntmps72
  go_wp2
  go_ret
  exact ⟨rfl, rfl⟩
theorem dleft13 (v : Wd) (w : World) : Calls Try.prog 65 #[wv v, .int .u64 13] w fun e w' => e = .returned (wv (rot v 13)) ∧ w' = w := by
  have hr := or13 v
  rw [← IntKind.wrap_u64] at hr
  go_enter Try.func65, Try.ntmps65
  go_wp2
  go_ret
  exact ⟨rfl, rfl⟩
theorem dleft32 (v : Wd) (w : World) : Calls Try.prog 65 #[wv v, .int .u64 32] w fun e w' => e = .returned (wv (rot v 32)) ∧ w' = w := by
  have hr := or32 v
  rw [← IntKind.wrap_u64] at hr
  go_enter Try.func65, Try.ntmps65
  go_wp2
  go_ret
  exact ⟨rfl, rfl⟩
theorem dleft16 (v : Wd) (w : World) : Calls Try.prog 65 #[wv v, .int .u64 16] w fun e w' => e = .returned (wv (rot v 16)) ∧ w' = w := by
  have hr := or16 v
  rw [← IntKind.wrap_u64] at hr
  go_enter Try.func65, Try.ntmps65
  go_wp2
  go_ret
  exact ⟨rfl, rfl⟩
theorem dleft21 (v : Wd) (w : World) : Calls Try.prog 65 #[wv v, .int .u64 21] w fun e w' => e = .returned (wv (rot v 21)) ∧ w' = w := by
  have hr := or21 v
  rw [← IntKind.wrap_u64] at hr
  go_enter Try.func65, Try.ntmps65
  go_wp2
  go_ret
  exact ⟨rfl, rfl⟩
theorem dleft17 (v : Wd) (w : World) : Calls Try.prog 65 #[wv v, .int .u64 17] w fun e w' => e = .returned (wv (rot v 17)) ∧ w' = w := by
  have hr := or17 v
  rw [← IntKind.wrap_u64] at hr
  go_enter Try.func65, Try.ntmps65
  go_wp2
  go_ret
  exact ⟨rfl, rfl⟩

/-! ### bytes as a word -/
theorem or_next (M : Nat) (b : UInt8) (hM : M < 72057594037927936) : bits .or .u64 ((M : Int) * 256) (b.toNat : Int) = ((b.toNat + 256 * M : Nat) : Int) := by
  have hb := b.toNat_lt
  have e : (M : Int) * 256 = ((M * 256 : Nat) : Int) := by omega
  rw [e, u64_or_nat _ _ (by omega) (by omega)]
  have h := nat_join 8 (M * 256) b.toNat (by omega) (by omega)
  rw [h]; omega
set_option maxHeartbeats 1600000 in
theorem dword (A : Option Addr) (n c : Nat) (l : List UInt8) (w : World) (B : Nat) (hn : n = l.length) (h8 : n ≤ 8) (hr : Rd w B A (bvs l)) :
    Calls Try.prog 53 #[.slice A n c] w fun e w' => e = .returned (wv (wd (wordN l))) ∧ w' = w := by
  have HR := Lib.hid hr; clear hr
  have HN := Lib.hid hn; clear hn
  have H8 := Lib.hid h8; clear h8
  have e8 : (n : Int) ≤ 8 := by have := H8.out; omega
  go_enter Try.func53, Try.ntmps53
  go_wp2_with fail
  go_loop [3, 4] (fun mv iv => ∃ j : Nat, j ≤ n ∧ iv = .int .i64 ((j : Int) - 1) ∧ mv = .int .u64 (wordN (l.drop j) : Nat)) (fun _ iv => (intOf iv + 1).toNat)
  case atStart => exact ⟨n, Nat.le_refl _, by go_num, by rw [List.drop_of_length_le (by have := HN.out; omega)]; rfl⟩
  case round =>
    obtain ⟨j, hj, rfl, rfl⟩ := hrel
    cases j with
    | zero =>
      have e : (wordN l : Int) = ((wd (wordN l)).toNat : Int) := by rw [wd_nat _ (wordN_8 (by have := HN.out; have := H8.out; omega))]
      rw [List.drop_zero]
      obtain ⟨x, ex⟩ : ∃ x, x = wordN l := ⟨_, rfl⟩
      rw [← ex] at e ⊢
      have E := Lib.hid e; clear e
      have EX := Lib.hid ex; clear ex
      go_wp2_with fail
      go_ret
      exact ⟨by rw [wv, ← EX.out]; simp [E.out], rfl⟩
    | succ j =>
      have hc : ((j + 1 : Nat) : Int) - 1 = (j : Int) := by omega
      rw [hc]
      have hlt : j < l.length := by have := HN.out; omega
      have hr := HR.out
      obtain ⟨b, o, rfl, hbB, hcell0⟩ := hr.at_ (bvs_at hlt)
      have hcell : w.cell? ⟨b, o + j, none⟩ = some (.int .u8 ((l[j]).toNat : Int)) := hcell0
      clear hcell0
      obtain ⟨y, ey⟩ : ∃ y, y = l[j] := ⟨_, rfl⟩
      rw [← ey] at hcell
      obtain ⟨M, eM⟩ : ∃ M, M = wordN (l.drop (j + 1)) := ⟨_, rfl⟩
      rw [← eM]
      have hM : M < 72057594037927936 := by rw [eM]; exact wordN_7 (by rw [List.length_drop]; have := HN.out; have := H8.out; omega)
      have e2 : y.toNat + 256 * M = wordN (l.drop j) := by rw [eM, ey, List.drop_eq_getElem_cons hlt, wordN]
      have hx := or_next M y hM
      rw [e2] at hx
      obtain ⟨M2, eM2⟩ : ∃ M, M = wordN (l.drop j) := ⟨_, rfl⟩
      rw [← eM2] at hx
      have EM2 := Lib.hid eM2
      have e3 : (0 : Int) ≤ (j : Int) := by omega
      have e4 : (j : Int) < (n : Int) := by omega
      have e5 : j < n := by omega
      have e7 : (j : Int) < 8 := by omega
      have hy : IntKind.u64.wrap (y.toNat : Int) = (y.toNat : Int) := by rw [IntKind.wrap_u64]; have := y.toNat_lt; omega
      have HJ := Lib.hid hj
      have HLT := Lib.hid hlt
      clear hj hlt hr eM e2 ey eM2
      go_wp2_with fail
      go_round
      case rel => exact ⟨j, by omega, by go_num, by rw [EM2.out]⟩
      case measure => simp [intOf]
/-- eight bytes as a value -/
def key8 (f : Nat → UInt8) : Array Value := #[.int .u8 (f 0).toNat, .int .u8 (f 1).toNat, .int .u8 (f 2).toNat, .int .u8 (f 3).toNat, .int .u8 (f 4).toNat, .int .u8 (f 5).toNat, .int .u8 (f 6).toNat, .int .u8 (f 7).toNat]
def wordF (f : Nat → UInt8) (i : Nat) : Nat := wordN ((List.range i).map f)
theorem wordF_next (f : Nat → UInt8) (i : Nat) : wordF f (i + 1) = wordF f i + (f i).toNat * 256 ^ i := by
  unfold wordF
  rw [List.range_succ, List.map_append, List.map_singleton, wordN_snoc]; simp
theorem wordF_lt (f : Nat → UInt8) (i : Nat) : wordF f i < 256 ^ i := by
  have := wordN_lt ((List.range i).map f)
  simpa [wordF] using this
theorem or_at (f : Nat → UInt8) (i : Nat) (K : Int) (hi : i ≤ 7) (hK : K = ((256 ^ i : Nat) : Int)) : bits .or .u64 (wordF f i : Nat) (IntKind.u64.wrap (((f i).toNat : Int) * K)) = (wordF f (i + 1) : Nat) := by
  rw [wordF_next]
  refine or_place _ _ i hi (wordF_lt f i) _ ?_
  have h1 := pow_8 i hi
  have h2 := (f i).toNat_lt
  have h3 : (f i).toNat * 256 ^ i ≤ 255 * 72057594037927936 := Nat.mul_le_mul (by omega) h1
  rw [hK, IntKind.wrap_u64, ← Int.natCast_mul]
  omega
set_option maxHeartbeats 1600000 in
theorem word_any (f : Nat → UInt8) (w : World) :
    Calls Try.prog 62 #[.agg (key8 f)] w fun e w' => e = .returned (wv (wd (wordF f 8))) ∧ Below w.heap.size w w' := by
  unfold key8
  go_enter Try.func62, Try.ntmps62
  go_wp2_with fail
  go_loop [3, 7] (fun mv iv => ∃ j : Nat, j ≤ 8 ∧ iv = .int .i64 (j : Int) ∧ mv = .int .u64 (wordF f j : Nat)) (fun _ iv => 8 - (intOf iv).toNat)
  case atStart => exact ⟨0, by decide, rfl, rfl⟩
  case round =>
    obtain ⟨j, hj, rfl, rfl⟩ := hrel
    obtain ⟨M, eM⟩ : ∃ M, M = wordF f j := ⟨_, rfl⟩
    obtain ⟨M2, eM2⟩ : ∃ M, M = wordF f (j + 1) := ⟨_, rfl⟩
    have hx : ∀ K : Int, j ≤ 7 → K = ((256 ^ j : Nat) : Int) → bits .or .u64 (M : Int) (IntKind.u64.wrap (((f j).toNat : Int) * K)) = (M2 : Int) := fun K h1 h2 => by rw [eM, eM2]; exact or_at f j K h1 h2
    rw [← eM]
    have EM := Lib.hid eM; clear eM
    have EM2 := Lib.hid eM2; clear eM2
    have hs : j = 0 ∨ j = 1 ∨ j = 2 ∨ j = 3 ∨ j = 4 ∨ j = 5 ∨ j = 6 ∨ j = 7 ∨ j = 8 := by omega
    clear hj
    rcases hs with rfl | rfl | rfl | rfl | rfl | rfl | rfl | rfl | rfl
    · have hx := hx 1 (by decide) (by decide)
      have hy : IntKind.u64.wrap ((f 0).toNat : Int) = ((f 0).toNat : Int) := by rw [IntKind.wrap_u64]; have := (f 0).toNat_lt; omega
      rw [Int.mul_one, hy] at hx
      have hi : ∀ w : World, (Instr.index 117 (.agg #[.int .u8 (f 0).toNat, .int .u8 (f 1).toNat, .int .u8 (f 2).toNat, .int .u8 (f 3).toNat, .int .u8 (f 4).toNat, .int .u8 (f 5).toNat, .int .u8 (f 6).toNat, .int .u8 (f 7).toNat]) (.int .i64 0)).run Try.prog w = .ok (.int .u8 (f 0).toNat) w := fun _ => by kernel_rfl
      go_wp2_with fail
      go_round
      case rel => exact ⟨1, by decide, by go_num, by rw [EM2.out]⟩
      case measure => simp [intOf]
    · have hx := hx 256 (by decide) (by decide)
      have hy : IntKind.u64.wrap ((f 1).toNat : Int) = ((f 1).toNat : Int) := by rw [IntKind.wrap_u64]; have := (f 1).toNat_lt; omega
      have hi : ∀ w : World, (Instr.index 117 (.agg #[.int .u8 (f 0).toNat, .int .u8 (f 1).toNat, .int .u8 (f 2).toNat, .int .u8 (f 3).toNat, .int .u8 (f 4).toNat, .int .u8 (f 5).toNat, .int .u8 (f 6).toNat, .int .u8 (f 7).toNat]) (.int .i64 1)).run Try.prog w = .ok (.int .u8 (f 1).toNat) w := fun _ => by kernel_rfl
      go_wp2_with fail
      go_round
      case rel => exact ⟨2, by decide, by go_num, by rw [EM2.out]⟩
      case measure => simp [intOf]
    · have hx := hx 65536 (by decide) (by decide)
      have hy : IntKind.u64.wrap ((f 2).toNat : Int) = ((f 2).toNat : Int) := by rw [IntKind.wrap_u64]; have := (f 2).toNat_lt; omega
      have hi : ∀ w : World, (Instr.index 117 (.agg #[.int .u8 (f 0).toNat, .int .u8 (f 1).toNat, .int .u8 (f 2).toNat, .int .u8 (f 3).toNat, .int .u8 (f 4).toNat, .int .u8 (f 5).toNat, .int .u8 (f 6).toNat, .int .u8 (f 7).toNat]) (.int .i64 2)).run Try.prog w = .ok (.int .u8 (f 2).toNat) w := fun _ => by kernel_rfl
      go_wp2_with fail
      go_round
      case rel => exact ⟨3, by decide, by go_num, by rw [EM2.out]⟩
      case measure => simp [intOf]
    · have hx := hx 16777216 (by decide) (by decide)
      have hy : IntKind.u64.wrap ((f 3).toNat : Int) = ((f 3).toNat : Int) := by rw [IntKind.wrap_u64]; have := (f 3).toNat_lt; omega
      have hi : ∀ w : World, (Instr.index 117 (.agg #[.int .u8 (f 0).toNat, .int .u8 (f 1).toNat, .int .u8 (f 2).toNat, .int .u8 (f 3).toNat, .int .u8 (f 4).toNat, .int .u8 (f 5).toNat, .int .u8 (f 6).toNat, .int .u8 (f 7).toNat]) (.int .i64 3)).run Try.prog w = .ok (.int .u8 (f 3).toNat) w := fun _ => by kernel_rfl
      go_wp2_with fail
      go_round
      case rel => exact ⟨4, by decide, by go_num, by rw [EM2.out]⟩
      case measure => simp [intOf]
    · have hx := hx 4294967296 (by decide) (by decide)
      have hy : IntKind.u64.wrap ((f 4).toNat : Int) = ((f 4).toNat : Int) := by rw [IntKind.wrap_u64]; have := (f 4).toNat_lt; omega
      have hi : ∀ w : World, (Instr.index 117 (.agg #[.int .u8 (f 0).toNat, .int .u8 (f 1).toNat, .int .u8 (f 2).toNat, .int .u8 (f 3).toNat, .int .u8 (f 4).toNat, .int .u8 (f 5).toNat, .int .u8 (f 6).toNat, .int .u8 (f 7).toNat]) (.int .i64 4)).run Try.prog w = .ok (.int .u8 (f 4).toNat) w := fun _ => by kernel_rfl
      go_wp2_with fail
      go_round
      case rel => exact ⟨5, by decide, by go_num, by rw [EM2.out]⟩
      case measure => simp [intOf]
    · have hx := hx 1099511627776 (by decide) (by decide)
      have hy : IntKind.u64.wrap ((f 5).toNat : Int) = ((f 5).toNat : Int) := by rw [IntKind.wrap_u64]; have := (f 5).toNat_lt; omega
      have hi : ∀ w : World, (Instr.index 117 (.agg #[.int .u8 (f 0).toNat, .int .u8 (f 1).toNat, .int .u8 (f 2).toNat, .int .u8 (f 3).toNat, .int .u8 (f 4).toNat, .int .u8 (f 5).toNat, .int .u8 (f 6).toNat, .int .u8 (f 7).toNat]) (.int .i64 5)).run Try.prog w = .ok (.int .u8 (f 5).toNat) w := fun _ => by kernel_rfl
      go_wp2_with fail
      go_round
      case rel => exact ⟨6, by decide, by go_num, by rw [EM2.out]⟩
      case measure => simp [intOf]
    · have hx := hx 281474976710656 (by decide) (by decide)
      have hy : IntKind.u64.wrap ((f 6).toNat : Int) = ((f 6).toNat : Int) := by rw [IntKind.wrap_u64]; have := (f 6).toNat_lt; omega
      have hi : ∀ w : World, (Instr.index 117 (.agg #[.int .u8 (f 0).toNat, .int .u8 (f 1).toNat, .int .u8 (f 2).toNat, .int .u8 (f 3).toNat, .int .u8 (f 4).toNat, .int .u8 (f 5).toNat, .int .u8 (f 6).toNat, .int .u8 (f 7).toNat]) (.int .i64 6)).run Try.prog w = .ok (.int .u8 (f 6).toNat) w := fun _ => by kernel_rfl
      go_wp2_with fail
      go_round
      case rel => exact ⟨7, by decide, by go_num, by rw [EM2.out]⟩
      case measure => simp [intOf]
    · have hx := hx 72057594037927936 (by decide) (by decide)
      have hy : IntKind.u64.wrap ((f 7).toNat : Int) = ((f 7).toNat : Int) := by rw [IntKind.wrap_u64]; have := (f 7).toNat_lt; omega
      have hi : ∀ w : World, (Instr.index 117 (.agg #[.int .u8 (f 0).toNat, .int .u8 (f 1).toNat, .int .u8 (f 2).toNat, .int .u8 (f 3).toNat, .int .u8 (f 4).toNat, .int .u8 (f 5).toNat, .int .u8 (f 6).toNat, .int .u8 (f 7).toNat]) (.int .i64 7)).run Try.prog w = .ok (.int .u8 (f 7).toNat) w := fun _ => by kernel_rfl
      go_wp2_with fail
      go_round
      case rel => exact ⟨8, by decide, by go_num, by rw [EM2.out]⟩
      case measure => simp [intOf]
    · have hx := wd_nat (wordF f 8) (wordN_8 (by simp))
      have hz : M = (wd (wordF f 8)).toNat := by rw [hx]; exact EM.out
      have HZ := Lib.hid hz; clear hz
      clear hx
      go_wp2_with fail
      go_ret
      exact ⟨by rw [wv, ← HZ.out]; rfl, (Below.refl w.heap.size w).alloc (Nat.le_refl _) _⟩
end Go.Proofs.Ytioonkckppmnoaa.Si
