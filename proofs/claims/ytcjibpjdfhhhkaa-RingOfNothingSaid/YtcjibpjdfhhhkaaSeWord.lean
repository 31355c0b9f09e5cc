/-
  What fits; eight bytes as a number; a number's eight bytes laid behind others.
-/
import Derived.Test.YtcjibpjdfhhhkaaSeNeed
set_option linter.unusedVariables false
namespace Go.Proofs.Ytcjibpjdfhhhkaa.Se
open Go.RowKit Go.Proofs.Ytcjibpjdfhhhkaa.Mem

theorem fit_usage (u : Int) (x : Bool) (hx : x = (decide (0 ≤ u) && decide (u ≤ 255))) (w : World) : Calls Try.prog 23 #[.int .i64 u] w fun e w' => e = .returned (.bool x) ∧ w' = w := by
  subst hx
  by_cases h : 0 ≤ u
  · go_enter Try.func23, Try.ntmps23
    go_wp2
    go_ret
    exact ⟨by simp [h], rfl⟩
  · have h2 : decide (0 ≤ u) = false := by simpa using h
    go_enter Try.func23, Try.ntmps23
    go_wp2
    go_ret
    exact ⟨by simp, rfl⟩
theorem fit_nonce (n : Nat) (x : Bool) (hx : x = decide (n ≤ 1099511627776)) (w : World) : Calls Try.prog 24 #[.int .u64 (n : Int)] w fun e w' => e = .returned (.bool x) ∧ w' = w := by
  subst hx
  have e : decide ((n : Int) ≤ 1099511627776) = decide (n ≤ 1099511627776) := by congr 1; exact propext ⟨by omega, by omega⟩
  have E := Lib.hid e; clear e
  go_enter Try.func24, Try.ntmps24
  go_wp2
  go_ret
  exact ⟨by rw [← E.out]; rfl, rfl⟩

theorem or_byte (x y : Nat) (hy : y < 256) (hx : x < 72057594037927936) : bits .or .u64 ((x : Int) * 256) (y : Int) = ((x * 256 + y : Nat) : Int) := by
  have e : (x : Int) * 256 = ((x * 256 : Nat) : Int) := by omega
  have h : x * 256 ||| y = x * 256 + y := by
    have h := Nat.shiftLeft_add_eq_or_of_lt (show y < 2 ^ 8 by omega) x
    rw [Nat.shiftLeft_eq] at h
    simpa using h.symm
  rw [e, u64_or_nat _ _ (by omega) (by omega), h]
set_option maxRecDepth 100000 in
set_option maxHeartbeats 1600000 in
theorem word_any (B : Nat) (A : Option Addr) (n c : Nat) (l : List UInt8) (w : World) (hn : n = l.length) (h8 : 8 ≤ n) (hc : n ≤ c) (hr : Rd w B A (bvs l)) :
    Calls Try.prog 30 #[.slice A n c] w fun e w' => e = .returned (.int .u64 (n8 l : Int)) ∧ w' = w := by
  obtain ⟨b, o, rfl, hb, hcell⟩ : ∃ b o, A = some ⟨b, o, none⟩ ∧ b < B ∧ ∀ i (h : i < l.length), w.cell? ⟨b, o + i, none⟩ = some (bv l[i]) := by
    rcases hr with h | ⟨b, o, h1, h2, h3⟩
    · have := bvs_length l; rw [h] at this; simp at this; omega
    · exact ⟨b, o, h1, h2, fun i hi => h3 i _ (bvs_at hi)⟩
  have hc8 : (8 : Int) ≤ (c : Int) := by omega
  have hc8' : 8 ≤ c := by omega
  have HC := Lib.hid hcell; clear hcell
  have HN := Lib.hid hn; clear hn
  have H8 := Lib.hid h8; clear h8
  clear hr hc hb
  go_enter Try.func30, Try.ntmps30
  go_wp2_with fail
  go_loop [3, 9] (fun wv_ iv => ∃ i : Nat, i ≤ 8 ∧ iv = .int .i64 (i : Int) ∧ wv_ = .int .u64 (big 0 (l.take i) : Nat)) (fun _ iv => 8 - (intOf iv).toNat)
  case atStart => exact ⟨0, by decide, rfl, rfl⟩
  case round =>
    obtain ⟨i, hi, rfl, rfl⟩ := hrel
    by_cases hx : i = 8
    · subst hx
      go_wp2_with fail
      go_ret
      exact ⟨rfl, rfl⟩
    · have e1 : (i : Int) < 8 := by omega
      have e2 : (0 : Int) ≤ (i : Int) := by omega
      have e3 : i < 8 := by omega
      have hl : i < l.length := by have := HN.out; have := H8.out; omega
      obtain ⟨y, ey⟩ : ∃ y, y = l[i] := ⟨_, rfl⟩
      have hcc := HC.out i hl
      rw [← ey] at hcc
      simp only [bv] at hcc
      have hy := y.toNat_lt
      obtain ⟨v, ev⟩ : ∃ v, v = big 0 (l.take i) := ⟨_, rfl⟩
      obtain ⟨u, eu⟩ : ∃ u, u = v * 256 + y.toNat := ⟨_, rfl⟩
      rw [← ev]
      have hv : v < 72057594037927936 := by
        have := big_take_lt l i
        rw [← ev] at this
        exact Nat.lt_of_lt_of_le this (Nat.pow_le_pow_right (by decide) (by omega) : 256 ^ i ≤ 256 ^ 7)
      have hw1 : (v : Int) * 256 % 18446744073709551616 = (v : Int) * 256 := by omega
      have hw2 : (y.toNat : Int) % 18446744073709551616 = (y.toNat : Int) := by omega
      have hw3 : IntKind.u64.wrap (y.toNat : Int) = (y.toNat : Int) := by rw [IntKind.wrap_u64]; exact hw2
      have hw4 : IntKind.u64.wrap ((v : Int) * 256) = (v : Int) * 256 := by rw [IntKind.wrap_u64]; exact hw1
      have hor : bits .or .u64 ((v : Int) * 256) (y.toNat : Int) = (u : Int) := by rw [eu]; exact or_byte v y.toNat hy hv
      have hnx : u = big 0 (l.take (i + 1)) := by rw [big_take l i hl, ← ey, ← ev, eu]
      have NX := Lib.hid hnx; clear hnx
      have HI := Lib.hid hi; clear hi
      have HX := Lib.hid hx; clear hx
      have HV := Lib.hid hv; clear hv
      clear eu ev ey
      go_wp2_with fail
      go_round
      case rel => exact ⟨i + 1, by omega, by go_num, by rw [← NX.out]⟩
      case measure => simp [intOf]; omega

theorem own_push {w w' : World} {base : Nat} {t : TypeId} {v : Value} {n : Nat} {xs : List Value} {o : Obj} (h : w.ownsRow base t 1 v n xs) (e : w'.heap = w.heap.push o) : w'.ownsRow base t 1 v n xs := Si.own_push h e
/-- what has been laid so far -/
def laid (xs : List UInt8) (N j : Nat) : List Value := bvs (xs ++ (w8 N).take j)
theorem laid_next (xs : List UInt8) (N j : Nat) (h : j < 8) : laid xs N j ++ [bv (UInt8.ofNat (N / 2 ^ (56 - 8 * j)))] = laid xs N (j + 1) := by
  unfold laid
  rw [w8_take N j h, ← List.append_assoc, bvs_append (xs ++ (w8 N).take j)]; rfl
theorem laid_8 (xs : List UInt8) (N : Nat) : laid xs N 8 = bvs (xs ++ w8 N) := by
  unfold laid
  rw [List.take_of_length_le (by rw [w8_length]; exact Nat.le_refl _)]
set_option maxRecDepth 100000 in
set_option maxHeartbeats 1600000 in
theorem add_word (base : Nat) (v : Value) (n N : Nat) (xs : List UInt8) (w : World) (hN : N < 18446744073709551616) (hn : n ≤ 100000) (hb : base ≤ w.heap.size) (hown : w.ownsRow base 5 1 v n (bvs xs)) :
    Calls Try.prog 25 #[v, .int .u64 (N : Int)] w fun e w' => ∃ v', e = .returned v' ∧ w'.ownsRow base 5 1 v' (n + 8) (bvs (xs ++ w8 N)) ∧ Chg (fun i => v.ownBlock = some i) w w' ∧ (∀ k, v'.ownBlock = some k → v.ownBlock = some k ∨ w.heap.size ≤ k) := by
  obtain ⟨ib, hi0, hz0, hs0, hb0⟩ := info_parts Si.u8_info
  have HO := Lib.hid hown; clear hown
  have HB := Lib.hid hb; clear hb
  have HN := Lib.hid hN; clear hN
  have HL := Lib.hid hn; clear hn
  go_enter Try.func25, Try.ntmps25
  go_wp2_with fail
  go_loopw [0, 5] (fun bv_ iv wr => ∃ j : Nat, j ≤ 8 ∧ iv = .int .i64 (56 - 8 * (j : Int)) ∧ wr.ownsRow base 5 1 bv_ (n + j) (laid xs N j) ∧ Chg (fun i => v.ownBlock = some i) w wr ∧ (∀ k, bv_.ownBlock = some k → v.ownBlock = some k ∨ w.heap.size ≤ k)) (fun _ iv _ => (intOf iv + 8).toNat)
  case atStart => exact ⟨0, by decide, rfl, by unfold laid; rw [List.take_zero, List.append_nil]; exact HO.out, Chg.refl _ _, fun k hk => .inl hk⟩
  case round =>
    obtain ⟨j, hj, rfl, hown, hbl, hnew⟩ := hrel
    have HNEW := Lib.hid hnew; clear hnew
    have HR := Lib.hid hown; clear hown
    have HW := Lib.hid hbl; clear hbl
    by_cases hx : j = 8
    · subst hx
      go_wp2_with fail
      go_ret
      exact ⟨_, rfl, by rw [← laid_8]; exact HR.out, HW.out, HNEW.out⟩
    · obtain ⟨m, em⟩ : ∃ m : Nat, m = 56 - 8 * j := ⟨_, rfl⟩
      have hm : (56 : Int) - 8 * (j : Int) = (m : Int) := by omega
      rw [hm]
      have hx3 : j < 8 := by omega
      have hx4 : m < 64 := by omega
      have hx5 : (m : Int) < 64 := by omega
      have hx6 : (0 : Int) ≤ (m : Int) := by omega
      have hx7 : min m 64 = m := by omega
      obtain ⟨k, ek⟩ : ∃ k, k = n + j := ⟨_, rfl⟩
      have hk : k ≤ 100010 := by have := HL.out; omega
      rw [← ek] at HR
      have hnx := laid_next xs N j hx3
      have hv : bv (UInt8.ofNat (N / 2 ^ (56 - 8 * j))) = .int .u8 ((N : Int) / 2 ^ m % 256) := by
        unfold bv; rw [UInt8.toNat_ofNat', ← em]; congr 1
      rw [hv] at hnx
      have NX := Lib.hid hnx; clear hnx
      have EM := Lib.hid em; clear em
      have EK := Lib.hid ek; clear ek
      have HX := Lib.hid hx; clear hx
      have HJ := Lib.hid hj; clear hj
      have HX3 := Lib.hid hx3; clear hx3
      clear hm hv
      go_wp2_with (first | (at_builtin; refine wpList_append_rd _ (by rfl) (.tmp 10) (.tmp 15) 34 (by rfl) base 5 ib _ 1 Try.underlying34 hi0 hz0 hs0 hb0 (by rfl) _ k (laid xs N j) (by rfl) (own_push HR.out (by rfl)) (wr.heap.size + 1) (some ⟨wr.heap.size, 0, none⟩) 1 1 [.int .u8 ((N : Int) / 2 ^ m % 256)] (by rfl) (by rfl) (Si.rd_words wr 5 _ [.int .u8 ((N : Int) / 2 ^ m % 256)] (by rfl) _ rfl) (by simp [Value.oneCell']) (by unfold maxLen; omega) (by omega) (by have := HB.out; have := HW.out.size; simp; omega) ?_; intro v6 w6 hown6 hgrow6 hat6; have O6 := Lib.hid hown6; have G6 := Lib.hid hgrow6; have T6 := Lib.hid hat6; clear hown6 hgrow6 hat6) | fail)
      go_roundw
      case rel =>
        refine ⟨j + 1, by have := HX3.out; omega, ?_, by rw [← NX.out, ← Nat.add_assoc, ← EK.out]; exact O6.out, ?_, ?_⟩
        · exact congrArg (Value.int .i64) (by have := EM.out; have := HX3.out; omega)
        · refine (HW.out.alloc _).trans (T := fun i => Value.ownBlock _ = some i) ⟨G6.out.os, G6.out.tape, G6.out.output, G6.out.size, fun k hk hne => G6.out.block k hk (fun e => hne e.symm)⟩ (fun i hi hx => ?_)
          rcases HNEW.out i hx with h1 | h1
          · exact h1
          · omega
        · intro k hk
          rcases T6.out with h1 | h1
          · exact HNEW.out k (h1 ▸ hk)
          · have := HW.out.size
            rw [hk] at h1
            injection h1 with h1
            exact .inr (by simp at h1; omega)
      case measure => simp [intOf]; omega
end Go.Proofs.Ytcjibpjdfhhhkaa.Se
