/-
  The stream is the blocks, one behind the other.
-/
import Derived.Test.YtmelmoideigocaaSpLaw1
set_option linter.unusedVariables false
namespace Go.Proofs.Ytmelmoideigocaa.SpL
open Go.RowKit Go.Proofs.Ytmelmoideigocaa.Mem Go.Proofs.Ytmelmoideigocaa.Sp

theorem sbyte_lo (K : Nat → Wd) (up lo : Wd) (i j : Nat) (hj : j < 4) : (sbyte K up lo (8 * i + j)).toNat = (blockK K (up, lo + BitVec.ofNat 32 i)).1.toNat / 256 ^ j % 256 := by
  have q1 : (8 * i + j) / 8 = i := by omega
  have q2 : (8 * i + j) % 8 = j := by omega
  rw [sbyte, q1, q2, UInt8.toNat_ofNat', blk64]
  have hx := wd_lt (blockK K (up, lo + BitVec.ofNat 32 i)).1
  have h : j = 0 ∨ j = 1 ∨ j = 2 ∨ j = 3 := by omega
  rcases h with rfl | rfl | rfl | rfl <;> simp only [Nat.reducePow] <;> omega
theorem sbyte_hi (K : Nat → Wd) (up lo : Wd) (i j : Nat) (hj : j < 4) : (sbyte K up lo (8 * i + 4 + j)).toNat = (blockK K (up, lo + BitVec.ofNat 32 i)).2.toNat / 256 ^ j % 256 := by
  have q1 : (8 * i + 4 + j) / 8 = i := by omega
  have q2 : (8 * i + 4 + j) % 8 = 4 + j := by omega
  rw [sbyte, q1, q2, UInt8.toNat_ofNat', blk64]
  have hx := wd_lt (blockK K (up, lo + BitVec.ofNat 32 i)).1
  have h : j = 0 ∨ j = 1 ∨ j = 2 ∨ j = 3 := by omega
  rcases h with rfl | rfl | rfl | rfl <;> simp only [Nat.reducePow, Nat.reduceAdd] <;> omega
/-- the cell of a byte of the stream, as a part of the block's word -/
theorem cell_lo {w : World} {g n : Nat} {K : Nat → Wd} {up lo : Wd} (hB : Blk w g 5 (bvs (strm K up lo n)).toArray) (i j : Nat) (hj : j < 4) (hn : 8 * i + j < n) (D : Int) (hD : D = 256 ^ j) :
    w.cell? ⟨g, 8 * i + j, none⟩ = some (.int .u8 (((blockK K (up, lo + BitVec.ofNat 32 i)).1.toNat : Int) / D % 256)) := by
  have hl : 8 * i + j < (strm K up lo n).length := by rw [strm_length]; exact hn
  rw [hB.cell, List.getElem?_toArray, bvs_at hl, hD]
  have e : (strm K up lo n)[8 * i + j] = sbyte K up lo (8 * i + j) := by simp [strm]
  rw [e, bv, sbyte_lo K up lo i j hj]
  congr 2
theorem cell_hi {w : World} {g n : Nat} {K : Nat → Wd} {up lo : Wd} (hB : Blk w g 5 (bvs (strm K up lo n)).toArray) (i j : Nat) (hj : j < 4) (hn : 8 * i + 4 + j < n) (D : Int) (hD : D = 256 ^ j) :
    w.cell? ⟨g, 8 * i + 4 + j, none⟩ = some (.int .u8 (((blockK K (up, lo + BitVec.ofNat 32 i)).2.toNat : Int) / D % 256)) := by
  have hl : 8 * i + 4 + j < (strm K up lo n).length := by rw [strm_length]; exact hn
  rw [hB.cell, List.getElem?_toArray, bvs_at hl, hD]
  have e : (strm K up lo n)[8 * i + 4 + j] = sbyte K up lo (8 * i + 4 + j) := by simp [strm]
  rw [e, bv, sbyte_hi K up lo i j hj]
  congr 2

set_option maxRecDepth 100000 in
set_option maxHeartbeats 1600000 in
theorem blocksIn (A : Option Addr) (l : List UInt8) (c N i : Nat) (w : World) (hN : N < 18446744073709551616) (hi : i ≤ 100) (hr : Rd w w.heap.size A (bvs l)) :
    Calls Try.prog 6 #[.slice A l.length c, .int .u64 (N : Int), .int .i64 (i : Int)] w fun e w' => e = .returned (.bool true) ∧ Below w.heap.size w w' := by
  obtain ⟨ks, ek⟩ : ∃ ks, ks = ksOf l := ⟨_, rfl⟩
  have c1 := key_any A l.length c l w rfl hr
  rw [← ek] at c1
  clear hr ek
  have g1 : decide ((i : Int) < 0) = false := by simp
  have g2 : decide ((100 : Int) < (i : Int)) = false := by simp; omega
  obtain ⟨o, eo⟩ : ∃ o, o = 8 * i := ⟨_, rfl⟩
  obtain ⟨n, en⟩ : ∃ n, n = o + 8 := ⟨_, rfl⟩
  have h8 : 8 * (i : Int) = (o : Int) := by omega
  have h88 : (o : Int) + 8 = (n : Int) := by omega
  have n1 : 1 ≤ n := by omega
  have n2 : n ≤ 1000000 := by omega
  have ob1 : (0 : Int) ≤ (o : Int) := by omega
  have ob2 : (o : Int) ≤ 800 := by omega
  have ob3 : (n : Int) ≤ 808 := by omega
  have ib1 : (0 : Int) ≤ (i : Int) := by omega
  have ib2 : (i : Int) ≤ 100 := by omega
  have NN := Lib.hid hN; clear hN
  have N1 := Lib.hid n1; clear n1
  have N2 := Lib.hid n2; clear n2
  have EO := Lib.hid eo; clear eo
  have EN := Lib.hid en; clear en
  have HI := Lib.hid hi; clear hi
  go_enter Try.func6, Try.ntmps6
  go_wp2_with (first
    | (go_at_call 12; refine Calls.mono c1 ?_; rintro e w1 ⟨rfl, hb1⟩; have HB1 := Lib.hid hb1; clear hb1 c1; have c2 := new_any ks w1)
    | (go_at_call 11; refine Calls.mono c2 ?_; rintro e w2 ⟨b, rfl, hb, hk2, hb2⟩; clear c2; have c3 := stream_any b ks false N n _ w2 rfl N1.out N2.out NN.out hk2; have HBb := Lib.hid hb; have HB2 := Lib.hid hb2; clear hk2 hb hb2))
  refine Calls.mono c3 ?_
  rintro e w3 ⟨g, rfl, hg, hB, hk3, hg3, _⟩
  clear c3
  have hn8 : 8 * i + 8 = n := by have := EO.out; have := EN.out; omega
  have d0 := cell_lo hB i 0 (by decide) (by omega) 1 (by decide)
  have d1 := cell_lo hB i 1 (by decide) (by omega) 256 (by decide)
  have d2 := cell_lo hB i 2 (by decide) (by omega) 65536 (by decide)
  have d3 := cell_lo hB i 3 (by decide) (by omega) 16777216 (by decide)
  have d4 := cell_hi hB i 0 (by decide) (by omega) 1 (by decide)
  have d5 := cell_hi hB i 1 (by decide) (by omega) 256 (by decide)
  have d6 := cell_hi hB i 2 (by decide) (by omega) 65536 (by decide)
  have d7 := cell_hi hB i 3 (by decide) (by omega) 16777216 (by decide)
  obtain ⟨p, ep⟩ : ∃ p, p = blockK (kw ks) (upW N, loW N + BitVec.ofNat 32 i) := ⟨_, rfl⟩
  have c4 := block_made b ks (upW N) (loW N + BitVec.ofNat 32 i) w3 hk3
  rw [← ep] at c4 d0 d1 d2 d3 d4 d5 d6 d7
  obtain ⟨x0, ex⟩ : ∃ x0, x0 = p.1 := ⟨_, rfl⟩
  obtain ⟨y0, ey⟩ : ∃ y0, y0 = p.2 := ⟨_, rfl⟩
  rw [← ex] at d0 d1 d2 d3
  rw [← ey] at d4 d5 d6 d7
  rw [← ex, ← ey] at c4
  have c5 := known_any w3
  have HG := Lib.hid hg
  have HG3 := Lib.hid hg3
  have D := Lib.hid (And.intro d0 (And.intro d1 (And.intro d2 (And.intro d3 (And.intro d4 (And.intro d5 (And.intro d6 d7)))))))
  clear hg hB hk3 hg3 ep ex ey d0 d1 d2 d3 d4 d5 d6 d7 hn8
  go_wp2_with fail
  have cup : (N : Int) / 4294967296 % 4294967296 = ((upW N).toNat : Int) := by rw [upW, BitVec.toNat_ofNat]; have := NN.out; omega
  have csum : ((N : Int) + (i : Int)) % 4294967296 = ((loW N + BitVec.ofNat 32 i).toNat : Int) := by rw [loW, BitVec.toNat_add, BitVec.toNat_ofNat, BitVec.toNat_ofNat]; omega
  rw [cup, csum]
  refine Calls.mono c4 ?_
  rintro e w' ⟨rfl, rfl⟩
  clear c4 cup csum
  go_wp2_with fail
  go_loop [11] (fun jv => ∃ j : Nat, j ≤ 4 ∧ jv = .int .i64 (j : Int)) (fun jv => 4 - (intOf jv).toNat)
  case atStart => exact ⟨0, by decide, rfl⟩
  case round =>
    obtain ⟨j, hj, rfl⟩ := hrel
    have hx : j = 0 ∨ j = 1 ∨ j = 2 ∨ j = 3 ∨ j = 4 := by omega
    have dd := D.out
    rw [show 8 * i = o from EO.out.symm] at dd
    obtain ⟨q0, q1, q2, q3, q4, q5, q6, q7⟩ := dd
    have d0 : w'.cell? ⟨g, o, none⟩ = some (.int .u8 ((x0.toNat : Int) % 256)) := by simpa using q0
    have d4 : w'.cell? ⟨g, o + 4, none⟩ = some (.int .u8 ((y0.toNat : Int) % 256)) := by simpa using q4
    have d5 : w'.cell? ⟨g, o + 5, none⟩ = some (.int .u8 ((y0.toNat : Int) / 256 % 256)) := q5
    have d6 : w'.cell? ⟨g, o + 6, none⟩ = some (.int .u8 ((y0.toNat : Int) / 65536 % 256)) := q6
    have d7 : w'.cell? ⟨g, o + 7, none⟩ = some (.int .u8 ((y0.toNat : Int) / 16777216 % 256)) := q7
    have d1 := q1
    have d2 := q2
    have d3 := q3
    clear q0 q1 q2 q3 q4 q5 q6 q7 hj
    rcases hx with rfl | rfl | rfl | rfl | rfl
    · have k1 : (o : Int) + 4 < (n : Int) := by omega
      have k2 : (o : Int) < (n : Int) := by omega
      have k3 : o < n := by have := EN.out; omega
      have k4 : o + 4 < n := by have := EN.out; omega
      clear d1 d2 d3 d5 d6 d7
      go_wp2_with fail
      go_round
      case rel => exact ⟨1, by decide, rfl⟩
      case measure => simp [intOf]
    · have k1 : (o : Int) + 5 < (n : Int) := by omega
      have k2 : (o : Int) + 1 < (n : Int) := by omega
      have k3 : o + 1 < n := by have := EN.out; omega
      have k4 : o + 5 < n := by have := EN.out; omega
      clear d0 d2 d3 d4 d6 d7
      go_wp2_with fail
      go_round
      case rel => exact ⟨2, by decide, rfl⟩
      case measure => simp [intOf]
    · have k1 : (o : Int) + 6 < (n : Int) := by omega
      have k2 : (o : Int) + 2 < (n : Int) := by omega
      have k3 : o + 2 < n := by have := EN.out; omega
      have k4 : o + 6 < n := by have := EN.out; omega
      clear d0 d1 d3 d4 d5 d7
      go_wp2_with fail
      go_round
      case rel => exact ⟨3, by decide, rfl⟩
      case measure => simp [intOf]
    · have k1 : (o : Int) + 7 < (n : Int) := by omega
      have k2 : (o : Int) + 3 < (n : Int) := by omega
      have k3 : o + 3 < n := by have := EN.out; omega
      have k4 : o + 7 < n := by have := EN.out; omega
      clear d0 d1 d2 d4 d5 d6
      go_wp2_with fail
      go_round
      case rel => exact ⟨4, by decide, rfl⟩
      case measure => simp [intOf]
    · clear d0 d1 d2 d3 d4 d5 d6 d7
      go_wp2_with (first | (go_at_call 18; refine Calls.mono c5 ?_; rintro e w6 ⟨rfl, hb6⟩; have HB6 := Lib.hid hb6; clear hb6))
      go_ret
      exact ⟨rfl, bt HB1.out (bt (btg HB2.out HG3.out HBb.out) HB6.out)⟩
theorem blocks (A : Option Addr) (l : List UInt8) (c : Nat) (nonce i : Int) (w : World) (hr : Rd w w.heap.size A (bvs l)) (hc : l.length ≤ c) (hm : c ≤ maxLen) (wn : (Lit.int .u64 nonce).wf = true) (wi : (Lit.int .i64 i).wf = true) :
    Calls Try.prog 6 #[.slice A l.length c, .int .u64 nonce, .int .i64 i] w fun e w' => e = .returned (.bool true) ∧ Below w.heap.size w w' := by
  by_cases h : i < 0 ∨ 100 < i
  · clear hr
    rcases h with h | h
    · have e1 : decide (i < 0) = true := by simpa using h
      clear h
      go_enter Try.func6, Try.ntmps6
      go_wp2
      go_ret
      exact ⟨rfl, Below.refl _ _⟩
    · have e1 : decide (i < 0) = false := by simp; omega
      have e2 : decide (100 < i) = true := by simpa using h
      clear h
      go_enter Try.func6, Try.ntmps6
      go_wp2
      go_ret
      exact ⟨rfl, Below.refl _ _⟩
  · obtain ⟨N, rfl, hN⟩ := Open.u64_of_wf wn
    obtain ⟨k, rfl⟩ : ∃ k : Nat, i = (k : Int) := ⟨i.toNat, by omega⟩
    exact blocksIn A l c N k w hN (by omega) hr
end Go.Proofs.Ytmelmoideigocaa.SpL
