/-
  The document's own answer: a block, turned and turned back.
-/
import Derived.Test.YtmelmoideigocaaSpRef2
import Derived.StillTailTactics
set_option linter.unusedVariables false
namespace Go.Proofs.Ytmelmoideigocaa.Sp
open Go.RowKit Go.Proofs.Ytmelmoideigocaa.Mem

set_option maxRecDepth 100000 in
set_option maxHeartbeats 1600000 in
theorem dblock (K : Nat → Wd) (x y : Wd) (w : World) :
    Calls Try.prog 15 #[.agg (cells27 K), wv x, wv y] w fun e w' => e = .returned (.tuple #[wv (blockK K (x, y)).1, wv (blockK K (x, y)).2]) ∧ Below w.heap.size w w' := by
  obtain ⟨B, eB⟩ : ∃ B, B = w.heap.size := ⟨_, rfl⟩
  rw [← eB]
  have EB := Lib.hid eB
  go_enter Try.func15, Try.ntmps15
  go_wp2_with fail
  rw [← eB]
  clear eB
  go_loopw [1, 2, 8] (fun xv yv iv wr => ∃ i : Nat, i ≤ 27 ∧ iv = .int .i64 (i : Int) ∧ xv = wv (turnN K i (x, y)).1 ∧ yv = wv (turnN K i (x, y)).2 ∧ Blk wr B 28 (cells27 K) ∧ Below B w wr) (fun _ _ iv _ => 27 - (intOf iv).toNat)
  case atStart => exact ⟨0, by decide, rfl, rfl, rfl, Blk.new_of w B _ _ _ rfl EB.out.symm, EB.out ▸ (Below.refl _ _).alloc (Nat.le_refl _) _⟩
  case round =>
    obtain ⟨i, hi, rfl, rfl, rfl, hB, hb⟩ := hrel
    by_cases h27 : i = 27
    · subst h27
      have HB := Lib.hid hB; clear hB
      have HB2 := Lib.hid hb; clear hb
      go_wp2_with fail
      go_ret2
      exact ⟨rfl, HB2.out⟩
    · have hi0 : (0 : Int) ≤ (i : Int) := by omega
      have hi1 : (i : Int) < 27 := by omega
      have hi2 : i < 27 := by omega
      obtain ⟨p, ep⟩ : ∃ p, p = turnN K i (x, y) := ⟨_, rfl⟩
      obtain ⟨k0, ek⟩ : ∃ k0, k0 = K i := ⟨_, rfl⟩
      obtain ⟨x0, ex⟩ : ∃ x0, x0 = p.1 := ⟨_, rfl⟩
      obtain ⟨y0, ey⟩ : ∃ y0, y0 = p.2 := ⟨_, rfl⟩
      obtain ⟨rx, erx⟩ : ∃ rx, rx = rot x0 24 := ⟨_, rfl⟩
      obtain ⟨ry, ery⟩ : ∃ ry, ry = rot y0 3 := ⟨_, rfl⟩
      obtain ⟨sm, es⟩ : ∃ sm, sm = rx + y0 := ⟨_, rfl⟩
      obtain ⟨x1, ex1⟩ : ∃ x1, x1 = sm ^^^ k0 := ⟨_, rfl⟩
      obtain ⟨y1, ey1⟩ : ∃ y1, y1 = ry ^^^ x1 := ⟨_, rfl⟩
      have ck : wr.cell? ⟨B, i, none⟩ = some (wv k0) := by rw [hB.cell, cells27_at _ _ hi2, ek]
      have hx0 : ((rx.toNat : Int) + (y0.toNat : Int)) % 4294967296 = (sm.toNat : Int) := by rw [es]; exact add_w _ _
      have hx1 : IntKind.u32.wrap ((rx.toNat : Int) + (y0.toNat : Int)) = (sm.toNat : Int) := by rw [IntKind.wrap_u32]; exact hx0
      have hx2 : bits .xor .u32 (sm.toNat : Int) (k0.toNat : Int) = (x1.toNat : Int) := by rw [ex1]; exact xor_w _ _
      have hx3 : bits .xor .u32 (ry.toNat : Int) (x1.toNat : Int) = (y1.toNat : Int) := by rw [ey1]; exact xor_w _ _
      have cr8 := dright8 x0
      rw [← erx] at cr8
      have cl3 := dleft3 y0
      rw [← ery] at cl3
      have hn : turnN K (i + 1) (x, y) = (x1, y1) := by rw [turnN, ← ep, step, ← ex, ← ey, ← ek, ← erx, ← ery, ← es, ← ex1, ← ey1]
      rw [← ep, ← ex, ← ey]
      have hn' := Lib.hid hn; clear hn
      have hh := Lib.hid hi2
      have HB := Lib.hid hB; clear hB
      have HB2 := Lib.hid hb; clear hb
      clear ep ek ex ey erx ery es ex1 ey1 hi h27
      go_wp2_with fail
      refine wp_region_still_lit (by kernel_rfl) (by kernel_rfl) ?_
      change wpStill _ _ wr.drew _ _ _
      repeat still_step
      still_call (cr8 _)
      repeat still_step
      refine wpStill_nil ?_
      try change _ wr.drew
      go_wp2_with (first | (go_at_call 23; refine Calls.mono (cl3 _) ?_; rintro e w' ⟨rfl, rfl⟩))
      go_roundw
      case rel => exact ⟨i + 1, by have := hh.out; omega, by go_num, by rw [hn'.out], by rw [hn'.out], HB.out, below_drewN HB2.out 1⟩
      case measure => have := hh.out; simp [intOf]; omega

set_option maxRecDepth 100000 in
set_option maxHeartbeats 1600000 in
theorem dback (K : Nat → Wd) (x y : Wd) (w : World) :
    Calls Try.prog 17 #[.agg (cells27 K), wv x, wv y] w fun e w' => e = .returned (.tuple #[wv (backK K (x, y)).1, wv (backK K (x, y)).2]) ∧ Below w.heap.size w w' := by
  obtain ⟨B, eB⟩ : ∃ B, B = w.heap.size := ⟨_, rfl⟩
  rw [← eB]
  have EB := Lib.hid eB
  go_enter Try.func17, Try.ntmps17
  go_wp2_with fail
  rw [← eB]
  clear eB
  go_loopw [1, 2, 8] (fun xv yv iv wr => ∃ (i : Nat) (x1 y1 : Wd), i ≤ 27 ∧ iv = .int .i64 ((i : Int) - 1) ∧ xv = wv x1 ∧ yv = wv y1 ∧ unN K i (x1, y1) = backK K (x, y) ∧ Blk wr B 28 (cells27 K) ∧ Below B w wr) (fun _ _ iv _ => (intOf iv + 1).toNat)
  case atStart => exact ⟨27, x, y, by decide, rfl, rfl, rfl, rfl, Blk.new_of w B _ _ _ rfl EB.out.symm, EB.out ▸ (Below.refl _ _).alloc (Nat.le_refl _) _⟩
  case round =>
    obtain ⟨i, x0, y0, hi, rfl, rfl, rfl, hu, hB, hb⟩ := hrel
    have HB2 := Lib.hid hb; clear hb
    cases i with
    | zero =>
      have hu' : Hid ((x0, y0) = backK K (x, y)) := hu
      clear hu
      have HB := Lib.hid hB; clear hB
      go_wp2_with fail
      go_ret2
      exact ⟨by rw [← hu'.out]; rfl, HB2.out⟩
    | succ i =>
      have hc : ((i + 1 : Nat) : Int) - 1 = (i : Int) := by omega
      rw [hc]
      have hi0 : (0 : Int) ≤ (i : Int) := by omega
      have hi1 : (i : Int) < 27 := by omega
      have hi2 : i < 27 := by omega
      obtain ⟨k0, ek⟩ : ∃ k0, k0 = K i := ⟨_, rfl⟩
      obtain ⟨s0, es⟩ : ∃ s0, s0 = y0 ^^^ x0 := ⟨_, rfl⟩
      obtain ⟨y1, ey1⟩ : ∃ y1, y1 = rot s0 29 := ⟨_, rfl⟩
      obtain ⟨q0, eq0⟩ : ∃ q0, q0 = x0 ^^^ k0 := ⟨_, rfl⟩
      obtain ⟨q1, eq1⟩ : ∃ q1, q1 = q0 - y1 := ⟨_, rfl⟩
      obtain ⟨x1, ex1⟩ : ∃ x1, x1 = rot q1 8 := ⟨_, rfl⟩
      have ck : wr.cell? ⟨B, i, none⟩ = some (wv k0) := by rw [hB.cell, cells27_at _ _ hi2, ek]
      have hx0 : bits .xor .u32 (y0.toNat : Int) (x0.toNat : Int) = (s0.toNat : Int) := by rw [es]; exact xor_w _ _
      have hx1 : bits .xor .u32 (x0.toNat : Int) (k0.toNat : Int) = (q0.toNat : Int) := by rw [eq0]; exact xor_w _ _
      have hx2 : ((q0.toNat : Int) - (y1.toNat : Int)) % 4294967296 = (q1.toNat : Int) := by rw [eq1]; exact sub_w _ _
      have cr3 := dright3 s0
      rw [← ey1] at cr3
      have cl8 := dleft8 q1
      rw [← ex1] at cl8
      have hn : unN K i (x1, y1) = backK K (x, y) := by rw [← hu, unN, unstep, ← es, ← ek, ← ey1, ← eq0, ← eq1, ← ex1]
      have hn' := Lib.hid hn; clear hn
      have hh := Lib.hid hi2
      have HB := Lib.hid hB; clear hB
      clear ek es ey1 eq0 eq1 ex1 hi hu
      go_wp2_with (first | (go_at_call 22; refine Calls.mono (cr3 _) ?_; rintro e w' ⟨rfl, rfl⟩) | (go_at_call 23; refine Calls.mono (cl8 _) ?_; rintro e w' ⟨rfl, rfl⟩))
      go_roundw
      case rel => exact ⟨i, x1, y1, by have := hh.out; omega, by go_num, rfl, rfl, hn'.out, HB.out, HB2.out⟩
      case measure => simp [intOf]
end Go.Proofs.Ytmelmoideigocaa.Sp
