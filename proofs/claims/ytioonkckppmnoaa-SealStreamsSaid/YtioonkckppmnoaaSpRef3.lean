/-
  The document's own answer: a block, turned and turned back.
-/
import Derived.Test.YtioonkckppmnoaaSpRef2
import Derived.StillTailTactics
set_option linter.unusedVariables false
namespace Go.Proofs.Ytioonkckppmnoaa.Sp
open Go.RowKit Go.Proofs.Ytioonkckppmnoaa.Mem

set_option maxRecDepth 100000 in
set_option maxHeartbeats 1600000 in
theorem dblock (K : Nat → Wd) (x y : Wd) (w : World) :
    Calls Try.prog 35 #[.agg (cells27 K), wv x, wv y] w fun e w' => e = .returned (.tuple #[wv (blockK K (x, y)).1, wv (blockK K (x, y)).2]) ∧ Below w.heap.size w w' := by
  obtain ⟨B, eB⟩ : ∃ B, B = w.heap.size := ⟨_, rfl⟩
  rw [← eB]
  have EB := Lib.hid eB
  go_enter Try.func35, Try.ntmps35
  go_wp2_with fail
  rw [← eB]
  clear eB
  go_loopw [1, 2, 8] (fun xv yv iv wr => ∃ i : Nat, i ≤ 27 ∧ iv = .int .i64 (i : Int) ∧ xv = wv (turnN K i (x, y)).1 ∧ yv = wv (turnN K i (x, y)).2 ∧ Blk wr B 49 (cells27 K) ∧ Below B w wr) (fun _ _ iv _ => 27 - (intOf iv).toNat)
  case atStart => exact ⟨0, by decide, rfl, rfl, rfl, Blk.new_of w B _ _ _ rfl EB.out.symm, EB.out ▸ (Below.refl _ _).alloc (Nat.le_refl _) _⟩
  case round =>
    obtain ⟨i, hi, rfl, rfl, rfl, hB, hb⟩ := hrel
    by_cases h27 : i = 27
    · subst h27
      have HB := Lib.hid hB; clear hB
      have HB2 := Lib.hid hb; clear hb
      go_wp2_with fail
      go_ret2
      exact ⟨rfl, HB2.out⟩
    · have hi0 : (0 : Int) ≤ (i : Int) := by omega
      have hi1 : (i : Int) < 27 := by omega
      have hi2 : i < 27 := by omega
      obtain ⟨p, ep⟩ : ∃ p, p = turnN K i (x, y) := ⟨_, rfl⟩
      obtain ⟨k0, ek⟩ : ∃ k0, k0 = K i := ⟨_, rfl⟩
      obtain ⟨x0, ex⟩ : ∃ x0, x0 = p.1 := ⟨_, rfl⟩
      obtain ⟨y0, ey⟩ : ∃ y0, y0 = p.2 := ⟨_, rfl⟩
      obtain ⟨rx, erx⟩ : ∃ rx, rx = rot x0 24 := ⟨_, rfl⟩
      obtain ⟨ry, ery⟩ : ∃ ry, ry = rot y0 3 := ⟨_, rfl⟩
      obtain ⟨sm, es⟩ : ∃ sm, sm = rx + y0 := ⟨_, rfl⟩
      obtain ⟨x1, ex1⟩ : ∃ x1, x1 = sm ^^^ k0 := ⟨_, rfl⟩
      obtain ⟨y1, ey1⟩ : ∃ y1, y1 = ry ^^^ x1 := ⟨_, rfl⟩
      have ck : wr.cell? ⟨B, i, none⟩ = some (wv k0) := by rw [hB.cell, cells27_at _ _ hi2, ek]
      have hx0 : ((rx.toNat : Int) + (y0.toNat : Int)) % 4294967296 = (sm.toNat : Int) := by rw [es]; exact add_w _ _
      have hx1 : IntKind.u32.wrap ((rx.toNat : Int) + (y0.toNat : Int)) = (sm.toNat : Int) := by rw [IntKind.wrap_u32]; exact hx0
      have hx2 : bits .xor .u32 (sm.toNat : Int) (k0.toNat : Int) = (x1.toNat : Int) := by rw [ex1]; exact xor_w _ _
      have hx3 : bits .xor .u32 (ry.toNat : Int) (x1.toNat : Int) = (y1.toNat : Int) := by rw [ey1]; exact xor_w _ _
      have cr8 := dright8 x0
      rw [← erx] at cr8
      have cl3 := dleft3 y0
      rw [← ery] at cl3
      have hn : turnN K (i + 1) (x, y) = (x1, y1) := by rw [turnN, ← ep, step, ← ex, ← ey, ← ek, ← erx, ← ery, ← es, ← ex1, ← ey1]
      rw [← ep, ← ex, ← ey]
      have hn' := Lib.hid hn; clear hn
      have hh := Lib.hid hi2
      have HB := Lib.hid hB; clear hB
      have HB2 := Lib.hid hb; clear hb
      clear ep ek ex ey erx ery es ex1 ey1 hi h27
      go_wp2_with fail
      refine wp_region_still_lit (by kernel_rfl) (by kernel_rfl) ?_
      change wpStill _ _ wr.drew _ _ _
      repeat still_step
      still_call (cr8 _)
      repeat still_step
      refine wpStill_nil ?_
      try change _ wr.drew
      go_wp2_with (first | (go_at_call 37; refine Calls.mono (cl3 _) ?_; rintro e w' ⟨rfl, rfl⟩))
      go_roundw
      case rel => exact ⟨i + 1, by have := hh.out; omega, by go_num, by rw [hn'.out], by rw [hn'.out], HB.out, below_drewN HB2.out 1⟩
      case measure => have := hh.out; simp [intOf]; omega

end Go.Proofs.Ytioonkckppmnoaa.Sp
