/-
  A word is taken in, the code's and the document's; a byte is added; the end.
-/
import Derived.Test.YtioonkckppmnoaaSiRound
set_option linter.unusedVariables false
namespace Go.Proofs.Ytioonkckppmnoaa.Si
open Go.RowKit Go.Proofs.Ytioonkckppmnoaa.Mem

set_option maxRecDepth 100000 in
set_option maxHeartbeats 1600000 in
theorem addWord_any (g : Nat) (s : V) (R N : Value) (m : Wd) (w : World) (hB : Blk w g 102 (cells6 s R N)) :
    Calls Try.prog 63 #[.pointer (some ⟨g, 0, none⟩), wv m] w fun e w' => e = .returned (.tuple #[]) ∧ Blk w' g 102 (cells6 (addM s m) R N) ∧ w.grownBy w' (some g) := by
  obtain ⟨a, b, c, d⟩ := s
  obtain ⟨d1, ed⟩ : ∃ x, x = d ^^^ m := ⟨_, rfl⟩
  obtain ⟨⟨a2, b2, c2, d2⟩, e2⟩ : ∃ t, t = rnds 2 ⟨a, b, c, d1⟩ := ⟨_, rfl⟩
  obtain ⟨a3, ea⟩ : ∃ x, x = a2 ^^^ m := ⟨_, rfl⟩
  have hall : addM ⟨a, b, c, d⟩ m = ⟨a3, b2, c2, d2⟩ := by simp only [addM, ← ed, ← e2, ← ea]
  have x1 : bits .xor .u64 (d.toNat : Int) (m.toNat : Int) = (d1.toNat : Int) := by rw [ed]; exact xor_w _ _
  have x2 : bits .xor .u64 (a2.toNat : Int) (m.toNat : Int) = (a3.toNat : Int) := by rw [ea]; exact xor_w _ _
  have HALL := Lib.hid hall; clear hall
  have E2 := Lib.hid e2; clear e2
  clear ed ea
  have fz := hB.frozen
  have k3 : w.cell? ⟨g, 3, none⟩ = some (.int .u64 (d.toNat : Int)) := by rw [hB.cell]; rfl
  have HB := Lib.hid (show Blk w g 102 #[wv a, wv b, wv c, wv d, R, N] from hB); clear hB
  have HG := Lib.hid (World.grownBy.refl w (some g))
  go_enter Try.func63, Try.ntmps63
  go_upto_region 1 with fail
  have hB1 : Blk (w.setCell ⟨g, 3, none⟩ (.int .u64 (d1.toNat : Int))) g 102 #[wv a, wv b, wv c, wv d1, R, N] := Blk.set HB.out 3 (wv d1)
  have hG1 : w.grownBy (w.setCell ⟨g, 3, none⟩ (.int .u64 (d1.toNat : Int))) (some g) := g_set HG.out (.inl rfl) _
  generalize w.setCell ⟨g, 3, none⟩ (.int .u64 (d1.toNat : Int)) = v1 at hB1 hG1 ⊢
  have c1 := rounds_any g 2 ⟨a, b, c, d1⟩ R N v1 (by decide) hB1
  rw [← E2.out] at c1
  have HG1 := Lib.hid hG1
  clear hB1 hG1 fz k3 HB HG x1
  go_upto_region 2 with (go_at_call 64; refine Calls.mono c1 ?_; rintro e v2 ⟨rfl, hB2, hG2⟩; clear c1; have k0 : v2.cell? ⟨g, 0, none⟩ = some (.int .u64 (a2.toNat : Int)) := by { rw [hB2.cell]; rfl }; have fz2 := hB2.frozen; have HB2 := Lib.hid hB2; have HG2 := Lib.hid hG2; clear hB2 hG2)
  go_wp2_with fail
  go_end0
  exact ⟨rfl, by rw [HALL.out]; exact Blk.set HB2.out 0 (wv a3), g_set (World.grownBy.trans HG1.out HG2.out) (.inl rfl) _⟩

set_option maxRecDepth 100000 in
set_option maxHeartbeats 1600000 in
theorem dtake (g : Nat) (s : V) (m : Wd) (w : World) (hB : Blk w g 108 (cells4 s)) :
    Calls Try.prog 54 #[.pointer (some ⟨g, 0, none⟩), wv m] w fun e w' => e = .returned (.tuple #[]) ∧ Blk w' g 108 (cells4 (addM s m)) ∧ w.grownBy w' (some g) := by
  obtain ⟨a, b, c, d⟩ := s
  obtain ⟨d1, ed⟩ : ∃ x, x = d ^^^ m := ⟨_, rfl⟩
  obtain ⟨t1, e1⟩ : ∃ t, t = rnd ⟨a, b, c, d1⟩ := ⟨_, rfl⟩
  obtain ⟨⟨a2, b2, c2, d2⟩, e2⟩ : ∃ t, t = rnd t1 := ⟨_, rfl⟩
  obtain ⟨a3, ea⟩ : ∃ x, x = a2 ^^^ m := ⟨_, rfl⟩
  have hr : rnds 2 ⟨a, b, c, d1⟩ = ⟨a2, b2, c2, d2⟩ := by rw [e2, e1]; rfl
  have hall : addM ⟨a, b, c, d⟩ m = ⟨a3, b2, c2, d2⟩ := by simp only [addM, ← ed, hr, ← ea]
  have x1 : bits .xor .u64 (d.toNat : Int) (m.toNat : Int) = (d1.toNat : Int) := by rw [ed]; exact xor_w _ _
  have x2 : bits .xor .u64 (a2.toNat : Int) (m.toNat : Int) = (a3.toNat : Int) := by rw [ea]; exact xor_w _ _
  have HALL := Lib.hid hall; clear hall hr
  have E1 := Lib.hid e1; clear e1
  have E2 := Lib.hid e2; clear e2
  clear ed ea
  have fz := hB.frozen
  have k3 : w.cell? ⟨g, 3, none⟩ = some (.int .u64 (d.toNat : Int)) := by rw [hB.cell]; rfl
  have HB := Lib.hid (show Blk w g 108 #[wv a, wv b, wv c, wv d] from hB); clear hB
  have HG := Lib.hid (World.grownBy.refl w (some g))
  go_enter Try.func54, Try.ntmps54
  go_upto_region 0 with fail
  refine wp_region_still_tail 9 (by kernel_rfl) (by kernel_rfl) ?_
  simp only [List.take_succ_cons, List.take_zero, List.drop_succ_cons, List.drop_zero]
  change wpStill _ _ w.drew _ _ _
  repeat still_step
  refine wpStill_nil ?_
  change wpList _ _ _ _ _ w.drew
  go_upto_region 1 with fail
  have hB1 : Blk (w.setCell ⟨g, 3, none⟩ (.int .u64 (d1.toNat : Int))).drew g 108 #[wv a, wv b, wv c, wv d1] := Blk.set HB.out 3 (wv d1)
  have hG1 : w.grownBy (w.setCell ⟨g, 3, none⟩ (.int .u64 (d1.toNat : Int))).drew (some g) := g_drew (g_set HG.out (.inl rfl) _)
  generalize (w.setCell ⟨g, 3, none⟩ (.int .u64 (d1.toNat : Int))).drew = v1 at hB1 hG1 ⊢
  have c1 := dround g ⟨a, b, c, d1⟩ v1 hB1
  rw [← E1.out] at c1
  have HG1 := Lib.hid hG1
  clear hB1 hG1 fz k3 HB HG x1
  go_upto_region 2 with (go_at_call 55; refine Calls.mono c1 ?_; rintro e v2 ⟨rfl, hB2, hG2⟩; clear c1; have c2 := dround g t1 v2 hB2; rw [← E2.out] at c2; have HG2 := Lib.hid hG2; clear hB2 hG2)
  go_upto_region 3 with (go_at_call 55; refine Calls.mono c2 ?_; rintro e v3 ⟨rfl, hB3, hG3⟩; clear c2; have k0 : v3.cell? ⟨g, 0, none⟩ = some (.int .u64 (a2.toNat : Int)) := by { rw [hB3.cell]; rfl }; have fz2 := hB3.frozen; have HB3 := Lib.hid hB3; have HG3 := Lib.hid hG3; clear hB3 hG3)
  refine wp_region_still_tail 9 (by kernel_rfl) (by kernel_rfl) ?_
  simp only [List.take_succ_cons, List.take_zero, List.drop_succ_cons, List.drop_zero]
  change wpStill _ _ v3.drew _ _ _
  repeat still_step
  refine wpStill_nil ?_
  change wpList _ _ _ _ _ v3.drew
  go_wp2_with fail
  go_end0
  exact ⟨rfl, by rw [HALL.out]; exact Blk.set HB3.out 0 (wv a3), g_drew (g_set (World.grownBy.trans (World.grownBy.trans HG1.out HG2.out) HG3.out) (.inl rfl) _)⟩
end Go.Proofs.Ytioonkckppmnoaa.Si
