/-
  A byte is added to the code's state; the end (written by tools/sip_byte_gen.py).
-/
import Derived.Test.YtcjibpjdfhhhkaaSiTake
set_option linter.unusedVariables false
namespace Go.Proofs.Ytcjibpjdfhhhkaa.Si
open Go.RowKit Go.Proofs.Ytcjibpjdfhhhkaa.Mem

/-- the code's cells of a state -/
def stc (s : St) : Array Value := cells6 s.v (.int .u64 (s.r : Int)) (.int .u64 (s.n : Int))
set_option maxRecDepth 100000 in
set_option maxHeartbeats 3200000 in
theorem addByte_any (g : Nat) (s : St) (y : UInt8) (w : World) (hn : s.n < 100000) (hr : s.r < 256 ^ (s.n % 8)) (hB : Blk w g 113 (stc s)) :
    Calls Try.prog 55 #[.pointer (some ⟨g, 0, none⟩), .int .u8 (y.toNat : Int)] w fun e w' => e = .returned (.tuple #[]) ∧ Blk w' g 113 (stc (addB s y)) ∧ w.grownBy w' (some g) := by
  obtain ⟨⟨a, b, c, d⟩, r, n⟩ := s
  have hn : n < 100000 := hn
  have hr : r < 256 ^ (n % 8) := hr
  obtain ⟨r2, e2⟩ : ∃ x, x = r + y.toNat * 256 ^ (n % 8) := ⟨_, rfl⟩
  have hx : ∀ K : Int, K = ((256 ^ (n % 8) : Nat) : Int) → bits .or .u64 (r : Int) (IntKind.u64.wrap ((y.toNat : Int) * K)) = (r2 : Int) := fun K hK => by
    rw [e2]
    refine or_place r y (n % 8) (by omega) hr _ ?_
    have h1 := pow_8 (n % 8) (by omega)
    have h2 := y.toNat_lt
    have h3 : y.toNat * 256 ^ (n % 8) ≤ 255 * 72057594037927936 := Nat.mul_le_mul (by omega) h1
    rw [hK, IntKind.wrap_u64, ← Int.natCast_mul]
    omega
  have hr2 : r2 < 18446744073709551616 := by
    have h1 := place_lt r y (n % 8) hr
    have h2 : (256 : Nat) ^ (n % 8 + 1) ≤ 256 ^ 8 := Nat.pow_le_pow_right (by decide) (by omega)
    have h3 : (256 : Nat) ^ 8 = 18446744073709551616 := by decide
    omega
  have hin : ¬(n + 1) % 8 = 0 → stc (addB ⟨⟨a, b, c, d⟩, r, n⟩ y) = #[wv a, wv b, wv c, wv d, .int .u64 (r2 : Int), .int .u64 ((n : Int) + 1)] := fun h => by
    rw [addB_in _ _ h, e2]
    rfl
  have hend : (n + 1) % 8 = 0 → stc (addB ⟨⟨a, b, c, d⟩, r, n⟩ y) = cells6 (addM ⟨a, b, c, d⟩ (wd r2)) (.int .u64 0) (.int .u64 ((n : Int) + 1)) := fun h => by
    rw [addB_end _ _ h, e2]
    rfl
  have HIN := Lib.hid hin; clear hin
  have HEND := Lib.hid hend; clear hend
  have HR2 := Lib.hid hr2; clear hr2
  have hy : IntKind.u64.wrap (y.toNat : Int) = (y.toNat : Int) := by rw [IntKind.wrap_u64]; have := y.toNat_lt; omega
  have fz := hB.frozen
  have k4 : w.cell? ⟨g, 4, none⟩ = some (.int .u64 (r : Int)) := by rw [hB.cell]; rfl
  have k5 : w.cell? ⟨g, 5, none⟩ = some (.int .u64 (n : Int)) := by rw [hB.cell]; rfl
  have HB := Lib.hid (show Blk w g 113 #[wv a, wv b, wv c, wv d, .int .u64 (r : Int), .int .u64 (n : Int)] from hB); clear hB
  have HG := Lib.hid (World.grownBy.refl w (some g))
  have HN := Lib.hid hn
  clear e2 hr
  have hk : n % 8 = 0 ∨ n % 8 = 1 ∨ n % 8 = 2 ∨ n % 8 = 3 ∨ n % 8 = 4 ∨ n % 8 = 5 ∨ n % 8 = 6 ∨ n % 8 = 7 := by omega
  have n0 : (0 : Int) ≤ (n : Int) := by omega
  have n1 : (n : Int) < 100000 := by omega
  clear hn
  rcases hk with hk | hk | hk | hk | hk | hk | hk | hk
  · have hx := hx 1 (by rw [hk]; decide)
    rw [Int.mul_one, hy] at hx
    have m1 : (n : Int).tmod 8 = 0 := by rw [Int.tmod_eq_emod_of_nonneg n0]; omega
    have m2 : ((n : Int) + 1).tmod 8 = 1 := by rw [Int.tmod_eq_emod_of_nonneg (by omega)]; omega
    have m3 : n % 8 = 0 := hk
    have hw : IntKind.u64.wrap 0 = 0 := by kernel_rfl
    have m4 : (n : Int) % 8 = 0 := by omega
    have m5 : (n + 1) % 8 = 1 := by omega
    have M5 := Lib.hid m5; clear m5
    clear hk
    go_enter Try.func55, Try.ntmps55
    go_upto_region 0 with fail
    refine wp_region_still_tail 16 (by kernel_rfl) (by kernel_rfl) ?_
    simp only [List.take_succ_cons, List.take_zero, List.drop_succ_cons, List.drop_zero]
    change wpStill _ _ w.drew _ _ _
    repeat still_step
    refine wpStill_nil ?_
    change wpList _ _ _ _ _ w.drew
    go_upto_region 1 with fail
    have hB1 : Blk (w.setCell ⟨g, 4, none⟩ (.int .u64 (r2 : Int))).drew g 113 #[wv a, wv b, wv c, wv d, .int .u64 (r2 : Int), .int .u64 (n : Int)] := Blk.set HB.out 4 (.int .u64 (r2 : Int))
    have hG1 : w.grownBy (w.setCell ⟨g, 4, none⟩ (.int .u64 (r2 : Int))).drew (some g) := g_drew (g_set HG.out (.inl rfl) _)
    generalize (w.setCell ⟨g, 4, none⟩ (.int .u64 (r2 : Int))).drew = v1 at hB1 hG1 ⊢
    clear fz k4 k5 HB HG hx m1 m3 m4 hw hy
    have fz := hB1.frozen
    have k5 : v1.cell? ⟨g, 5, none⟩ = some (.int .u64 (n : Int)) := by rw [hB1.cell]; rfl
    have HB1 := Lib.hid hB1; clear hB1
    have HG1 := Lib.hid hG1; clear hG1
    go_upto_region 2 with fail
    have hB2 : Blk (v1.setCell ⟨g, 5, none⟩ (.int .u64 ((n : Int) + 1))) g 113 #[wv a, wv b, wv c, wv d, .int .u64 (r2 : Int), .int .u64 ((n : Int) + 1)] := Blk.set HB1.out 5 (.int .u64 ((n : Int) + 1))
    have hG2 : w.grownBy (v1.setCell ⟨g, 5, none⟩ (.int .u64 ((n : Int) + 1))) (some g) := g_set HG1.out (.inl rfl) _
    generalize (v1.setCell ⟨g, 5, none⟩ (.int .u64 ((n : Int) + 1))) = v2 at hB2 hG2 ⊢
    clear fz k5 HB1 HG1
    have fz := hB2.frozen
    have k4 : v2.cell? ⟨g, 4, none⟩ = some (.int .u64 (r2 : Int)) := by rw [hB2.cell]; rfl
    have k5 : v2.cell? ⟨g, 5, none⟩ = some (.int .u64 ((n : Int) + 1)) := by rw [hB2.cell]; rfl
    have HB2 := Lib.hid hB2; clear hB2
    have HG2 := Lib.hid hG2; clear hG2
    go_wp2_with fail
    go_end0
    exact ⟨rfl, by rw [HIN.out (by have := M5.out; omega)]; exact HB2.out, HG2.out⟩
  · have hx := hx 256 (by rw [hk]; decide)
    have m1 : (n : Int).tmod 8 = 1 := by rw [Int.tmod_eq_emod_of_nonneg n0]; omega
    have m2 : ((n : Int) + 1).tmod 8 = 2 := by rw [Int.tmod_eq_emod_of_nonneg (by omega)]; omega
    have m3 : n % 8 = 1 := hk
    have hw : IntKind.u64.wrap 8 = 8 := by kernel_rfl
    have m4 : (n : Int) % 8 = 1 := by omega
    have m5 : (n + 1) % 8 = 2 := by omega
    have M5 := Lib.hid m5; clear m5
    clear hk
    go_enter Try.func55, Try.ntmps55
    go_upto_region 0 with fail
    refine wp_region_still_tail 16 (by kernel_rfl) (by kernel_rfl) ?_
    simp only [List.take_succ_cons, List.take_zero, List.drop_succ_cons, List.drop_zero]
    change wpStill _ _ w.drew _ _ _
    repeat still_step
    refine wpStill_nil ?_
    change wpList _ _ _ _ _ w.drew
    go_upto_region 1 with fail
    have hB1 : Blk (w.setCell ⟨g, 4, none⟩ (.int .u64 (r2 : Int))).drew g 113 #[wv a, wv b, wv c, wv d, .int .u64 (r2 : Int), .int .u64 (n : Int)] := Blk.set HB.out 4 (.int .u64 (r2 : Int))
    have hG1 : w.grownBy (w.setCell ⟨g, 4, none⟩ (.int .u64 (r2 : Int))).drew (some g) := g_drew (g_set HG.out (.inl rfl) _)
    generalize (w.setCell ⟨g, 4, none⟩ (.int .u64 (r2 : Int))).drew = v1 at hB1 hG1 ⊢
    clear fz k4 k5 HB HG hx m1 m3 m4 hw hy
    have fz := hB1.frozen
    have k5 : v1.cell? ⟨g, 5, none⟩ = some (.int .u64 (n : Int)) := by rw [hB1.cell]; rfl
    have HB1 := Lib.hid hB1; clear hB1
    have HG1 := Lib.hid hG1; clear hG1
    go_upto_region 2 with fail
    have hB2 : Blk (v1.setCell ⟨g, 5, none⟩ (.int .u64 ((n : Int) + 1))) g 113 #[wv a, wv b, wv c, wv d, .int .u64 (r2 : Int), .int .u64 ((n : Int) + 1)] := Blk.set HB1.out 5 (.int .u64 ((n : Int) + 1))
    have hG2 : w.grownBy (v1.setCell ⟨g, 5, none⟩ (.int .u64 ((n : Int) + 1))) (some g) := g_set HG1.out (.inl rfl) _
    generalize (v1.setCell ⟨g, 5, none⟩ (.int .u64 ((n : Int) + 1))) = v2 at hB2 hG2 ⊢
    clear fz k5 HB1 HG1
    have fz := hB2.frozen
    have k4 : v2.cell? ⟨g, 4, none⟩ = some (.int .u64 (r2 : Int)) := by rw [hB2.cell]; rfl
    have k5 : v2.cell? ⟨g, 5, none⟩ = some (.int .u64 ((n : Int) + 1)) := by rw [hB2.cell]; rfl
    have HB2 := Lib.hid hB2; clear hB2
    have HG2 := Lib.hid hG2; clear hG2
    go_wp2_with fail
    go_end0
    exact ⟨rfl, by rw [HIN.out (by have := M5.out; omega)]; exact HB2.out, HG2.out⟩
  · have hx := hx 65536 (by rw [hk]; decide)
    have m1 : (n : Int).tmod 8 = 2 := by rw [Int.tmod_eq_emod_of_nonneg n0]; omega
    have m2 : ((n : Int) + 1).tmod 8 = 3 := by rw [Int.tmod_eq_emod_of_nonneg (by omega)]; omega
    have m3 : n % 8 = 2 := hk
    have hw : IntKind.u64.wrap 16 = 16 := by kernel_rfl
    have m4 : (n : Int) % 8 = 2 := by omega
    have m5 : (n + 1) % 8 = 3 := by omega
    have M5 := Lib.hid m5; clear m5
    clear hk
    go_enter Try.func55, Try.ntmps55
    go_upto_region 0 with fail
    refine wp_region_still_tail 16 (by kernel_rfl) (by kernel_rfl) ?_
    simp only [List.take_succ_cons, List.take_zero, List.drop_succ_cons, List.drop_zero]
    change wpStill _ _ w.drew _ _ _
    repeat still_step
    refine wpStill_nil ?_
    change wpList _ _ _ _ _ w.drew
    go_upto_region 1 with fail
    have hB1 : Blk (w.setCell ⟨g, 4, none⟩ (.int .u64 (r2 : Int))).drew g 113 #[wv a, wv b, wv c, wv d, .int .u64 (r2 : Int), .int .u64 (n : Int)] := Blk.set HB.out 4 (.int .u64 (r2 : Int))
    have hG1 : w.grownBy (w.setCell ⟨g, 4, none⟩ (.int .u64 (r2 : Int))).drew (some g) := g_drew (g_set HG.out (.inl rfl) _)
    generalize (w.setCell ⟨g, 4, none⟩ (.int .u64 (r2 : Int))).drew = v1 at hB1 hG1 ⊢
    clear fz k4 k5 HB HG hx m1 m3 m4 hw hy
    have fz := hB1.frozen
    have k5 : v1.cell? ⟨g, 5, none⟩ = some (.int .u64 (n : Int)) := by rw [hB1.cell]; rfl
    have HB1 := Lib.hid hB1; clear hB1
    have HG1 := Lib.hid hG1; clear hG1
    go_upto_region 2 with fail
    have hB2 : Blk (v1.setCell ⟨g, 5, none⟩ (.int .u64 ((n : Int) + 1))) g 113 #[wv a, wv b, wv c, wv d, .int .u64 (r2 : Int), .int .u64 ((n : Int) + 1)] := Blk.set HB1.out 5 (.int .u64 ((n : Int) + 1))
    have hG2 : w.grownBy (v1.setCell ⟨g, 5, none⟩ (.int .u64 ((n : Int) + 1))) (some g) := g_set HG1.out (.inl rfl) _
    generalize (v1.setCell ⟨g, 5, none⟩ (.int .u64 ((n : Int) + 1))) = v2 at hB2 hG2 ⊢
    clear fz k5 HB1 HG1
    have fz := hB2.frozen
    have k4 : v2.cell? ⟨g, 4, none⟩ = some (.int .u64 (r2 : Int)) := by rw [hB2.cell]; rfl
    have k5 : v2.cell? ⟨g, 5, none⟩ = some (.int .u64 ((n : Int) + 1)) := by rw [hB2.cell]; rfl
    have HB2 := Lib.hid hB2; clear hB2
    have HG2 := Lib.hid hG2; clear hG2
    go_wp2_with fail
    go_end0
    exact ⟨rfl, by rw [HIN.out (by have := M5.out; omega)]; exact HB2.out, HG2.out⟩
  · have hx := hx 16777216 (by rw [hk]; decide)
    have m1 : (n : Int).tmod 8 = 3 := by rw [Int.tmod_eq_emod_of_nonneg n0]; omega
    have m2 : ((n : Int) + 1).tmod 8 = 4 := by rw [Int.tmod_eq_emod_of_nonneg (by omega)]; omega
    have m3 : n % 8 = 3 := hk
    have hw : IntKind.u64.wrap 24 = 24 := by kernel_rfl
    have m4 : (n : Int) % 8 = 3 := by omega
    have m5 : (n + 1) % 8 = 4 := by omega
    have M5 := Lib.hid m5; clear m5
    clear hk
    go_enter Try.func55, Try.ntmps55
    go_upto_region 0 with fail
    refine wp_region_still_tail 16 (by kernel_rfl) (by kernel_rfl) ?_
    simp only [List.take_succ_cons, List.take_zero, List.drop_succ_cons, List.drop_zero]
    change wpStill _ _ w.drew _ _ _
    repeat still_step
    refine wpStill_nil ?_
    change wpList _ _ _ _ _ w.drew
    go_upto_region 1 with fail
    have hB1 : Blk (w.setCell ⟨g, 4, none⟩ (.int .u64 (r2 : Int))).drew g 113 #[wv a, wv b, wv c, wv d, .int .u64 (r2 : Int), .int .u64 (n : Int)] := Blk.set HB.out 4 (.int .u64 (r2 : Int))
    have hG1 : w.grownBy (w.setCell ⟨g, 4, none⟩ (.int .u64 (r2 : Int))).drew (some g) := g_drew (g_set HG.out (.inl rfl) _)
    generalize (w.setCell ⟨g, 4, none⟩ (.int .u64 (r2 : Int))).drew = v1 at hB1 hG1 ⊢
    clear fz k4 k5 HB HG hx m1 m3 m4 hw hy
    have fz := hB1.frozen
    have k5 : v1.cell? ⟨g, 5, none⟩ = some (.int .u64 (n : Int)) := by rw [hB1.cell]; rfl
    have HB1 := Lib.hid hB1; clear hB1
    have HG1 := Lib.hid hG1; clear hG1
    go_upto_region 2 with fail
    have hB2 : Blk (v1.setCell ⟨g, 5, none⟩ (.int .u64 ((n : Int) + 1))) g 113 #[wv a, wv b, wv c, wv d, .int .u64 (r2 : Int), .int .u64 ((n : Int) + 1)] := Blk.set HB1.out 5 (.int .u64 ((n : Int) + 1))
    have hG2 : w.grownBy (v1.setCell ⟨g, 5, none⟩ (.int .u64 ((n : Int) + 1))) (some g) := g_set HG1.out (.inl rfl) _
    generalize (v1.setCell ⟨g, 5, none⟩ (.int .u64 ((n : Int) + 1))) = v2 at hB2 hG2 ⊢
    clear fz k5 HB1 HG1
    have fz := hB2.frozen
    have k4 : v2.cell? ⟨g, 4, none⟩ = some (.int .u64 (r2 : Int)) := by rw [hB2.cell]; rfl
    have k5 : v2.cell? ⟨g, 5, none⟩ = some (.int .u64 ((n : Int) + 1)) := by rw [hB2.cell]; rfl
    have HB2 := Lib.hid hB2; clear hB2
    have HG2 := Lib.hid hG2; clear hG2
    go_wp2_with fail
    go_end0
    exact ⟨rfl, by rw [HIN.out (by have := M5.out; omega)]; exact HB2.out, HG2.out⟩
  · have hx := hx 4294967296 (by rw [hk]; decide)
    have m1 : (n : Int).tmod 8 = 4 := by rw [Int.tmod_eq_emod_of_nonneg n0]; omega
    have m2 : ((n : Int) + 1).tmod 8 = 5 := by rw [Int.tmod_eq_emod_of_nonneg (by omega)]; omega
    have m3 : n % 8 = 4 := hk
    have hw : IntKind.u64.wrap 32 = 32 := by kernel_rfl
    have m4 : (n : Int) % 8 = 4 := by omega
    have m5 : (n + 1) % 8 = 5 := by omega
    have M5 := Lib.hid m5; clear m5
    clear hk
    go_enter Try.func55, Try.ntmps55
    go_upto_region 0 with fail
    refine wp_region_still_tail 16 (by kernel_rfl) (by kernel_rfl) ?_
    simp only [List.take_succ_cons, List.take_zero, List.drop_succ_cons, List.drop_zero]
    change wpStill _ _ w.drew _ _ _
    repeat still_step
    refine wpStill_nil ?_
    change wpList _ _ _ _ _ w.drew
    go_upto_region 1 with fail
    have hB1 : Blk (w.setCell ⟨g, 4, none⟩ (.int .u64 (r2 : Int))).drew g 113 #[wv a, wv b, wv c, wv d, .int .u64 (r2 : Int), .int .u64 (n : Int)] := Blk.set HB.out 4 (.int .u64 (r2 : Int))
    have hG1 : w.grownBy (w.setCell ⟨g, 4, none⟩ (.int .u64 (r2 : Int))).drew (some g) := g_drew (g_set HG.out (.inl rfl) _)
    generalize (w.setCell ⟨g, 4, none⟩ (.int .u64 (r2 : Int))).drew = v1 at hB1 hG1 ⊢
    clear fz k4 k5 HB HG hx m1 m3 m4 hw hy
    have fz := hB1.frozen
    have k5 : v1.cell? ⟨g, 5, none⟩ = some (.int .u64 (n : Int)) := by rw [hB1.cell]; rfl
    have HB1 := Lib.hid hB1; clear hB1
    have HG1 := Lib.hid hG1; clear hG1
    go_upto_region 2 with fail
    have hB2 : Blk (v1.setCell ⟨g, 5, none⟩ (.int .u64 ((n : Int) + 1))) g 113 #[wv a, wv b, wv c, wv d, .int .u64 (r2 : Int), .int .u64 ((n : Int) + 1)] := Blk.set HB1.out 5 (.int .u64 ((n : Int) + 1))
    have hG2 : w.grownBy (v1.setCell ⟨g, 5, none⟩ (.int .u64 ((n : Int) + 1))) (some g) := g_set HG1.out (.inl rfl) _
    generalize (v1.setCell ⟨g, 5, none⟩ (.int .u64 ((n : Int) + 1))) = v2 at hB2 hG2 ⊢
    clear fz k5 HB1 HG1
    have fz := hB2.frozen
    have k4 : v2.cell? ⟨g, 4, none⟩ = some (.int .u64 (r2 : Int)) := by rw [hB2.cell]; rfl
    have k5 : v2.cell? ⟨g, 5, none⟩ = some (.int .u64 ((n : Int) + 1)) := by rw [hB2.cell]; rfl
    have HB2 := Lib.hid hB2; clear hB2
    have HG2 := Lib.hid hG2; clear hG2
    go_wp2_with fail
    go_end0
    exact ⟨rfl, by rw [HIN.out (by have := M5.out; omega)]; exact HB2.out, HG2.out⟩
  · have hx := hx 1099511627776 (by rw [hk]; decide)
    have m1 : (n : Int).tmod 8 = 5 := by rw [Int.tmod_eq_emod_of_nonneg n0]; omega
    have m2 : ((n : Int) + 1).tmod 8 = 6 := by rw [Int.tmod_eq_emod_of_nonneg (by omega)]; omega
    have m3 : n % 8 = 5 := hk
    have hw : IntKind.u64.wrap 40 = 40 := by kernel_rfl
    have m4 : (n : Int) % 8 = 5 := by omega
    have m5 : (n + 1) % 8 = 6 := by omega
    have M5 := Lib.hid m5; clear m5
    clear hk
    go_enter Try.func55, Try.ntmps55
    go_upto_region 0 with fail
    refine wp_region_still_tail 16 (by kernel_rfl) (by kernel_rfl) ?_
    simp only [List.take_succ_cons, List.take_zero, List.drop_succ_cons, List.drop_zero]
    change wpStill _ _ w.drew _ _ _
    repeat still_step
    refine wpStill_nil ?_
    change wpList _ _ _ _ _ w.drew
    go_upto_region 1 with fail
    have hB1 : Blk (w.setCell ⟨g, 4, none⟩ (.int .u64 (r2 : Int))).drew g 113 #[wv a, wv b, wv c, wv d, .int .u64 (r2 : Int), .int .u64 (n : Int)] := Blk.set HB.out 4 (.int .u64 (r2 : Int))
    have hG1 : w.grownBy (w.setCell ⟨g, 4, none⟩ (.int .u64 (r2 : Int))).drew (some g) := g_drew (g_set HG.out (.inl rfl) _)
    generalize (w.setCell ⟨g, 4, none⟩ (.int .u64 (r2 : Int))).drew = v1 at hB1 hG1 ⊢
    clear fz k4 k5 HB HG hx m1 m3 m4 hw hy
    have fz := hB1.frozen
    have k5 : v1.cell? ⟨g, 5, none⟩ = some (.int .u64 (n : Int)) := by rw [hB1.cell]; rfl
    have HB1 := Lib.hid hB1; clear hB1
    have HG1 := Lib.hid hG1; clear hG1
    go_upto_region 2 with fail
    have hB2 : Blk (v1.setCell ⟨g, 5, none⟩ (.int .u64 ((n : Int) + 1))) g 113 #[wv a, wv b, wv c, wv d, .int .u64 (r2 : Int), .int .u64 ((n : Int) + 1)] := Blk.set HB1.out 5 (.int .u64 ((n : Int) + 1))
    have hG2 : w.grownBy (v1.setCell ⟨g, 5, none⟩ (.int .u64 ((n : Int) + 1))) (some g) := g_set HG1.out (.inl rfl) _
    generalize (v1.setCell ⟨g, 5, none⟩ (.int .u64 ((n : Int) + 1))) = v2 at hB2 hG2 ⊢
    clear fz k5 HB1 HG1
    have fz := hB2.frozen
    have k4 : v2.cell? ⟨g, 4, none⟩ = some (.int .u64 (r2 : Int)) := by rw [hB2.cell]; rfl
    have k5 : v2.cell? ⟨g, 5, none⟩ = some (.int .u64 ((n : Int) + 1)) := by rw [hB2.cell]; rfl
    have HB2 := Lib.hid hB2; clear hB2
    have HG2 := Lib.hid hG2; clear hG2
    go_wp2_with fail
    go_end0
    exact ⟨rfl, by rw [HIN.out (by have := M5.out; omega)]; exact HB2.out, HG2.out⟩
  · have hx := hx 281474976710656 (by rw [hk]; decide)
    have m1 : (n : Int).tmod 8 = 6 := by rw [Int.tmod_eq_emod_of_nonneg n0]; omega
    have m2 : ((n : Int) + 1).tmod 8 = 7 := by rw [Int.tmod_eq_emod_of_nonneg (by omega)]; omega
    have m3 : n % 8 = 6 := hk
    have hw : IntKind.u64.wrap 48 = 48 := by kernel_rfl
    have m4 : (n : Int) % 8 = 6 := by omega
    have m5 : (n + 1) % 8 = 7 := by omega
    have M5 := Lib.hid m5; clear m5
    clear hk
    go_enter Try.func55, Try.ntmps55
    go_upto_region 0 with fail
    refine wp_region_still_tail 16 (by kernel_rfl) (by kernel_rfl) ?_
    simp only [List.take_succ_cons, List.take_zero, List.drop_succ_cons, List.drop_zero]
    change wpStill _ _ w.drew _ _ _
    repeat still_step
    refine wpStill_nil ?_
    change wpList _ _ _ _ _ w.drew
    go_upto_region 1 with fail
    have hB1 : Blk (w.setCell ⟨g, 4, none⟩ (.int .u64 (r2 : Int))).drew g 113 #[wv a, wv b, wv c, wv d, .int .u64 (r2 : Int), .int .u64 (n : Int)] := Blk.set HB.out 4 (.int .u64 (r2 : Int))
    have hG1 : w.grownBy (w.setCell ⟨g, 4, none⟩ (.int .u64 (r2 : Int))).drew (some g) := g_drew (g_set HG.out (.inl rfl) _)
    generalize (w.setCell ⟨g, 4, none⟩ (.int .u64 (r2 : Int))).drew = v1 at hB1 hG1 ⊢
    clear fz k4 k5 HB HG hx m1 m3 m4 hw hy
    have fz := hB1.frozen
    have k5 : v1.cell? ⟨g, 5, none⟩ = some (.int .u64 (n : Int)) := by rw [hB1.cell]; rfl
    have HB1 := Lib.hid hB1; clear hB1
    have HG1 := Lib.hid hG1; clear hG1
    go_upto_region 2 with fail
    have hB2 : Blk (v1.setCell ⟨g, 5, none⟩ (.int .u64 ((n : Int) + 1))) g 113 #[wv a, wv b, wv c, wv d, .int .u64 (r2 : Int), .int .u64 ((n : Int) + 1)] := Blk.set HB1.out 5 (.int .u64 ((n : Int) + 1))
    have hG2 : w.grownBy (v1.setCell ⟨g, 5, none⟩ (.int .u64 ((n : Int) + 1))) (some g) := g_set HG1.out (.inl rfl) _
    generalize (v1.setCell ⟨g, 5, none⟩ (.int .u64 ((n : Int) + 1))) = v2 at hB2 hG2 ⊢
    clear fz k5 HB1 HG1
    have fz := hB2.frozen
    have k4 : v2.cell? ⟨g, 4, none⟩ = some (.int .u64 (r2 : Int)) := by rw [hB2.cell]; rfl
    have k5 : v2.cell? ⟨g, 5, none⟩ = some (.int .u64 ((n : Int) + 1)) := by rw [hB2.cell]; rfl
    have HB2 := Lib.hid hB2; clear hB2
    have HG2 := Lib.hid hG2; clear hG2
    go_wp2_with fail
    go_end0
    exact ⟨rfl, by rw [HIN.out (by have := M5.out; omega)]; exact HB2.out, HG2.out⟩
  · have hx := hx 72057594037927936 (by rw [hk]; decide)
    have m1 : (n : Int).tmod 8 = 7 := by rw [Int.tmod_eq_emod_of_nonneg n0]; omega
    have m2 : ((n : Int) + 1).tmod 8 = 0 := by rw [Int.tmod_eq_emod_of_nonneg (by omega)]; omega
    have m3 : n % 8 = 7 := hk
    have hw : IntKind.u64.wrap 56 = 56 := by kernel_rfl
    have m4 : (n : Int) % 8 = 7 := by omega
    have m5 : (n + 1) % 8 = 0 := by omega
    have M5 := Lib.hid m5; clear m5
    clear hk
    go_enter Try.func55, Try.ntmps55
    go_upto_region 0 with fail
    refine wp_region_still_tail 16 (by kernel_rfl) (by kernel_rfl) ?_
    simp only [List.take_succ_cons, List.take_zero, List.drop_succ_cons, List.drop_zero]
    change wpStill _ _ w.drew _ _ _
    repeat still_step
    refine wpStill_nil ?_
    change wpList _ _ _ _ _ w.drew
    go_upto_region 1 with fail
    have hB1 : Blk (w.setCell ⟨g, 4, none⟩ (.int .u64 (r2 : Int))).drew g 113 #[wv a, wv b, wv c, wv d, .int .u64 (r2 : Int), .int .u64 (n : Int)] := Blk.set HB.out 4 (.int .u64 (r2 : Int))
    have hG1 : w.grownBy (w.setCell ⟨g, 4, none⟩ (.int .u64 (r2 : Int))).drew (some g) := g_drew (g_set HG.out (.inl rfl) _)
    generalize (w.setCell ⟨g, 4, none⟩ (.int .u64 (r2 : Int))).drew = v1 at hB1 hG1 ⊢
    clear fz k4 k5 HB HG hx m1 m3 m4 hw hy
    have fz := hB1.frozen
    have k5 : v1.cell? ⟨g, 5, none⟩ = some (.int .u64 (n : Int)) := by rw [hB1.cell]; rfl
    have HB1 := Lib.hid hB1; clear hB1
    have HG1 := Lib.hid hG1; clear hG1
    go_upto_region 2 with fail
    have hB2 : Blk (v1.setCell ⟨g, 5, none⟩ (.int .u64 ((n : Int) + 1))) g 113 #[wv a, wv b, wv c, wv d, .int .u64 (r2 : Int), .int .u64 ((n : Int) + 1)] := Blk.set HB1.out 5 (.int .u64 ((n : Int) + 1))
    have hG2 : w.grownBy (v1.setCell ⟨g, 5, none⟩ (.int .u64 ((n : Int) + 1))) (some g) := g_set HG1.out (.inl rfl) _
    generalize (v1.setCell ⟨g, 5, none⟩ (.int .u64 ((n : Int) + 1))) = v2 at hB2 hG2 ⊢
    clear fz k5 HB1 HG1
    have fz := hB2.frozen
    have k4 : v2.cell? ⟨g, 4, none⟩ = some (.int .u64 (r2 : Int)) := by rw [hB2.cell]; rfl
    have k5 : v2.cell? ⟨g, 5, none⟩ = some (.int .u64 ((n : Int) + 1)) := by rw [hB2.cell]; rfl
    have HB2 := Lib.hid hB2; clear hB2
    have HG2 := Lib.hid hG2; clear hG2
    have c1 := addWord_any g ⟨a, b, c, d⟩ (.int .u64 (r2 : Int)) (.int .u64 ((n : Int) + 1)) (wd r2) v2 HB2.out
    rw [wv, wd_nat r2 HR2.out] at c1
    go_wp2_with (go_at_call 68; refine Calls.mono c1 ?_; rintro e v3 ⟨rfl, hB3, hG3⟩; clear c1; have k4 : v3.cell? ⟨g, 4, none⟩ = some (.int .u64 (r2 : Int)) := by { rw [hB3.cell]; rfl }; have fz := hB3.frozen; have HB3 := Lib.hid hB3; have HG3 := Lib.hid hG3; clear hB3 hG3)
    go_end0
    exact ⟨rfl, by rw [HEND.out M5.out]; exact Blk.set HB3.out 4 (.int .u64 0), g_set (World.grownBy.trans HG2.out HG3.out) (.inl rfl) _⟩

theorem lastW_nat (s : St) (hr : s.r < 72057594037927936) : (lastW s).toNat = s.r + s.n % 256 * 72057594037927936 := wd_nat _ (by omega)
set_option maxRecDepth 100000 in
set_option maxHeartbeats 3200000 in
theorem end_any (g : Nat) (s : St) (w : World) (hr : s.r < 72057594037927936) (hB : Blk w g 113 (stc s)) :
    Calls Try.prog 56 #[.pointer (some ⟨g, 0, none⟩)] w fun e w' => e = .returned (wv (finS s)) ∧ w.grownBy w' (some g) := by
  have hl := lastW_nat s hr
  have hx := or_count s.r s.n hr
  rw [← hl, ← IntKind.wrap_u64] at hx
  obtain ⟨lw, el⟩ : ∃ x, x = lastW s := ⟨_, rfl⟩
  obtain ⟨⟨a, b, c, d⟩, e1⟩ : ∃ t, t = addM s.v lw := ⟨_, rfl⟩
  obtain ⟨c1, ec⟩ : ∃ x, x = c ^^^ 255#64 := ⟨_, rfl⟩
  obtain ⟨⟨a2, b2, c2, d2⟩, e2⟩ : ∃ t, t = rnds 4 ⟨a, b, c1, d⟩ := ⟨_, rfl⟩
  obtain ⟨q1, eq1⟩ : ∃ x, x = a2 ^^^ b2 := ⟨_, rfl⟩
  obtain ⟨q2, eq2⟩ : ∃ x, x = q1 ^^^ c2 := ⟨_, rfl⟩
  obtain ⟨q3, eq3⟩ : ∃ x, x = q2 ^^^ d2 := ⟨_, rfl⟩
  have hall : finS s = q3 := by rw [finS, ← el, ← e1, fin, ← ec, ← e2, allX, ← eq1, ← eq2, ← eq3]
  have x0 : bits .xor .u64 (c.toNat : Int) 255 = (c1.toNat : Int) := by rw [ec]; exact xor_w c 255#64
  have x1 : bits .xor .u64 (a2.toNat : Int) (b2.toNat : Int) = (q1.toNat : Int) := by rw [eq1]; exact xor_w _ _
  have x2 : bits .xor .u64 (q1.toNat : Int) (c2.toNat : Int) = (q2.toNat : Int) := by rw [eq2]; exact xor_w _ _
  have x3 : bits .xor .u64 (q2.toNat : Int) (d2.toNat : Int) = (q3.toNat : Int) := by rw [eq3]; exact xor_w _ _
  rw [← el] at hx
  obtain ⟨v, r, n⟩ := s
  have hx : bits .or .u64 (r : Int) (IntKind.u64.wrap ((n : Int) * 72057594037927936)) = (lw.toNat : Int) := hx
  have e1 : ⟨a, b, c, d⟩ = addM v lw := e1
  have ca := addWord_any g v (.int .u64 (r : Int)) (.int .u64 (n : Int)) lw w.drew (Blk.drewN hB 1)
  rw [← e1] at ca
  have HALL := Lib.hid hall; clear hall
  have E2 := Lib.hid e2; clear e2
  have k4 : w.cell? ⟨g, 4, none⟩ = some (.int .u64 (r : Int)) := by rw [hB.cell]; rfl
  have k5 : w.cell? ⟨g, 5, none⟩ = some (.int .u64 (n : Int)) := by rw [hB.cell]; rfl
  have fz := hB.frozen
  have HX0 := Lib.hid x0; clear x0
  have HX1 := Lib.hid x1; clear x1
  have HX2 := Lib.hid x2; clear x2
  have HX3 := Lib.hid x3; clear x3
  clear el e1 ec eq1 eq2 eq3 hl hr hB
  go_enter Try.func56, Try.ntmps56
  go_upto_region 1 with fail
  refine wp_region_still_tail 11 (by kernel_rfl) (by kernel_rfl) ?_
  simp only [List.take_succ_cons, List.take_zero, List.drop_succ_cons, List.drop_zero]
  change wpStill _ _ w.drew _ _ _
  repeat still_step
  refine wpStill_nil ?_
  change wpList _ _ _ _ _ w.drew
  clear hx k4 k5 fz
  go_upto_region 2 with (go_at_call 68; refine Calls.mono ca ?_; rintro e v1 ⟨rfl, hB1, hG1⟩; clear ca; have hG1 : w.grownBy v1 (some g) := ⟨hG1.os, hG1.tape, hG1.output, hG1.size, hG1.block⟩; have k2 : v1.cell? ⟨g, 2, none⟩ = some (.int .u64 (c.toNat : Int)) := by { rw [hB1.cell]; rfl }; have fz := hB1.frozen; have HB1 := Lib.hid hB1; have HG1 := Lib.hid hG1; clear hB1 hG1)
  have x0 := HX0.out
  clear HX0
  go_upto_region 3 with fail
  have hB2 : Blk (v1.setCell ⟨g, 2, none⟩ (.int .u64 (c1.toNat : Int))) g 113 #[wv a, wv b, wv c1, wv d, .int .u64 (r : Int), .int .u64 (n : Int)] := Blk.set HB1.out 2 (wv c1)
  have hG2 : w.grownBy (v1.setCell ⟨g, 2, none⟩ (.int .u64 (c1.toNat : Int))) (some g) := g_set HG1.out (.inl rfl) _
  generalize (v1.setCell ⟨g, 2, none⟩ (.int .u64 (c1.toNat : Int))) = v2 at hB2 hG2 ⊢
  have c1' := rounds_any g 4 ⟨a, b, c1, d⟩ (.int .u64 (r : Int)) (.int .u64 (n : Int)) v2 (by decide) hB2
  rw [← E2.out] at c1'
  have HG2 := Lib.hid hG2
  clear hB2 hG2 fz k2 HB1 HG1 x0
  go_upto_region 4 with (go_at_call 69; refine Calls.mono c1' ?_; rintro e v3 ⟨rfl, hB3, hG3⟩; clear c1'; have HB3 := Lib.hid hB3; have HG3 := Lib.hid hG3; clear hB3 hG3)
  have k0 : v3.cell? ⟨g, 0, none⟩ = some (.int .u64 (a2.toNat : Int)) := by rw [HB3.out.cell]; rfl
  have k1 : v3.cell? ⟨g, 1, none⟩ = some (.int .u64 (b2.toNat : Int)) := by rw [HB3.out.cell]; rfl
  have k2 : v3.cell? ⟨g, 2, none⟩ = some (.int .u64 (c2.toNat : Int)) := by rw [HB3.out.cell]; rfl
  have k3 : v3.cell? ⟨g, 3, none⟩ = some (.int .u64 (d2.toNat : Int)) := by rw [HB3.out.cell]; rfl
  have x1 := HX1.out
  have x2 := HX2.out
  have x3 := HX3.out
  refine wp_region_still_lit (by kernel_rfl) (by kernel_rfl) ?_
  change wpStill _ _ v3.drew _ _ _
  repeat still_step
  refine wpStill_nil ?_
  try change _ v3.drew
  go_wp2_with fail
  go_ret
  exact ⟨by rw [HALL.out]; rfl, g_drew (World.grownBy.trans HG2.out HG3.out)⟩
end Go.Proofs.Ytcjibpjdfhhhkaa.Si
