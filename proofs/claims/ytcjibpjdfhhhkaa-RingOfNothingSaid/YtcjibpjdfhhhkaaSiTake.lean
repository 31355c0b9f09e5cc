/-
  A word is taken in, the code's and the document's; a byte is added; the end.
-/
import Derived.Test.YtcjibpjdfhhhkaaSiRound
set_option linter.unusedVariables false
namespace Go.Proofs.Ytcjibpjdfhhhkaa.Si
open Go.RowKit Go.Proofs.Ytcjibpjdfhhhkaa.Mem

set_option maxRecDepth 100000 in
set_option maxHeartbeats 1600000 in
theorem addWord_any (g : Nat) (s : V) (R N : Value) (m : Wd) (w : World) (hB : Blk w g 113 (cells6 s R N)) :
    Calls Try.prog 68 #[.pointer (some ⟨g, 0, none⟩), wv m] w fun e w' => e = .returned (.tuple #[]) ∧ Blk w' g 113 (cells6 (addM s m) R N) ∧ w.grownBy w' (some g) := by
  obtain ⟨a, b, c, d⟩ := s
  obtain ⟨d1, ed⟩ : ∃ x, x = d ^^^ m := ⟨_, rfl⟩
  obtain ⟨⟨a2, b2, c2, d2⟩, e2⟩ : ∃ t, t = rnds 2 ⟨a, b, c, d1⟩ := ⟨_, rfl⟩
  obtain ⟨a3, ea⟩ : ∃ x, x = a2 ^^^ m := ⟨_, rfl⟩
  have hall : addM ⟨a, b, c, d⟩ m = ⟨a3, b2, c2, d2⟩ := by simp only [addM, ← ed, ← e2, ← ea]
  have x1 : bits .xor .u64 (d.toNat : Int) (m.toNat : Int) = (d1.toNat : Int) := by rw [ed]; exact xor_w _ _
  have x2 : bits .xor .u64 (a2.toNat : Int) (m.toNat : Int) = (a3.toNat : Int) := by rw [ea]; exact xor_w _ _
  have HALL := Lib.hid hall; clear hall
  have E2 := Lib.hid e2; clear e2
  clear ed ea
  have fz := hB.frozen
  have k3 : w.cell? ⟨g, 3, none⟩ = some (.int .u64 (d.toNat : Int)) := by rw [hB.cell]; rfl
  have HB := Lib.hid (show Blk w g 113 #[wv a, wv b, wv c, wv d, R, N] from hB); clear hB
  have HG := Lib.hid (World.grownBy.refl w (some g))
  go_enter Try.func68, Try.ntmps68
  go_upto_region 1 with fail
  have hB1 : Blk (w.setCell ⟨g, 3, none⟩ (.int .u64 (d1.toNat : Int))) g 113 #[wv a, wv b, wv c, wv d1, R, N] := Blk.set HB.out 3 (wv d1)
  have hG1 : w.grownBy (w.setCell ⟨g, 3, none⟩ (.int .u64 (d1.toNat : Int))) (some g) := g_set HG.out (.inl rfl) _
  generalize w.setCell ⟨g, 3, none⟩ (.int .u64 (d1.toNat : Int)) = v1 at hB1 hG1 ⊢
  have c1 := rounds_any g 2 ⟨a, b, c, d1⟩ R N v1 (by decide) hB1
  rw [← E2.out] at c1
  have HG1 := Lib.hid hG1
  clear hB1 hG1 fz k3 HB HG x1
  go_upto_region 2 with (go_at_call 69; refine Calls.mono c1 ?_; rintro e v2 ⟨rfl, hB2, hG2⟩; clear c1; have k0 : v2.cell? ⟨g, 0, none⟩ = some (.int .u64 (a2.toNat : Int)) := by { rw [hB2.cell]; rfl }; have fz2 := hB2.frozen; have HB2 := Lib.hid hB2; have HG2 := Lib.hid hG2; clear hB2 hG2)
  go_wp2_with fail
  go_end0
  exact ⟨rfl, by rw [HALL.out]; exact Blk.set HB2.out 0 (wv a3), g_set (World.grownBy.trans HG1.out HG2.out) (.inl rfl) _⟩

end Go.Proofs.Ytcjibpjdfhhhkaa.Si
