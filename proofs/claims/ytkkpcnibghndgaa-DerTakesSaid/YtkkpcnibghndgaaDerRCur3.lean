/-
  The document's own Cursor of chapter 1: 'take', all ways together.
-/
import Derived.Test.YtkkpcnibghndgaaDerRCur2
set_option linter.unusedVariables false
namespace Go.Proofs.Ytkkpcnibghndgaa.DerR
open Go.RowKit Go.Proofs.Ytkkpcnibghndgaa.Mem Go.Proofs.Ytkkpcnibghndgaa.DerP

theorem rtake_any (t : UInt8) (B g : Nat) (w : World) (c : Option L) (h : RC w B g c) (hB : B ≤ w.heap.size) (hBg : B ≤ g) (hu : (c.getD []).length ≤ 100000) :
    Calls Try.prog 42 #[.pointer (some ⟨g, 0, none⟩), .int .u8 t.toNat] w (Took w B g t c) := by
  cases c with
  | none => exact rtake_none t B g w h
  | some l =>
    obtain ⟨A, n, cap, e, hb, rfl, hn, hc, hr⟩ := h
    rw [Option.getD_some] at hu
    match l, hn, hr, hu with
    | [], hn, hr, hu => subst hn; exact rtake_short t B g A cap [] w hb (by simp)
    | [a], hn, hr, hu => subst hn; exact rtake_short t B g A cap [a] w hb (by simp)
    | a :: x :: r, hn, hr, hu =>
      have hu' : n ≤ 100000 := by rw [hn]; exact hu
      by_cases hne : a = t
      · subst hne
        by_cases h1 : x.toNat < 128
        · by_cases hf : x.toNat ≤ r.length
          · exact rtake_small_ok B g A n cap a x r w hb hn hc hr hB hBg hu' h1 hf
          · exact rtake_small_no B g A n cap a x r w hb hn hc hr hB hBg hu' h1 hf
        · by_cases h2 : x.toNat = 129
          · match r, hn, hr with
            | [], hn, hr => exact rtake_129_nil B g A n cap a x w hb hn hc hr hB hBg hu' h2
            | y :: q, hn, hr =>
              by_cases hf : y.toNat ≤ q.length
              · by_cases hy : y.toNat < 128
                · exact rtake_129_long B g A n cap a x y q w hb hn hc hr hB hBg hu' h2 hf hy
                · exact rtake_129_ok B g A n cap a x y q w hb hn hc hr hB hBg hu' h2 hf hy
              · exact rtake_129_no B g A n cap a x y q w hb hn hc hr hB hBg hu' h2 hf
          · by_cases h3 : x.toNat = 130
            · match r, hn, hr with
              | [], hn, hr => exact rtake_130_nil B g A n cap a x w hb hn hc hr hB hBg hu' h3
              | [y], hn, hr => exact rtake_130_one B g A n cap a x y w hb hn hc hr hB hBg hu' h3
              | y :: z :: q, hn, hr =>
                by_cases hf : y.toNat * 256 + z.toNat ≤ q.length
                · by_cases hy : y.toNat * 256 + z.toNat ≤ 255
                  · by_cases hy1 : y.toNat * 256 + z.toNat < 128
                    · exact rtake_130_l1 B g A n cap a x y z q w hb hn hc hr hB hBg hu' h3 hf hy1
                    · exact rtake_130_l2 B g A n cap a x y z q w hb hn hc hr hB hBg hu' h3 hf hy1 hy
                  · exact rtake_130_ok B g A n cap a x y z q w hb hn hc hr hB hBg hu' h3 hf hy
                · exact rtake_130_no B g A n cap a x y z q w hb hn hc hr hB hBg hu' h3 hf
            · exact rtake_else B g A n cap a x r w hb hn hc hr hB hBg hu' h1 h2 h3
      · exact rtake_tag B g A n cap t a x r w hb hn hc hr hB hBg hu' hne

end Go.Proofs.Ytkkpcnibghndgaa.DerR
