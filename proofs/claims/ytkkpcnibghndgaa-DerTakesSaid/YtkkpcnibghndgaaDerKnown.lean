/-
  The small self-test that every law of chapter 1 ends with answers true, and turns nothing that was there.
-/
import Derived.Test.YtkkpcnibghndgaaDerCur3
import Derived.Test.YtkkpcnibghndgaaDerLay3
namespace Go.Proofs.Ytkkpcnibghndgaa.DerK
open Go.RowKit Go.Proofs.Ytkkpcnibghndgaa.Mem Go.Proofs.Ytkkpcnibghndgaa.DerP
attribute [local go_sem] mk_at List.getElem_cons_zero List.getElem_cons_succ

/-- what a row of the call's own with bytes in it is -/
theorem own_slice {w : World} {base n : Nat} {t : TypeId} {v : Value} {l : L} (h : w.ownsRow base t 1 v n (bvs l)) (hl : 0 < l.length) :
    ∃ g cap, v = .slice (some ⟨g, 0, none⟩) l.length cap ∧ base ≤ g ∧ l.length ≤ cap ∧ Rd w w.heap.size (some ⟨g, 0, none⟩) (bvs l) := by
  have hn : n = l.length := by have := h.1; rw [bvs_length] at this; omega
  subst hn
  rcases h.2 with ⟨_, h2⟩ | ⟨g, cap, cur, rfl, hg, _, hc, _⟩
  · omega
  · exact ⟨g, cap, rfl, hg, hc, Rd.of_own h⟩

theorem enc128 : encI 128 = [2, 2, 0, 128] := by decide +kernel
theorem int128 : intC (some [2, 2, 0, 128]) = (128, some []) := by decide +kernel

set_option maxHeartbeats 400000 in
theorem known_any (w : World) : Calls Try.prog 22 #[] w fun e w' => e = .returned (.bool true) ∧ Below w.heap.size w w' := by
  have hop : ∀ W, Calls Try.prog 23 #[.slice (some ⟨W.heap.size, 0, none⟩) 4 4] (W.alloc (.cells #[.int .u8 2, .int .u8 2, .int .u8 0, .int .u8 128] 5)) fun e w' =>
      ∃ g', e = .returned (.pointer (some ⟨g', 0, none⟩)) ∧ W.heap.size ≤ g' ∧ DerC.Cur w' g' (some [2, 2, 0, 128]) ∧ Below W.heap.size W w' := by
    intro W
    refine (DerC.open_any _ _ [2, 2, 0, 128] 4 4 _ (DerW.rd_lit W 5 _ [2, 2, 0, 128] (by simp [bvs, bv]) _ rfl) rfl).mono ?_
    rintro e w' ⟨g', rfl, hg, hc, hb⟩
    exact ⟨g', rfl, by simp at hg; omega, hc, ((Below.refl _ W).alloc (Nat.le_refl _) _).trans (hb.mono (by simp))⟩
  have HO := Lib.hid hop; clear hop
  go_enter Try.func22, Try.ntmps22
  go_wp2_with (first
    | (go_at_call 23; refine (HO.out _).mono ?_; rintro e w1 ⟨g, rfl, hg, hc, hb1⟩)
    | (go_at_call 14; refine (DerW.int_any 128 w1).mono ?_; rintro e w2 ⟨v, rfl, hown, hb2⟩
       rw [enc128] at hown
       obtain ⟨g2, cap2, rfl, hg2, hcap2, hrd⟩ := DerK.own_slice hown (by simp)
       have hcv := run_bytes_str (P := Try.prog) w2 22 5 Try.underlying22 Try.underlying5 hrd 4 cap2 rfl 9 Try.underlying9
       have hc2 := hc.below hb2)
    | (go_at_call 24; refine (DerC.int_any g _ w2 hc2 (by simp)).mono ?_; rintro e w3 ⟨rfl, hc3, hg3⟩
       rw [int128] at hc3
       have hi := congrArg (fun p => (p.1 : Int)) int128)
    | (go_at_call 33; refine (DerC.whole_any g _ w3 hc3).mono ?_; rintro e w4 ⟨rfl, rfl⟩))
  go_ret
  have b12 := hb1.trans (hb2.mono hb1.size)
  exact ⟨rfl, below_g b12 hg3 b12.size hg⟩

end Go.Proofs.Ytkkpcnibghndgaa.DerK
