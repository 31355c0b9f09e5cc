/-
  The walk of the law on what stands behind an error: nothing is taken any more.
-/
import Derived.Test.YtkkpcnibghndgaaDerErred
set_option linter.unusedVariables false
namespace Go.Proofs.Ytkkpcnibghndgaa.DerL
open Go.RowKit Go.Proofs.Ytkkpcnibghndgaa.Mem Go.Proofs.Ytkkpcnibghndgaa.DerP

theorem enc_pos (n : Int) : 0 < (encI n).length := by simp [encI, elem]
theorem enc_small (n : Int) : (encI n).length ≤ 12 := by
  have h1 := encI_len n
  have h2 := length_szL (dig (clampN n)).length
  have h3 : (szL (dig (clampN n)).length).length ≤ 3 := by rw [h2]; split <;> (try split) <;> omega
  rw [encI, length_elem]; omega

set_option maxRecDepth 100000 in
set_option maxHeartbeats 1000000 in
theorem errs (A : Option Addr) (l : L) (c : Nat) (n : Int) (w : World) (hr : Rd w w.heap.size A (bvs l)) (hc : l.length ≤ c) (hm : c ≤ maxLen) (hn : (Lit.int .i64 n).wf = true) :
    Calls Try.prog 8 #[.slice A l.length c, .int .i64 n] w fun e w' => e = .returned (.bool true) ∧ Below w.heap.size w w' := by
  by_cases h1 : 500 < l.length
  · have g1 : decide ((500 : Int) < (l.length : Int)) = true := by simp; omega
    clear hr hc hm hn h1
    go_enter Try.func8, Try.ntmps8
    go_wp2
    go_ret
    exact ⟨rfl, Below.refl _ _⟩
  · have g1 : decide ((500 : Int) < (l.length : Int)) = false := by simp; omega
    by_cases h2 : n < 0
    · have g2 : decide (n < 0) = true := by simpa using h2
      clear hr hc hm hn h1 h2
      go_enter Try.func8, Try.ntmps8
      go_wp2
      go_ret
      exact ⟨rfl, Below.refl _ _⟩
    · have g2 : decide (n < 0) = false := by simpa using h2
      obtain ⟨i0, hi0, hz0, hs0, hb0⟩ := info_parts DerW.u8_info
      have H1 := Lib.hid h1
      have HR := Lib.hid hr
      have HE := Lib.hid (enc_small n)
      have HP := Lib.hid (enc_pos n)
      have hml := Lib.hid DerW.ml
      have HO := Lib.hid (DerC.enc_other n l 4 (by decide))
      clear hr hc hm hn h1 h2
      go_enter Try.func8, Try.ntmps8
      go_wp2_with (first
        | (go_at_call 14; refine (DerW.int_any n w).mono ?_; rintro e w1 ⟨v, rfl, hown, hb1⟩
           have HW := Lib.hid hown
           clear hown)
        | (at_builtin
           refine wpList_append_rd _ rfl (.tmp 15) (.tmp 16) 22 rfl w.heap.size 5 i0 _ 1 Try.underlying22 hi0 hz0 hs0 hb0 rfl v (encI n).length (bvs (encI n)) rfl HW.out w.heap.size A l.length c (bvs l) rfl (bvs_length l).symm (HR.out.below hb1) (bvs_one _) (hml.out _ (by have := HE.out; have := H1.out; omega)) (by have := HE.out; have := H1.out; omega) hb1.size ?_
           intro v2 w2 hown2 hg2 hat2
           rw [← bvs_append] at hown2
           have hb2 := hb1.grown hg2 hb1.size (fun k hk => (HW.out.lt k hk).1)
           obtain ⟨g2, cap2, rfl, hg2', hcap2, hrd2⟩ := DerK.own_slice hown2 (by rw [List.length_append]; have := HP.out; omega)
           clear hown2 hat2 hg2)
        | (go_at_call 23; refine (DerC.open_any _ _ _ _ _ _ hrd2 (by simp)).mono ?_; rintro e w3 ⟨g, rfl, hg, hcur, hb3⟩
           have hsz : (((some (encI n ++ l)).getD []).length : Int) ≤ 100000 := by
             have := HE.out; have := H1.out; simp only [Option.getD_some, List.length_append]; omega
           have HS := Lib.hid hsz
           clear hsz)
        | (go_at_call 26; refine (DerC.octets_none g _ _ hcur HS.out HO.out).mono ?_; rintro e w4 ⟨⟨b4, cap4, rfl⟩, hcur4, hg4⟩; clear hcur)
        | (go_at_call 32; refine (DerC.good_erred g _ hcur4).mono ?_; rintro e w' ⟨rfl, rfl⟩)
        | (go_at_call 24; refine (DerC.int_erred g _ hcur4).mono ?_; rintro e w5 ⟨rfl, hcur5, hg5⟩; clear hcur4)
        | (go_at_call 28; refine (DerC.text_erred g _ hcur5).mono ?_; rintro e w6 ⟨rfl, hcur6, hg6⟩; clear hcur5)
        | (go_at_call 26; refine (DerC.octets_none g none _ hcur6 (by simp) rfl).mono ?_; rintro e w7 ⟨⟨b7, cap7, rfl⟩, hcur7, hg7⟩; clear hcur6)
        | (go_at_call 35; refine (DerC.left_erred g _ hcur7).mono ?_; rintro e w' ⟨rfl, rfl⟩)
        | (go_at_call 33; refine (DerC.whole_erred g _ hcur7).mono ?_; rintro e w' ⟨rfl, rfl⟩)
        | (go_at_call 22; refine (DerK.known_any _).mono ?_; rintro e w8 ⟨rfl, hb8⟩))
      go_ret
      have hw : w.heap.size ≤ g := Nat.le_trans hb2.size hg
      exact ⟨rfl, bt (btg (btg (btg (btg (bt hb2 hb3) hg4 hw) hg5 hw) hg6 hw) hg7 hw) hb8⟩

end Go.Proofs.Ytkkpcnibghndgaa.DerL
