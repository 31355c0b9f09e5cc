/-
  The walk of the law on an element of another tag: it errs, and what was taken ahead stays taken.
-/
import Derived.Test.YtkkpcnibghndgaaDerLaw2
set_option linter.unusedVariables false
namespace Go.Proofs.Ytkkpcnibghndgaa.DerL
open Go.RowKit Go.Proofs.Ytkkpcnibghndgaa.Mem Go.Proofs.Ytkkpcnibghndgaa.DerP

theorem elem_empty (t u : UInt8) : bodyC u (some (elem t [])) = (if t = u then some [] else none) ∧ nextC u (some (elem t [])) = (if t = u then some [] else none) := by
  by_cases h : t = u
  · subst h
    have := split_elem t [] [] (by simp)
    rw [List.append_nil] at this
    rw [if_pos rfl]
    exact body_some this
  · rw [if_neg h]
    exact body_none (split_tag h)

theorem int_good (g : Nat) (n : Int) (r : L) (w : World) (h0 : 0 ≤ n) (h1 : n ≤ 4611686018427387904) (hr : r.length ≤ 65535) (h : DerC.Cur w g (some (encI n ++ r))) :
    Calls Try.prog 24 #[.pointer (some ⟨g, 0, none⟩)] w fun e w' => e = .returned (.int .i64 n) ∧ DerC.Cur w' g (some r) ∧ w.grownBy w' (some g) := by
  have hs : (((some (encI n ++ r)).getD []).length : Int) ≤ 100000 := by
    have := enc_small n
    simp only [Option.getD_some, List.length_append]; omega
  refine (DerC.int_any g _ w h hs).mono ?_
  rw [int_enc, clampN_of n h0 h1]
  rintro e w' ⟨rfl, h2, h3⟩
  exact ⟨by congr 2; omega, h2, h3⟩
theorem whole_end (g : Nat) (w : World) (h : DerC.Cur w g (some [])) : Calls Try.prog 33 #[.pointer (some ⟨g, 0, none⟩)] w fun e w' => e = .returned (.bool true) ∧ w = w' := DerC.whole_any g _ w h
theorem good_some (g : Nat) (s : L) (w : World) (h : DerC.Cur w g (some s)) : Calls Try.prog 32 #[.pointer (some ⟨g, 0, none⟩)] w fun e w' => e = .returned (.bool true) ∧ w = w' := DerC.good_any g _ w h
theorem into_end (t u : UInt8) (g : Nat) (w : World) (h : DerC.Cur w g (some (elem t []))) :
    Calls Try.prog 30 #[.pointer (some ⟨g, 0, none⟩), .int .u8 u.toNat] w fun e w' =>
      (∃ g', e = .returned (.pointer (some ⟨g', 0, none⟩)) ∧ w.heap.size ≤ g' ∧ DerC.Cur w' g' (if t = u then some [] else none)) ∧ DerC.Cur w' g (if t = u then some [] else none) ∧ w.grownBy w' (some g) := by
  refine (DerC.into_any u g _ w h (by rw [Option.getD_some, show (elem t []).length = 2 from rfl]; omega)).mono ?_
  obtain ⟨h1, h2⟩ := elem_empty t u
  rw [h1, h2]
  exact fun e w' hh => hh

set_option maxRecDepth 100000 in
set_option maxHeartbeats 1000000 in
theorem tags (t u : UInt8) (n : Int) (w : World) (hn : (Lit.int .i64 n).wf = true) :
    Calls Try.prog 11 #[.int .u8 t.toNat, .int .u8 u.toNat, .int .i64 n] w fun e w' => e = .returned (.bool true) ∧ Below w.heap.size w w' := by
  by_cases h2 : n < 0
  · have g2 : decide (n < 0) = true := by simpa using h2
    clear hn h2
    go_enter Try.func11, Try.ntmps11
    go_wp2
    go_ret
    exact ⟨rfl, Below.refl _ _⟩
  · have g2 : decide (n < 0) = false := by simpa using h2
    by_cases h3 : 4611686018427387904 < n
    · have g3 : decide (4611686018427387904 < n) = true := by simpa using h3
      clear hn h2 h3
      go_enter Try.func11, Try.ntmps11
      go_wp2
      go_ret
      exact ⟨rfl, Below.refl _ _⟩
    · have g3 : decide (4611686018427387904 < n) = false := by simpa using h3
      obtain ⟨i0, hi0, hz0, hs0, hb0⟩ := info_parts DerW.u8_info
      have HE := Lib.hid (enc_small n)
      have HP := Lib.hid (enc_pos n)
      have hml := Lib.hid DerW.ml
      have HN0 := Lib.hid (show 0 ≤ n by omega)
      have HN1 := Lib.hid (show n ≤ 4611686018427387904 by omega)
      have hte : (elem t []).length = 2 := rfl
      have hww : ∀ W : World, Calls Try.prog 20 #[.int .u8 t.toNat, .slice none 0 0] W fun e w' =>
          ∃ v, e = .returned v ∧ w'.ownsRow W.heap.size 5 1 v (elem t []).length (bvs (elem t [])) ∧ Below W.heap.size W w' := fun W => DerW.wrap_any t [] none 0 0 0 W (.inl rfl) rfl (Nat.zero_le _) (by simp) (by simp)
      have HW := Lib.hid hww
      have HT := Lib.hid hte
      clear hn h2 h3 hww hte
      by_cases htu : t = u
      · subst htu
        have hin := fun g w h => into_end t t g w h
        simp only [if_true] at hin
        have HInto := Lib.hid hin
        clear hin
        go_enter Try.func11, Try.ntmps11
        go_wp2_with (first
          | (go_at_call 14; refine (DerW.int_any n w).mono ?_; rintro e w1 ⟨v, rfl, hown, hb1⟩
             have HO := Lib.hid hown
             clear hown)
          | (go_at_call 20; refine (HW.out _).mono ?_; rintro e w2 ⟨v2, rfl, hown2, hb2⟩
             have hb12 := bt hb1 hb2
             obtain ⟨gw, capw, rfl, hgw, hcapw, hrdw⟩ := DerK.own_slice hown2 (by rw [HT.out]; omega)
             have HO1 := Lib.hid (own_kept HO.out hb2)
             clear hown2)
          | (at_builtin
             refine wpList_append_rd _ rfl (.tmp 17) (.tmp 19) 22 rfl w.heap.size 5 i0 _ 1 Try.underlying22 hi0 hz0 hs0 hb0 rfl v (encI n).length (bvs (encI n)) rfl HO1.out w2.heap.size (some ⟨gw, 0, none⟩) (elem t []).length capw (bvs (elem t [])) rfl (bvs_length _).symm hrdw (bvs_one _) (hml.out _ (by have := HE.out; have := HT.out; omega)) (by have := HE.out; have := HT.out; omega) hb12.size ?_
             intro v3 w3 hown3 hg3 hat3
             rw [← bvs_append] at hown3
             have hb3 := hb12.grown hg3 hb12.size (fun k hk => (HO1.out.lt k hk).1)
             obtain ⟨g3, cap3, rfl, hg3', hcap3, hrd3⟩ := DerK.own_slice hown3 (by rw [List.length_append]; have := HP.out; omega)
             clear hown3 hat3 hg3)
          | (go_at_call 23; refine (DerC.open_any _ _ _ _ _ _ hrd3 (by simp)).mono ?_; rintro e w4 ⟨g, rfl, hg, hcur, hb4⟩
             have hsz : (((some (encI n ++ elem t [])).getD []).length : Int) ≤ 100000 := by
               have := HE.out; have := HT.out; simp only [Option.getD_some, List.length_append]; omega
             have HS := Lib.hid hsz
             clear hsz)
          | (go_at_call 24; refine (int_good g n (elem t []) _ HN0.out HN1.out (by rw [HT.out]; omega) hcur).mono ?_; rintro e w5 ⟨rfl, hcur5, hg5⟩; clear hcur)
          | (go_at_call 30; refine (HInto.out g _ hcur5).mono ?_; rintro e w6 ⟨⟨g6, rfl, hg6, hcd⟩, hcur6, hgr6⟩; clear hcur5)
          | (go_at_call 32; refine (good_some g6 _ _ hcd).mono ?_; rintro e w' ⟨rfl, rfl⟩; clear hcd)
          | (go_at_call 32; refine (good_some g _ _ hcur6).mono ?_; rintro e w' ⟨rfl, rfl⟩)
          | (go_at_call 33; refine (whole_end g _ hcur6).mono ?_; rintro e w' ⟨rfl, rfl⟩)
          | (go_at_call 22; refine (DerK.known_any _).mono ?_; rintro e w8 ⟨rfl, hb8⟩))
        go_ret
        have hw : w.heap.size ≤ g := Nat.le_trans hb3.size hg
        exact ⟨rfl, bt (btg (btg (bt hb3 hb4) hg5 hw) hgr6 hw) hb8⟩
      · have hin := fun g w h => into_end t u g w h
        simp only [if_neg htu] at hin
        have HInto := Lib.hid hin
        have gne : ((t.toNat : Int) == (u.toNat : Int)) = false := by simp; exact fun e => htu (UInt8.toNat_inj.1 (by omega))
        clear hin htu
        go_enter Try.func11, Try.ntmps11
        go_wp2_with (first
          | (go_at_call 14; refine (DerW.int_any n w).mono ?_; rintro e w1 ⟨v, rfl, hown, hb1⟩
             have HO := Lib.hid hown
             clear hown)
          | (go_at_call 20; refine (HW.out _).mono ?_; rintro e w2 ⟨v2, rfl, hown2, hb2⟩
             have hb12 := bt hb1 hb2
             obtain ⟨gw, capw, rfl, hgw, hcapw, hrdw⟩ := DerK.own_slice hown2 (by rw [HT.out]; omega)
             have HO1 := Lib.hid (own_kept HO.out hb2)
             clear hown2)
          | (at_builtin
             refine wpList_append_rd _ rfl (.tmp 17) (.tmp 19) 22 rfl w.heap.size 5 i0 _ 1 Try.underlying22 hi0 hz0 hs0 hb0 rfl v (encI n).length (bvs (encI n)) rfl HO1.out w2.heap.size (some ⟨gw, 0, none⟩) (elem t []).length capw (bvs (elem t [])) rfl (bvs_length _).symm hrdw (bvs_one _) (hml.out _ (by have := HE.out; have := HT.out; omega)) (by have := HE.out; have := HT.out; omega) hb12.size ?_
             intro v3 w3 hown3 hg3 hat3
             rw [← bvs_append] at hown3
             have hb3 := hb12.grown hg3 hb12.size (fun k hk => (HO1.out.lt k hk).1)
             obtain ⟨g3, cap3, rfl, hg3', hcap3, hrd3⟩ := DerK.own_slice hown3 (by rw [List.length_append]; have := HP.out; omega)
             clear hown3 hat3 hg3)
          | (go_at_call 23; refine (DerC.open_any _ _ _ _ _ _ hrd3 (by simp)).mono ?_; rintro e w4 ⟨g, rfl, hg, hcur, hb4⟩
             have hsz : (((some (encI n ++ elem t [])).getD []).length : Int) ≤ 100000 := by
               have := HE.out; have := HT.out; simp only [Option.getD_some, List.length_append]; omega
             have HS := Lib.hid hsz
             clear hsz)
          | (go_at_call 24; refine (int_good g n (elem t []) _ HN0.out HN1.out (by rw [HT.out]; omega) hcur).mono ?_; rintro e w5 ⟨rfl, hcur5, hg5⟩; clear hcur)
          | (go_at_call 30; refine (HInto.out g _ hcur5).mono ?_; rintro e w6 ⟨⟨g6, rfl, hg6, hcd⟩, hcur6, hgr6⟩; clear hcur5)
          | (go_at_call 32; refine (DerC.good_erred g6 _ hcd).mono ?_; rintro e w' ⟨rfl, rfl⟩; clear hcd)
          | (go_at_call 32; refine (DerC.good_erred g _ hcur6).mono ?_; rintro e w' ⟨rfl, rfl⟩)
          | (go_at_call 33; refine (DerC.whole_erred g _ hcur6).mono ?_; rintro e w' ⟨rfl, rfl⟩)
          | (go_at_call 22; refine (DerK.known_any _).mono ?_; rintro e w8 ⟨rfl, hb8⟩))
        go_ret
        have hw : w.heap.size ≤ g := Nat.le_trans hb3.size hg
        exact ⟨rfl, bt (btg (btg (bt hb3 hb4) hg5 hw) hgr6 hw) hb8⟩

end Go.Proofs.Ytkkpcnibghndgaa.DerL
