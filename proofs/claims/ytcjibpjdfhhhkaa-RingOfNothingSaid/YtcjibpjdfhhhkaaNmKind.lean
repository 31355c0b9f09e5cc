/-
  The code's realms of chapter 5: areLabels, Kind, Is.
-/
import Derived.Test.YtcjibpjdfhhhkaaNmWord
import Derived.Test.YtcjibpjdfhhhkaaNmLib
set_option linter.unusedVariables false
namespace Go.Proofs.Ytcjibpjdfhhhkaa.Nm
open Go.RowKit Go.Proofs.Ytcjibpjdfhhhkaa.Mem
attribute [local go_sem] mk_at List.getElem_cons_zero List.getElem_cons_succ ext_tail ext_drop ext_mid ext_take

theorem Drawn.trans {a b c : World} (h : Drawn a b) (k : Drawn b c) : Drawn a c := by
  obtain ⟨n, rfl⟩ := h
  obtain ⟨m, rfl⟩ := k
  exact ⟨n + m, by simp [World.drewN_drewN]⟩

set_option maxHeartbeats 800000 in
theorem arelabels_any (l : L) (b : UInt8) (w : World) (hs : l.length ≤ 1000000000) : Calls Try.prog 59 #[.string ⟨l.toArray⟩, .string ⟨#[b]⟩] w fun e w' => e = .returned (.bool (areL b 4 l)) ∧ Drawn w w' := by
  have HS := Lib.hid hs; clear hs
  go_enter Try.func59, Try.ntmps59
  go_wp2
  go_loopw [0, 8] (fun sv iv wr => ∃ (k : Nat) (s : L), k ≤ 4 ∧ sv = .string ⟨s.toArray⟩ ∧ iv = .int .i64 (k : Int) ∧ areL b (4 - k) s = areL b 4 l ∧ s.length ≤ l.length ∧ Drawn w wr) (fun _ iv _ => 4 - (intOf iv).toNat)
  case atStart => exact ⟨0, l, by omega, rfl, rfl, rfl, Nat.le_refl _, Drawn.refl _⟩
  case round =>
    obtain ⟨k, s, hk, rfl, rfl, ha, hl, hd⟩ := hrel
    have HL := Lib.hid hl; clear hl
    have HD := Lib.hid hd; clear hd
    by_cases hlt : k < 4
    · have e1 : (k : Int) < 4 := by omega
      have hsl : s.length ≤ 1000000000 := Nat.le_trans HL.out HS.out
      have c1 := cut_one s b wr hsl
      have c2 := fun w1 => isword_cap (bef b s) w1 (by have := bef_len b s; omega)
      have C2 := Lib.hid c2; clear c2
      have ea : areL b (4 - k) s = (wordL capB (bef b s) && (if hasC b s then areL b (4 - (k + 1)) (aft b s) else true)) := by
        rw [show 4 - k = (4 - (k + 1)) + 1 by omega]; rfl
      rw [ea] at ha
      have hal : (aft b s).length ≤ l.length := by have := aft_len b s; have := HL.out; omega
      have HAL := Lib.hid hal; clear hal ea hsl
      cases hw : wordL capB (bef b s) with
      | false =>
        rw [hw, Bool.false_and] at ha
        have HA := Lib.hid ha; clear ha
        have HW := Lib.hid hw; clear hw
        go_wp2_with (first
          | (go_at_call 70; refine Calls.mono c1 ?_; rintro e w1 ⟨rfl, hd⟩; clear c1; have c2 := C2.out w1; rw [HW.out] at c2; have H1 := Lib.hid hd; clear hd)
          | (go_at_call 36; refine Calls.mono c2 ?_; rintro e w2 ⟨rfl, rfl⟩; clear c2))
        go_ret
        exact ⟨by rw [← HA.out]; rfl, HD.out.trans H1.out⟩
      | true =>
        rw [hw, Bool.true_and] at ha
        have HW := Lib.hid hw; clear hw
        cases hc : hasC b s with
        | false =>
          rw [hc, if_neg (by simp)] at ha
          rw [hc] at c1
          have HA := Lib.hid ha; clear ha
          have HC := Lib.hid hc; clear hc
          go_wp2_with (first
            | (go_at_call 70; refine Calls.mono c1 ?_; rintro e w1 ⟨rfl, hd⟩; clear c1; have c2 := C2.out w1; rw [HW.out] at c2; have H1 := Lib.hid hd; clear hd)
            | (go_at_call 36; refine Calls.mono c2 ?_; rintro e w2 ⟨rfl, rfl⟩; clear c2))
          go_ret
          exact ⟨by rw [← HA.out]; rfl, HD.out.trans H1.out⟩
        | true =>
          rw [hc, if_pos rfl] at ha
          rw [hc] at c1
          have HA := Lib.hid ha; clear ha
          have HC := Lib.hid hc; clear hc
          go_wp2_with (first
            | (go_at_call 70; refine Calls.mono c1 ?_; rintro e w1 ⟨rfl, hd⟩; clear c1; have c2 := C2.out w1; rw [HW.out] at c2; have H1 := Lib.hid hd; clear hd)
            | (go_at_call 36; refine Calls.mono c2 ?_; rintro e w2 ⟨rfl, rfl⟩; clear c2))
          go_roundw
          case rel => exact ⟨k + 1, aft b s, by omega, rfl, by go_num, HA.out, HAL.out, HD.out.trans H1.out⟩
          case measure => simp [intOf]; omega
    · have e1 : ¬ (k : Int) < 4 := by omega
      obtain rfl : k = 4 := by omega
      have HA := Lib.hid (show areL b 4 l = false by rw [← ha]; rfl); clear ha
      go_wp2
      go_ret
      exact ⟨by rw [HA.out]; rfl, HD.out⟩

theorem sl_pre (l : L) : slL l = (preL [47] l && labsL (split 47 (cpL [47] l))) := by
  cases l with
  | nil => rfl
  | cons x r =>
    rw [slL, cpL]
    by_cases h : x = 47
    · subst h
      have e : preL [47] (47 :: r) = true := by simp [preL]
      rw [e]; simp
    · have e : preL [47] (x :: r) = false := by
        cases q : preL [47] (x :: r) with
        | false => rfl
        | true => have := congrArg List.head? (pre_iff.1 q); simp at this; exact absurd this h
      rw [e]; simp [h]
theorem cp_len (p l : L) : (cpL p l).length ≤ l.length := by rw [cpL]; split <;> simp

def kindV (l : L) : Value := .int .i64 (kindL l : Int)
set_option maxHeartbeats 800000 in
theorem kind_any (l : L) (w : World) (hs : l.length ≤ 1000000000) : Calls Try.prog 45 #[.string ⟨l.toArray⟩] w fun e w' => e = .returned (.int .i64 (kindL l : Int)) ∧ Drawn w w' := by
  have c1 := arelabels_any l 46 w hs
  rw [areL_labs] at c1
  have C2 := Lib.hid (fun w1 => cutprefix_any l [47] w1 hs (by decide))
  have c3 := fun w1 => arelabels_any (cpL [47] l) 47 w1 (by have := cp_len [47] l; omega)
  rw [areL_labs] at c3
  have C3 := Lib.hid c3; clear c3 hs
  have ek := kind_order l
  rw [sl_pre] at ek
  cases h1 : labsL (split 46 l) with
  | true =>
    rw [h1] at c1
    have E := Lib.hid (show kindL l = 1 by rw [ek, h1]; rfl); clear ek h1
    go_enter Try.func45, Try.ntmps45
    go_wp2_with (go_at_call 59; refine Calls.mono c1 ?_; rintro e w1 ⟨rfl, hd⟩; clear c1; have H1 := Lib.hid hd; clear hd)
    go_ret
    exact ⟨by rw [E.out]; rfl, H1.out⟩
  | false =>
    rw [h1] at c1
    rw [h1, if_neg (by simp)] at ek
    cases h2 : preL [47] l with
    | false =>
      have E := Lib.hid (show kindL l = 0 by rw [ek, h2]; rfl)
      have H2 := Lib.hid h2
      clear ek h1 h2
      go_enter Try.func45, Try.ntmps45
      go_wp2_with (first
        | (go_at_call 59; refine Calls.mono c1 ?_; rintro e w1 ⟨rfl, hd⟩; clear c1; have H1 := Lib.hid hd; clear hd; have c2 := C2.out w1; rw [H2.out] at c2)
        | (go_at_call 46; refine Calls.mono c2 ?_; rintro e w2 ⟨rfl, rfl⟩; clear c2))
      go_ret
      exact ⟨by rw [E.out]; rfl, H1.out⟩
    | true =>
      rw [h2, Bool.true_and] at ek
      have H2 := Lib.hid h2
      cases h3 : labsL (split 47 (cpL [47] l)) with
      | false =>
        have E := Lib.hid (show kindL l = 0 by rw [ek, h3]; rfl)
        have H3 := Lib.hid h3
        clear ek h1 h2 h3
        go_enter Try.func45, Try.ntmps45
        go_wp2_with (first
          | (go_at_call 59; refine Calls.mono c1 ?_; rintro e w1 ⟨rfl, hd⟩; clear c1; have H1 := Lib.hid hd; clear hd; have c2 := C2.out w1; rw [H2.out] at c2)
          | (go_at_call 46; refine Calls.mono c2 ?_; rintro e w2 ⟨rfl, rfl⟩; clear c2; have c4 := C3.out w1; rw [H3.out] at c4)
          | (go_at_call 59; refine Calls.mono c4 ?_; rintro e w3 ⟨rfl, hd⟩; clear c4; have H4 := Lib.hid hd; clear hd))
        go_ret
        exact ⟨by rw [E.out]; rfl, H1.out.trans H4.out⟩
      | true =>
        have E := Lib.hid (show kindL l = 2 by rw [ek, h3]; rfl)
        have H3 := Lib.hid h3
        clear ek h1 h2 h3
        go_enter Try.func45, Try.ntmps45
        go_wp2_with (first
          | (go_at_call 59; refine Calls.mono c1 ?_; rintro e w1 ⟨rfl, hd⟩; clear c1; have H1 := Lib.hid hd; clear hd; have c2 := C2.out w1; rw [H2.out] at c2)
          | (go_at_call 46; refine Calls.mono c2 ?_; rintro e w2 ⟨rfl, rfl⟩; clear c2; have c4 := C3.out w1; rw [H3.out] at c4)
          | (go_at_call 59; refine Calls.mono c4 ?_; rintro e w3 ⟨rfl, hd⟩; clear c4; have H4 := Lib.hid hd; clear hd))
        go_ret
        exact ⟨by rw [E.out]; rfl, H1.out.trans H4.out⟩

theorem is_any (l : L) (w : World) (hs : l.length ≤ 1000000000) : Calls Try.prog 34 #[.string ⟨l.toArray⟩] w fun e w' => e = .returned (.bool (isL l)) ∧ Drawn w w' := by
  have c1 := kind_any l w hs
  by_cases h : 1 ≤ kindL l
  · have E := Lib.hid (show isL l = true by simp [isL, h])
    have t : ((kindL l : Int) != 0) = true := by simp; omega
    clear h
    go_enter Try.func34, Try.ntmps34
    go_wp2_with (go_at_call 45; refine Calls.mono c1 ?_; rintro e w1 ⟨rfl, hd⟩; clear c1; have H1 := Lib.hid hd; clear hd)
    go_ret
    exact ⟨by rw [E.out]; rfl, H1.out⟩
  · have E := Lib.hid (show isL l = false by simp [isL]; omega)
    have e0 : kindL l = 0 := by omega
    rw [e0] at c1
    clear h e0
    go_enter Try.func34, Try.ntmps34
    go_wp2_with (go_at_call 45; refine Calls.mono c1 ?_; rintro e w1 ⟨rfl, hd⟩; clear c1; have H1 := Lib.hid hd; clear hd)
    go_ret
    exact ⟨by rw [E.out]; rfl, H1.out⟩
end Go.Proofs.Ytcjibpjdfhhhkaa.Nm
