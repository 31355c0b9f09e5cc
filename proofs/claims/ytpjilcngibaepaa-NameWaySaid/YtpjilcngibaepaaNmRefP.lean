/-
  The document's own of chapter 5: Target, IsPrinc.
-/
import Derived.Test.YtpjilcngibaepaaNmRefK
set_option linter.unusedVariables false
namespace Go.Proofs.Ytpjilcngibaepaa.Nm
open Go.RowKit Go.Proofs.Ytpjilcngibaepaa.Mem
attribute [local go_sem] mk_at List.getElem_cons_zero List.getElem_cons_succ ext_tail ext_drop ext_take

theorem tg_short {n : L} (h : n.length < 8) : tgL n = false := by
  cases q : preL krb n with
  | false => rw [tgL, q]; rfl
  | true =>
    have h1 : n.drop 7 = [] := List.drop_of_length_le (by omega)
    have h2 : cpL krb n = [] := by rw [cpL, q, if_pos rfl]; exact h1
    rw [tgL, h2, show isL [] = false from by decide, Bool.and_false]
theorem tg_eq (n : L) : tgL n = ((n.take 7 == krb) && isL (n.drop 7)) := by
  have e := pre_take krb n
  rw [show krb.length = 7 from rfl] at e
  rw [tgL, e]
  cases q : preL krb n with
  | false => rfl
  | true => rw [cpL, q]; rfl

set_option maxHeartbeats 800000 in
theorem rtarget_any (n : L) (w : World) (hs : n.length ≤ 50000) : Calls Try.prog 13 #[.string ⟨n.toArray⟩] w fun e w' => e = .returned (.tuple #[.string ⟨(tgR n).toArray⟩, .bool (tgL n)]) ∧ Below w.heap.size w w' := by
  have c2 := ris_any (n.drop 7) w (by simp; omega)
  have HB0 := Lib.hid (Below.refl w.heap.size w)
  by_cases h8 : n.length < 8
  · have E1 := Lib.hid (tg_short h8)
    have E2 := Lib.hid (show tgR n = [] by rw [tgR, E1.out]; rfl)
    have t1 : decide ((n.length : Int) < 8) = true := by simp; omega
    clear h8 hs
    go_enter Try.func13, Try.ntmps13
    go_wp2_with fail
    go_ret2
    exact ⟨by rw [E1.out, E2.out]; rfl, HB0.out⟩
  · have t1 : decide ((n.length : Int) < 8) = false := by simp; omega
    have e7 : (7 : Int) ≤ (n.length : Int) := by omega
    have eq := tg_eq n
    clear h8
    cases h1 : (n.take 7 == krb) with
    | false =>
      rw [h1] at eq
      have t2 : (n.take 7 == [107, 114, 98, 116, 103, 116, 47]) = false := h1
      have E1 := Lib.hid (show tgL n = false from eq)
      have E2 := Lib.hid (show tgR n = [] by rw [tgR, E1.out]; rfl)
      clear eq h1 hs
      go_enter Try.func13, Try.ntmps13
      go_wp2_with fail
      go_ret2
      exact ⟨by rw [E1.out, E2.out]; rfl, HB0.out⟩
    | true =>
      rw [h1, Bool.true_and] at eq
      have t2 : (n.take 7 == [107, 114, 98, 116, 103, 116, 47]) = true := h1
      clear h1 hs
      cases h2 : isL (n.drop 7) with
      | false =>
        rw [h2] at c2 eq
        have E1 := Lib.hid eq
        have E2 := Lib.hid (show tgR n = [] by rw [tgR, E1.out]; rfl)
        clear eq h2
        go_enter Try.func13, Try.ntmps13
        go_wp2_with (go_at_call 17; refine Calls.mono c2 ?_; rintro e w2 ⟨rfl, hd⟩; clear c2; have H2 := Lib.hid hd; clear hd)
        go_ret2
        exact ⟨by rw [E1.out, E2.out]; rfl, H2.out⟩
      | true =>
        rw [h2] at c2 eq
        have E1 := Lib.hid eq
        have E2 := Lib.hid (show tgR n = n.drop 7 by rw [tgR, E1.out]; rfl)
        clear eq h2
        go_enter Try.func13, Try.ntmps13
        go_wp2_with (go_at_call 17; refine Calls.mono c2 ?_; rintro e w2 ⟨rfl, hd⟩; clear c2; have H2 := Lib.hid hd; clear hd)
        go_ret2
        exact ⟨by rw [E1.out, E2.out]; rfl, H2.out⟩

theorem word_fit {p : UInt8 → Bool} {l : L} (h : ∀ i (h : i < l.length), p l[i] = true) : wordL p l = (decide (1 ≤ l.length) && decide (l.length ≤ 8)) := by
  have ha : l.all p = true := by
    rw [List.all_eq_true]
    intro x hx
    obtain ⟨i, hi, rfl⟩ := List.getElem_of_mem hx
    exact h i hi
  rw [wordL, ha, Bool.and_true]
set_option maxHeartbeats 1600000 in
set_option maxRecDepth 100000 in
theorem risprinc_any (r n : L) (w : World) (hs : r.length ≤ 50000) (hs2 : n.length ≤ 50000) : Calls Try.prog 30 #[.agg #[.string ⟨r.toArray⟩, .string ⟨n.toArray⟩]] w fun e w' => e = .returned (.bool (princL r n)) ∧ Below w.heap.size w w' := by
  have c1 := ris_any r (w.alloc (.cells #[.string ⟨r.toArray⟩, .string ⟨n.toArray⟩] 25)) hs
  have hk := Blk.new w 25 #[.string ⟨r.toArray⟩, .string ⟨n.toArray⟩]
  have hb0 := (Below.refl w.heap.size w).alloc (Nat.le_refl _) (.cells #[.string ⟨r.toArray⟩, .string ⟨n.toArray⟩] 25)
  have hsz : w.heap.size < (w.alloc (.cells #[.string ⟨r.toArray⟩, .string ⟨n.toArray⟩] 25)).heap.size := by simp
  obtain ⟨N, eN⟩ : ∃ N, N = w.heap.size := ⟨_, rfl⟩
  have C2 := Lib.hid (fun w1 => rtarget_any n w1 hs2)
  have E1 := Lib.hid (show princL r n = (isL r && (tgL n || wordL wordB n)) from rfl)
  rw [← eN] at hk hb0 hsz ⊢
  have EN := Lib.hid eN; clear eN
  have HK := Lib.hid hk; clear hk
  have HB0 := Lib.hid hb0; clear hb0
  have HSZ := Lib.hid hsz; clear hsz hs
  cases h1 : isL r with
  | false =>
    rw [h1] at c1
    have E := Lib.hid (show princL r n = false by rw [E1.out, h1]; rfl)
    clear h1
    go_enter Try.func30, Try.ntmps30
    go_wp2_with (go_at_call 17; refine Calls.mono c1 ?_; rintro e w1 ⟨rfl, hd⟩; clear c1; have H1 := Lib.hid (HB0.out.trans (hd.mono (Nat.le_of_lt HSZ.out))); clear hd)
    go_ret
    exact ⟨by rw [E.out]; rfl, H1.out⟩
  | true =>
    rw [h1] at c1
    cases h2 : tgL n with
    | true =>
      have E := Lib.hid (show princL r n = true by rw [E1.out, h1, h2]; rfl)
      have HT := Lib.hid h2
      clear h1 h2
      go_enter Try.func30, Try.ntmps30
      go_wp2_with (first
        | (go_at_call 17; refine Calls.mono c1 ?_; rintro e w1 ⟨rfl, hd⟩; clear c1; have H1 := Lib.hid (HB0.out.trans (hd.mono (Nat.le_of_lt HSZ.out))); have hkk := HK.out.below hd; have HKK := Lib.hid hkk; have hk1 := hkk.cell 1; have hs1 : N < w1.heap.size := (by have := hd.size; have := HSZ.out; omega); have HS1 := Lib.hid hs1; rw [EN.out] at hk1; clear hd hs1 hkk; have c2 := C2.out w1; rw [HT.out] at c2)
        | (go_at_call 13; refine Calls.mono c2 ?_; rintro e w2 ⟨rfl, hb⟩; clear c2 hk1; have H2 := Lib.hid (H1.out.trans (hb.mono (Nat.le_of_lt HS1.out))); have hk2 := (HKK.out.below hb).cell 1; rw [EN.out] at hk2; clear hb))
      go_ret
      exact ⟨by rw [E.out]; rfl, H2.out⟩
    | false =>
      have E := Lib.hid (show princL r n = wordL wordB n by rw [E1.out, h1, h2]; rfl)
      have HT := Lib.hid h2
      clear h1 h2
      go_enter Try.func30, Try.ntmps30
      go_wp2_with (first
        | (go_at_call 17; refine Calls.mono c1 ?_; rintro e w1 ⟨rfl, hd⟩; clear c1; have H1 := Lib.hid (HB0.out.trans (hd.mono (Nat.le_of_lt HSZ.out))); have hkk := HK.out.below hd; have HKK := Lib.hid hkk; have hk1 := hkk.cell 1; have hs1 : N < w1.heap.size := (by have := hd.size; have := HSZ.out; omega); have HS1 := Lib.hid hs1; rw [EN.out] at hk1; clear hd hs1 hkk; have c2 := C2.out w1; rw [HT.out] at c2)
        | (go_at_call 13; refine Calls.mono c2 ?_; rintro e w2 ⟨rfl, hb⟩; clear c2 hk1; have H2 := Lib.hid (H1.out.trans (hb.mono (Nat.le_of_lt HS1.out))); have hk2 := (HKK.out.below hb).cell 1; rw [EN.out] at hk2; clear hb))
      go_loop [5] (fun iv => ∃ k : Nat, k ≤ n.length ∧ iv = .int .i64 (k : Int) ∧ Fit wordB n k) (fun iv => n.length - (intOf iv).toNat)
      case atStart => exact ⟨0, Nat.zero_le _, rfl, fun i _ h => by omega⟩
      case round =>
        obtain ⟨k, hk, rfl, hf⟩ := hrel
        have HF := Lib.hid hf; clear hf
        by_cases hlt : k < n.length
        · have e1 : (k : Int) < (n.length : Int) := by omega
          have hb := u8_le n[k]
          have hbad : wordB n[k] = false → Hid (princL r n = false) := fun h => Lib.hid (by rw [E.out]; exact word_bad hlt h)
          have HBAD := Lib.hid hbad; clear hbad
          have hgood : wordB n[k] = true → Hid (Fit wordB n (k + 1)) := fun h => Lib.hid (fun i hi hik => by
            by_cases q : i = k
            · subst q; exact h
            · exact HF.out i hi (by omega))
          have HGOOD := Lib.hid hgood; clear hgood
          by_cases q1 : n[k].toNat < 97
          · have s1 : decide ((n[k].toNat : Int) < 97) = true := by simp; omega
            by_cases q2 : n[k].toNat < 48
            · have s2 : decide ((n[k].toNat : Int) < 48) = true := by simp; omega
              have E2 := HBAD.out (by simp [wordB, smallB]; omega)
              clear q1 q2
              go_wp2
              go_ret
              exact ⟨by rw [E2.out]; rfl, H2.out⟩
            · have s2 : decide ((n[k].toNat : Int) < 48) = false := by simp; omega
              by_cases q3 : 57 < n[k].toNat
              · have s3 : decide (57 < (n[k].toNat : Int)) = true := by simp; omega
                have E2 := HBAD.out (by simp [wordB, smallB]; omega)
                clear q1 q2 q3
                go_wp2
                go_ret
                exact ⟨by rw [E2.out]; rfl, H2.out⟩
              · have s3 : decide (57 < (n[k].toNat : Int)) = false := by simp; omega
                have E2 := HGOOD.out (by simp [wordB, smallB]; omega)
                clear q1 q2 q3
                go_wp2
                go_round
                case rel => exact ⟨k + 1, by omega, by go_num, E2.out⟩
                case measure => simp [intOf]; omega
          · have s1 : decide ((n[k].toNat : Int) < 97) = false := by simp; omega
            by_cases q2 : 122 < n[k].toNat
            · have s2 : decide (122 < (n[k].toNat : Int)) = true := by simp; omega
              have s3 : decide ((n[k].toNat : Int) < 48) = false := by simp; omega
              have s4 : decide (57 < (n[k].toNat : Int)) = true := by simp; omega
              have E2 := HBAD.out (by simp [wordB, smallB]; omega)
              clear q1 q2
              go_wp2
              go_ret
              exact ⟨by rw [E2.out]; rfl, H2.out⟩
            · have s2 : decide (122 < (n[k].toNat : Int)) = false := by simp; omega
              have E2 := HGOOD.out (by simp [wordB, smallB]; omega)
              clear q1 q2
              go_wp2
              go_round
              case rel => exact ⟨k + 1, by omega, by go_num, E2.out⟩
              case measure => simp [intOf]; omega
        · obtain rfl : k = n.length := by omega
          have e1 : ¬ (n.length : Int) < (n.length : Int) := by omega
          have E2 := Lib.hid (E.out.trans (word_fit (fun i hi => HF.out i hi hi)))
          by_cases g1 : 1 ≤ n.length
          · have t1 : decide ((1 : Int) ≤ (n.length : Int)) = true := by simp; omega
            by_cases g2 : n.length ≤ 8
            · have t2 : decide ((n.length : Int) ≤ 8) = true := by simp; omega
              have E3 := Lib.hid (E2.out.trans (show (decide (1 ≤ n.length) && decide (n.length ≤ 8)) = true by simp; omega))
              clear g1 g2
              go_wp2
              go_ret
              exact ⟨by rw [E3.out]; rfl, H2.out⟩
            · have t2 : decide ((n.length : Int) ≤ 8) = false := by simp; omega
              have E3 := Lib.hid (E2.out.trans (show (decide (1 ≤ n.length) && decide (n.length ≤ 8)) = false by simp; omega))
              clear g1 g2
              go_wp2
              go_ret
              exact ⟨by rw [E3.out]; rfl, H2.out⟩
          · have t1 : decide ((1 : Int) ≤ (n.length : Int)) = false := by simp; omega
            have E3 := Lib.hid (E2.out.trans (show (decide (1 ≤ n.length) && decide (n.length ≤ 8)) = false by simp; omega))
            clear g1
            go_wp2
            go_ret
            exact ⟨by rw [E3.out]; rfl, H2.out⟩
end Go.Proofs.Ytpjilcngibaepaa.Nm
