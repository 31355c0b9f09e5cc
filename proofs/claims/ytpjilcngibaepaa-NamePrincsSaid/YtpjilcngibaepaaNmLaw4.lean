/-
  NamePrincs walked.
-/
import Derived.Test.YtpjilcngibaepaaNmLaw1
set_option linter.unusedVariables false
namespace Go.Proofs.Ytpjilcngibaepaa.NmW
open Go.RowKit Go.Proofs.Ytpjilcngibaepaa.Mem Go.Proofs.Ytpjilcngibaepaa.Nm
attribute [local go_sem] mk_at List.getElem_cons_zero List.getElem_cons_succ

/-- so far small letters and digits alone, and so many -/
def sm (n : L) (k : Nat) : Bool := (decide (1 ≤ n.length) && decide (n.length ≤ 8)) && (n.take k).all wordB
theorem sm_zero (n : L) : sm n 0 = (decide (1 ≤ n.length) && decide (n.length ≤ 8)) := by simp [sm]
theorem sm_step (n : L) (k : Nat) (h : k < n.length) : sm n (k + 1) = (sm n k && wordB n[k]) := by
  rw [sm, sm, List.take_succ_eq_append_getElem h, List.all_append]
  simp [Bool.and_assoc]
theorem sm_all (n : L) : sm n n.length = wordL wordB n := by
  rw [sm, List.take_length, wordL, Bool.and_assoc]
theorem edu_is : isL [69, 68, 85] = true := by decide +kernel
theorem princ_edu (n : L) : princL [69, 68, 85] n = (wordL wordB n || tgL n) := by
  rw [princL, edu_is, Bool.true_and, Bool.or_comm]
theorem tg_krb (r : L) : tgL (krb ++ r) = isL r := by
  have h : preL krb (krb ++ r) = true := by rw [preL, List.isPrefixOf_iff_prefix]; exact List.prefix_append _ _
  rw [tgL, h, cpL, if_pos h, Bool.true_and]
  congr 1
theorem krb_word (r : L) : wordL wordB (krb ++ r) = false :=
  word_bad (i := 6) (by simp [krb]) (by simp [krb, wordB, smallB])
theorem princ_krb (r : L) : princL [69, 68, 85] (krb ++ r) = isL r := by
  rw [princ_edu, krb_word, tg_krb, Bool.false_or]
theorem tg_back {n : L} (h : tgL n = true) : krb ++ tgR n = n := by
  have h1 : preL krb n = true := by
    rw [tgL, Bool.and_eq_true] at h; exact h.1
  rw [tgR, if_pos h]
  exact (pre_iff.1 h1).symm

set_option maxHeartbeats 3200000 in
set_option maxRecDepth 100000 in
theorem princs_t_t (n r : L) (w : World) (hn : n.length ≤ 60) (hr : r.length ≤ 60) (hs : wordL wordB n = true) (ht : tgL n = true) : Calls Try.prog 11 #[.string ⟨n.toArray⟩, .string ⟨r.toArray⟩] w fun e w' => e = .returned (.bool true) ∧ Below w.heap.size w w' := by
  have e1 : ¬ (60 : Int) < (n.length : Int) := by omega
  have e2 : ¬ (60 : Int) < (r.length : Int) := by omega
  have t1 := fun w1 => target_any n w1 (by omega)
  rw [ht] at t1
  have T1 := Lib.hid t1; clear t1
  have p1 := fun w1 => isprinc_any [69, 68, 85] n w1 (by decide) (by omega)
  rw [princ_edu, hs, ht, show (true || true) = true from rfl] at p1
  have P1 := Lib.hid p1; clear p1
  have p2 := fun w1 => isprinc_any [69, 68, 85] (krb ++ r) w1 (by decide) (by simp [krb]; omega)
  rw [princ_krb] at p2
  have P2 := Lib.hid p2; clear p2
  have g1 := fun w1 => krbtgt_any (tgR n) w1 (tg_len (by omega))
  rw [tg_back ht] at g1
  have G1 := Lib.hid g1; clear g1
  have G2 := Lib.hid (fun w1 => krbtgt_any r w1 (by omega))
  have I1 := Lib.hid (fun w1 => ris_any r w1 (by omega))
  have CK := Lib.hid (fun w1 => known_any w1)
  have HS := Lib.hid hs; clear hs
  have HT := Lib.hid ht; clear ht
  have H := Lib.hid (Below.refl w.heap.size w)
  have E0 := Lib.hid (sm_zero n)
  by_cases g1 : 1 ≤ n.length
  · by_cases g8 : n.length ≤ 8
    · have q1 : decide ((1 : Int) ≤ (n.length : Int)) = true := by simp; omega
      have q8 : decide ((n.length : Int) ≤ 8) = true := by simp; omega
      have ES := Lib.hid (show sm n 0 = true by rw [sm_zero]; simp [g1, g8])
      clear g1 g8
      go_enter Try.func11, Try.ntmps11
      go_wp2
      go_loop [5, 6] (fun sv iv => ∃ k : Nat, k ≤ n.length ∧ iv = .int .i64 (k : Int) ∧ sv = .bool (sm n k)) (fun _ iv => n.length - (intOf iv).toNat)
      case atStart => exact ⟨0, Nat.zero_le _, rfl, by rw [ES.out]⟩
      case round =>
        obtain ⟨k, hk, rfl, rfl⟩ := hrel
        by_cases hlt : k < n.length
        · have e3 : (k : Int) < (n.length : Int) := by omega
          have e4 : (0 : Int) ≤ (k : Int) := by omega
          have hst := sm_step n k hlt
          have hb := u8_le n[k]
          cases hsm : sm n k with
          | false =>
            have E := Lib.hid (show sm n (k + 1) = false by rw [hst, hsm]; rfl)
            clear hst hsm
            go_wp2
            go_round
            case rel => exact ⟨k + 1, by omega, by go_num, by rw [E.out]⟩
            case measure => simp [intOf]; omega
          | true =>
            rw [hsm, Bool.true_and] at hst
            have HST := Lib.hid hst; clear hst hsm
            by_cases c1 : 97 ≤ n[k].toNat
            · have s1 : decide ((97 : Int) ≤ (n[k].toNat : Int)) = true := by simp; omega
              by_cases c2 : n[k].toNat ≤ 122
              · have s2 : decide ((n[k].toNat : Int) ≤ 122) = true := by simp; omega
                have E := Lib.hid (HST.out.trans (show wordB n[k] = true by simp [wordB, smallB]; omega))
                clear c1 c2
                go_wp2
                go_round
                case rel => exact ⟨k + 1, by omega, by go_num, by rw [E.out]⟩
                case measure => simp [intOf]; omega
              · have s2 : decide ((n[k].toNat : Int) ≤ 122) = false := by simp; omega
                have s3 : decide ((48 : Int) ≤ (n[k].toNat : Int)) = true := by simp; omega
                have s4 : decide ((n[k].toNat : Int) ≤ 57) = false := by simp; omega
                have E := Lib.hid (HST.out.trans (show wordB n[k] = false by simp [wordB, smallB]; omega))
                clear c1 c2
                go_wp2
                go_round
                case rel => exact ⟨k + 1, by omega, by go_num, by rw [E.out]⟩
                case measure => simp [intOf]; omega
            · have s1 : decide ((97 : Int) ≤ (n[k].toNat : Int)) = false := by simp; omega
              by_cases c2 : 48 ≤ n[k].toNat
              · have s3 : decide ((48 : Int) ≤ (n[k].toNat : Int)) = true := by simp; omega
                by_cases c3 : n[k].toNat ≤ 57
                · have s4 : decide ((n[k].toNat : Int) ≤ 57) = true := by simp; omega
                  have E := Lib.hid (HST.out.trans (show wordB n[k] = true by simp [wordB, smallB]; omega))
                  clear c1 c2 c3
                  go_wp2
                  go_round
                  case rel => exact ⟨k + 1, by omega, by go_num, by rw [E.out]⟩
                  case measure => simp [intOf]; omega
                · have s4 : decide ((n[k].toNat : Int) ≤ 57) = false := by simp; omega
                  have E := Lib.hid (HST.out.trans (show wordB n[k] = false by simp [wordB, smallB]; omega))
                  clear c1 c2 c3
                  go_wp2
                  go_round
                  case rel => exact ⟨k + 1, by omega, by go_num, by rw [E.out]⟩
                  case measure => simp [intOf]; omega
              · have s3 : decide ((48 : Int) ≤ (n[k].toNat : Int)) = false := by simp; omega
                have E := Lib.hid (HST.out.trans (show wordB n[k] = false by simp [wordB, smallB]; omega))
                clear c1 c2
                go_wp2
                go_round
                case rel => exact ⟨k + 1, by omega, by go_num, by rw [E.out]⟩
                case measure => simp [intOf]; omega
        · obtain rfl : k = n.length := by omega
          have e3 : ¬ (n.length : Int) < (n.length : Int) := by omega
          have hse : sm n n.length = true := by rw [sm_all]; exact HS.out
          rw [hse]
          clear hse
          go_wp2_with (first
            | (go_at_call 12; with_reducible refine Calls.mono (T1.out _) ?_; rintro e w1 ⟨rfl, hb⟩; replace H := Lib.hid (H.out.trans (hb.mono H.out.size)); clear hb)
            | (go_at_call 29; with_reducible refine Calls.mono (P1.out _) ?_; rintro e w2 ⟨rfl, hb⟩; replace H := Lib.hid (H.out.trans (hb.mono H.out.size)); clear hb)
            | (go_at_call 29; with_reducible refine Calls.mono (P2.out _) ?_; rintro e w3 ⟨rfl, hb⟩; replace H := Lib.hid (H.out.trans (hb.mono H.out.size)); clear hb)
            | (go_at_call 27; with_reducible refine Calls.mono (G1.out _) ?_; rintro e w4 ⟨rfl, rfl⟩)
            | (go_at_call 27; with_reducible refine Calls.mono (G2.out _) ?_; rintro e w5 ⟨rfl, rfl⟩)
            | (go_at_call 17; with_reducible refine Calls.mono (I1.out _) ?_; rintro e w6 ⟨rfl, hb⟩; replace H := Lib.hid (H.out.trans (hb.mono H.out.size)); clear hb)
            | (go_at_call 31; with_reducible refine Calls.mono (CK.out _) ?_; rintro e w7 ⟨rfl, hb⟩; replace H := Lib.hid (H.out.trans (hb.mono H.out.size)); clear hb))
          go_ret
          exact ⟨rfl, H.out⟩
    · have q1 : decide ((1 : Int) ≤ (n.length : Int)) = true := by simp; omega
      have q8 : decide ((n.length : Int) ≤ 8) = false := by simp; omega
      have ES := Lib.hid (show sm n 0 = false by rw [sm_zero]; simp [g8])
      clear g1 g8
      go_enter Try.func11, Try.ntmps11
      go_wp2
      go_loop [5, 6] (fun sv iv => ∃ k : Nat, k ≤ n.length ∧ iv = .int .i64 (k : Int) ∧ sv = .bool (sm n k)) (fun _ iv => n.length - (intOf iv).toNat)
      case atStart => exact ⟨0, Nat.zero_le _, rfl, by rw [ES.out]⟩
      case round =>
        obtain ⟨k, hk, rfl, rfl⟩ := hrel
        by_cases hlt : k < n.length
        · have e3 : (k : Int) < (n.length : Int) := by omega
          have e4 : (0 : Int) ≤ (k : Int) := by omega
          have hst := sm_step n k hlt
          have hb := u8_le n[k]
          cases hsm : sm n k with
          | false =>
            have E := Lib.hid (show sm n (k + 1) = false by rw [hst, hsm]; rfl)
            clear hst hsm
            go_wp2
            go_round
            case rel => exact ⟨k + 1, by omega, by go_num, by rw [E.out]⟩
            case measure => simp [intOf]; omega
          | true =>
            rw [hsm, Bool.true_and] at hst
            have HST := Lib.hid hst; clear hst hsm
            by_cases c1 : 97 ≤ n[k].toNat
            · have s1 : decide ((97 : Int) ≤ (n[k].toNat : Int)) = true := by simp; omega
              by_cases c2 : n[k].toNat ≤ 122
              · have s2 : decide ((n[k].toNat : Int) ≤ 122) = true := by simp; omega
                have E := Lib.hid (HST.out.trans (show wordB n[k] = true by simp [wordB, smallB]; omega))
                clear c1 c2
                go_wp2
                go_round
                case rel => exact ⟨k + 1, by omega, by go_num, by rw [E.out]⟩
                case measure => simp [intOf]; omega
              · have s2 : decide ((n[k].toNat : Int) ≤ 122) = false := by simp; omega
                have s3 : decide ((48 : Int) ≤ (n[k].toNat : Int)) = true := by simp; omega
                have s4 : decide ((n[k].toNat : Int) ≤ 57) = false := by simp; omega
                have E := Lib.hid (HST.out.trans (show wordB n[k] = false by simp [wordB, smallB]; omega))
                clear c1 c2
                go_wp2
                go_round
                case rel => exact ⟨k + 1, by omega, by go_num, by rw [E.out]⟩
                case measure => simp [intOf]; omega
            · have s1 : decide ((97 : Int) ≤ (n[k].toNat : Int)) = false := by simp; omega
              by_cases c2 : 48 ≤ n[k].toNat
              · have s3 : decide ((48 : Int) ≤ (n[k].toNat : Int)) = true := by simp; omega
                by_cases c3 : n[k].toNat ≤ 57
                · have s4 : decide ((n[k].toNat : Int) ≤ 57) = true := by simp; omega
                  have E := Lib.hid (HST.out.trans (show wordB n[k] = true by simp [wordB, smallB]; omega))
                  clear c1 c2 c3
                  go_wp2
                  go_round
                  case rel => exact ⟨k + 1, by omega, by go_num, by rw [E.out]⟩
                  case measure => simp [intOf]; omega
                · have s4 : decide ((n[k].toNat : Int) ≤ 57) = false := by simp; omega
                  have E := Lib.hid (HST.out.trans (show wordB n[k] = false by simp [wordB, smallB]; omega))
                  clear c1 c2 c3
                  go_wp2
                  go_round
                  case rel => exact ⟨k + 1, by omega, by go_num, by rw [E.out]⟩
                  case measure => simp [intOf]; omega
              · have s3 : decide ((48 : Int) ≤ (n[k].toNat : Int)) = false := by simp; omega
                have E := Lib.hid (HST.out.trans (show wordB n[k] = false by simp [wordB, smallB]; omega))
                clear c1 c2
                go_wp2
                go_round
                case rel => exact ⟨k + 1, by omega, by go_num, by rw [E.out]⟩
                case measure => simp [intOf]; omega
        · obtain rfl : k = n.length := by omega
          have e3 : ¬ (n.length : Int) < (n.length : Int) := by omega
          have hse : sm n n.length = true := by rw [sm_all]; exact HS.out
          rw [hse]
          clear hse
          go_wp2_with (first
            | (go_at_call 12; with_reducible refine Calls.mono (T1.out _) ?_; rintro e w1 ⟨rfl, hb⟩; replace H := Lib.hid (H.out.trans (hb.mono H.out.size)); clear hb)
            | (go_at_call 29; with_reducible refine Calls.mono (P1.out _) ?_; rintro e w2 ⟨rfl, hb⟩; replace H := Lib.hid (H.out.trans (hb.mono H.out.size)); clear hb)
            | (go_at_call 29; with_reducible refine Calls.mono (P2.out _) ?_; rintro e w3 ⟨rfl, hb⟩; replace H := Lib.hid (H.out.trans (hb.mono H.out.size)); clear hb)
            | (go_at_call 27; with_reducible refine Calls.mono (G1.out _) ?_; rintro e w4 ⟨rfl, rfl⟩)
            | (go_at_call 27; with_reducible refine Calls.mono (G2.out _) ?_; rintro e w5 ⟨rfl, rfl⟩)
            | (go_at_call 17; with_reducible refine Calls.mono (I1.out _) ?_; rintro e w6 ⟨rfl, hb⟩; replace H := Lib.hid (H.out.trans (hb.mono H.out.size)); clear hb)
            | (go_at_call 31; with_reducible refine Calls.mono (CK.out _) ?_; rintro e w7 ⟨rfl, hb⟩; replace H := Lib.hid (H.out.trans (hb.mono H.out.size)); clear hb))
          go_ret
          exact ⟨rfl, H.out⟩
  · have q1 : decide ((1 : Int) ≤ (n.length : Int)) = false := by simp; omega
    have ES := Lib.hid (show sm n 0 = false by rw [sm_zero]; simp [g1])
    clear g1
    go_enter Try.func11, Try.ntmps11
    go_wp2
    go_loop [5, 6] (fun sv iv => ∃ k : Nat, k ≤ n.length ∧ iv = .int .i64 (k : Int) ∧ sv = .bool (sm n k)) (fun _ iv => n.length - (intOf iv).toNat)
    case atStart => exact ⟨0, Nat.zero_le _, rfl, by rw [ES.out]⟩
    case round =>
      obtain ⟨k, hk, rfl, rfl⟩ := hrel
      by_cases hlt : k < n.length
      · have e3 : (k : Int) < (n.length : Int) := by omega
        have e4 : (0 : Int) ≤ (k : Int) := by omega
        have hst := sm_step n k hlt
        have hb := u8_le n[k]
        cases hsm : sm n k with
        | false =>
          have E := Lib.hid (show sm n (k + 1) = false by rw [hst, hsm]; rfl)
          clear hst hsm
          go_wp2
          go_round
          case rel => exact ⟨k + 1, by omega, by go_num, by rw [E.out]⟩
          case measure => simp [intOf]; omega
        | true =>
          rw [hsm, Bool.true_and] at hst
          have HST := Lib.hid hst; clear hst hsm
          by_cases c1 : 97 ≤ n[k].toNat
          · have s1 : decide ((97 : Int) ≤ (n[k].toNat : Int)) = true := by simp; omega
            by_cases c2 : n[k].toNat ≤ 122
            · have s2 : decide ((n[k].toNat : Int) ≤ 122) = true := by simp; omega
              have E := Lib.hid (HST.out.trans (show wordB n[k] = true by simp [wordB, smallB]; omega))
              clear c1 c2
              go_wp2
              go_round
              case rel => exact ⟨k + 1, by omega, by go_num, by rw [E.out]⟩
              case measure => simp [intOf]; omega
            · have s2 : decide ((n[k].toNat : Int) ≤ 122) = false := by simp; omega
              have s3 : decide ((48 : Int) ≤ (n[k].toNat : Int)) = true := by simp; omega
              have s4 : decide ((n[k].toNat : Int) ≤ 57) = false := by simp; omega
              have E := Lib.hid (HST.out.trans (show wordB n[k] = false by simp [wordB, smallB]; omega))
              clear c1 c2
              go_wp2
              go_round
              case rel => exact ⟨k + 1, by omega, by go_num, by rw [E.out]⟩
              case measure => simp [intOf]; omega
          · have s1 : decide ((97 : Int) ≤ (n[k].toNat : Int)) = false := by simp; omega
            by_cases c2 : 48 ≤ n[k].toNat
            · have s3 : decide ((48 : Int) ≤ (n[k].toNat : Int)) = true := by simp; omega
              by_cases c3 : n[k].toNat ≤ 57
              · have s4 : decide ((n[k].toNat : Int) ≤ 57) = true := by simp; omega
                have E := Lib.hid (HST.out.trans (show wordB n[k] = true by simp [wordB, smallB]; omega))
                clear c1 c2 c3
                go_wp2
                go_round
                case rel => exact ⟨k + 1, by omega, by go_num, by rw [E.out]⟩
                case measure => simp [intOf]; omega
              · have s4 : decide ((n[k].toNat : Int) ≤ 57) = false := by simp; omega
                have E := Lib.hid (HST.out.trans (show wordB n[k] = false by simp [wordB, smallB]; omega))
                clear c1 c2 c3
                go_wp2
                go_round
                case rel => exact ⟨k + 1, by omega, by go_num, by rw [E.out]⟩
                case measure => simp [intOf]; omega
            · have s3 : decide ((48 : Int) ≤ (n[k].toNat : Int)) = false := by simp; omega
              have E := Lib.hid (HST.out.trans (show wordB n[k] = false by simp [wordB, smallB]; omega))
              clear c1 c2
              go_wp2
              go_round
              case rel => exact ⟨k + 1, by omega, by go_num, by rw [E.out]⟩
              case measure => simp [intOf]; omega
      · obtain rfl : k = n.length := by omega
        have e3 : ¬ (n.length : Int) < (n.length : Int) := by omega
        have hse : sm n n.length = true := by rw [sm_all]; exact HS.out
        rw [hse]
        clear hse
        go_wp2_with (first
          | (go_at_call 12; with_reducible refine Calls.mono (T1.out _) ?_; rintro e w1 ⟨rfl, hb⟩; replace H := Lib.hid (H.out.trans (hb.mono H.out.size)); clear hb)
          | (go_at_call 29; with_reducible refine Calls.mono (P1.out _) ?_; rintro e w2 ⟨rfl, hb⟩; replace H := Lib.hid (H.out.trans (hb.mono H.out.size)); clear hb)
          | (go_at_call 29; with_reducible refine Calls.mono (P2.out _) ?_; rintro e w3 ⟨rfl, hb⟩; replace H := Lib.hid (H.out.trans (hb.mono H.out.size)); clear hb)
          | (go_at_call 27; with_reducible refine Calls.mono (G1.out _) ?_; rintro e w4 ⟨rfl, rfl⟩)
            | (go_at_call 27; with_reducible refine Calls.mono (G2.out _) ?_; rintro e w5 ⟨rfl, rfl⟩)
          | (go_at_call 17; with_reducible refine Calls.mono (I1.out _) ?_; rintro e w6 ⟨rfl, hb⟩; replace H := Lib.hid (H.out.trans (hb.mono H.out.size)); clear hb)
          | (go_at_call 31; with_reducible refine Calls.mono (CK.out _) ?_; rintro e w7 ⟨rfl, hb⟩; replace H := Lib.hid (H.out.trans (hb.mono H.out.size)); clear hb))
        go_ret
        exact ⟨rfl, H.out⟩

set_option maxHeartbeats 3200000 in
set_option maxRecDepth 100000 in
theorem princs_t_f (n r : L) (w : World) (hn : n.length ≤ 60) (hr : r.length ≤ 60) (hs : wordL wordB n = true) (ht : tgL n = false) : Calls Try.prog 11 #[.string ⟨n.toArray⟩, .string ⟨r.toArray⟩] w fun e w' => e = .returned (.bool true) ∧ Below w.heap.size w w' := by
  have e1 : ¬ (60 : Int) < (n.length : Int) := by omega
  have e2 : ¬ (60 : Int) < (r.length : Int) := by omega
  have t1 := fun w1 => target_any n w1 (by omega)
  rw [ht] at t1
  have T1 := Lib.hid t1; clear t1
  have p1 := fun w1 => isprinc_any [69, 68, 85] n w1 (by decide) (by omega)
  rw [princ_edu, hs, ht, show (true || false) = true from rfl] at p1
  have P1 := Lib.hid p1; clear p1
  have p2 := fun w1 => isprinc_any [69, 68, 85] (krb ++ r) w1 (by decide) (by simp [krb]; omega)
  rw [princ_krb] at p2
  have P2 := Lib.hid p2; clear p2
  have G2 := Lib.hid (fun w1 => krbtgt_any r w1 (by omega))
  have I1 := Lib.hid (fun w1 => ris_any r w1 (by omega))
  have CK := Lib.hid (fun w1 => known_any w1)
  have HS := Lib.hid hs; clear hs
  have HT := Lib.hid ht; clear ht
  have H := Lib.hid (Below.refl w.heap.size w)
  have E0 := Lib.hid (sm_zero n)
  by_cases g1 : 1 ≤ n.length
  · by_cases g8 : n.length ≤ 8
    · have q1 : decide ((1 : Int) ≤ (n.length : Int)) = true := by simp; omega
      have q8 : decide ((n.length : Int) ≤ 8) = true := by simp; omega
      have ES := Lib.hid (show sm n 0 = true by rw [sm_zero]; simp [g1, g8])
      clear g1 g8
      go_enter Try.func11, Try.ntmps11
      go_wp2
      go_loop [5, 6] (fun sv iv => ∃ k : Nat, k ≤ n.length ∧ iv = .int .i64 (k : Int) ∧ sv = .bool (sm n k)) (fun _ iv => n.length - (intOf iv).toNat)
      case atStart => exact ⟨0, Nat.zero_le _, rfl, by rw [ES.out]⟩
      case round =>
        obtain ⟨k, hk, rfl, rfl⟩ := hrel
        by_cases hlt : k < n.length
        · have e3 : (k : Int) < (n.length : Int) := by omega
          have e4 : (0 : Int) ≤ (k : Int) := by omega
          have hst := sm_step n k hlt
          have hb := u8_le n[k]
          cases hsm : sm n k with
          | false =>
            have E := Lib.hid (show sm n (k + 1) = false by rw [hst, hsm]; rfl)
            clear hst hsm
            go_wp2
            go_round
            case rel => exact ⟨k + 1, by omega, by go_num, by rw [E.out]⟩
            case measure => simp [intOf]; omega
          | true =>
            rw [hsm, Bool.true_and] at hst
            have HST := Lib.hid hst; clear hst hsm
            by_cases c1 : 97 ≤ n[k].toNat
            · have s1 : decide ((97 : Int) ≤ (n[k].toNat : Int)) = true := by simp; omega
              by_cases c2 : n[k].toNat ≤ 122
              · have s2 : decide ((n[k].toNat : Int) ≤ 122) = true := by simp; omega
                have E := Lib.hid (HST.out.trans (show wordB n[k] = true by simp [wordB, smallB]; omega))
                clear c1 c2
                go_wp2
                go_round
                case rel => exact ⟨k + 1, by omega, by go_num, by rw [E.out]⟩
                case measure => simp [intOf]; omega
              · have s2 : decide ((n[k].toNat : Int) ≤ 122) = false := by simp; omega
                have s3 : decide ((48 : Int) ≤ (n[k].toNat : Int)) = true := by simp; omega
                have s4 : decide ((n[k].toNat : Int) ≤ 57) = false := by simp; omega
                have E := Lib.hid (HST.out.trans (show wordB n[k] = false by simp [wordB, smallB]; omega))
                clear c1 c2
                go_wp2
                go_round
                case rel => exact ⟨k + 1, by omega, by go_num, by rw [E.out]⟩
                case measure => simp [intOf]; omega
            · have s1 : decide ((97 : Int) ≤ (n[k].toNat : Int)) = false := by simp; omega
              by_cases c2 : 48 ≤ n[k].toNat
              · have s3 : decide ((48 : Int) ≤ (n[k].toNat : Int)) = true := by simp; omega
                by_cases c3 : n[k].toNat ≤ 57
                · have s4 : decide ((n[k].toNat : Int) ≤ 57) = true := by simp; omega
                  have E := Lib.hid (HST.out.trans (show wordB n[k] = true by simp [wordB, smallB]; omega))
                  clear c1 c2 c3
                  go_wp2
                  go_round
                  case rel => exact ⟨k + 1, by omega, by go_num, by rw [E.out]⟩
                  case measure => simp [intOf]; omega
                · have s4 : decide ((n[k].toNat : Int) ≤ 57) = false := by simp; omega
                  have E := Lib.hid (HST.out.trans (show wordB n[k] = false by simp [wordB, smallB]; omega))
                  clear c1 c2 c3
                  go_wp2
                  go_round
                  case rel => exact ⟨k + 1, by omega, by go_num, by rw [E.out]⟩
                  case measure => simp [intOf]; omega
              · have s3 : decide ((48 : Int) ≤ (n[k].toNat : Int)) = false := by simp; omega
                have E := Lib.hid (HST.out.trans (show wordB n[k] = false by simp [wordB, smallB]; omega))
                clear c1 c2
                go_wp2
                go_round
                case rel => exact ⟨k + 1, by omega, by go_num, by rw [E.out]⟩
                case measure => simp [intOf]; omega
        · obtain rfl : k = n.length := by omega
          have e3 : ¬ (n.length : Int) < (n.length : Int) := by omega
          have hse : sm n n.length = true := by rw [sm_all]; exact HS.out
          rw [hse]
          clear hse
          go_wp2_with (first
            | (go_at_call 12; with_reducible refine Calls.mono (T1.out _) ?_; rintro e w1 ⟨rfl, hb⟩; replace H := Lib.hid (H.out.trans (hb.mono H.out.size)); clear hb)
            | (go_at_call 29; with_reducible refine Calls.mono (P1.out _) ?_; rintro e w2 ⟨rfl, hb⟩; replace H := Lib.hid (H.out.trans (hb.mono H.out.size)); clear hb)
            | (go_at_call 29; with_reducible refine Calls.mono (P2.out _) ?_; rintro e w3 ⟨rfl, hb⟩; replace H := Lib.hid (H.out.trans (hb.mono H.out.size)); clear hb)
            | (go_at_call 27; with_reducible refine Calls.mono (G2.out _) ?_; rintro e w5 ⟨rfl, rfl⟩)
            | (go_at_call 17; with_reducible refine Calls.mono (I1.out _) ?_; rintro e w6 ⟨rfl, hb⟩; replace H := Lib.hid (H.out.trans (hb.mono H.out.size)); clear hb)
            | (go_at_call 31; with_reducible refine Calls.mono (CK.out _) ?_; rintro e w7 ⟨rfl, hb⟩; replace H := Lib.hid (H.out.trans (hb.mono H.out.size)); clear hb))
          go_ret
          exact ⟨rfl, H.out⟩
    · have q1 : decide ((1 : Int) ≤ (n.length : Int)) = true := by simp; omega
      have q8 : decide ((n.length : Int) ≤ 8) = false := by simp; omega
      have ES := Lib.hid (show sm n 0 = false by rw [sm_zero]; simp [g8])
      clear g1 g8
      go_enter Try.func11, Try.ntmps11
      go_wp2
      go_loop [5, 6] (fun sv iv => ∃ k : Nat, k ≤ n.length ∧ iv = .int .i64 (k : Int) ∧ sv = .bool (sm n k)) (fun _ iv => n.length - (intOf iv).toNat)
      case atStart => exact ⟨0, Nat.zero_le _, rfl, by rw [ES.out]⟩
      case round =>
        obtain ⟨k, hk, rfl, rfl⟩ := hrel
        by_cases hlt : k < n.length
        · have e3 : (k : Int) < (n.length : Int) := by omega
          have e4 : (0 : Int) ≤ (k : Int) := by omega
          have hst := sm_step n k hlt
          have hb := u8_le n[k]
          cases hsm : sm n k with
          | false =>
            have E := Lib.hid (show sm n (k + 1) = false by rw [hst, hsm]; rfl)
            clear hst hsm
            go_wp2
            go_round
            case rel => exact ⟨k + 1, by omega, by go_num, by rw [E.out]⟩
            case measure => simp [intOf]; omega
          | true =>
            rw [hsm, Bool.true_and] at hst
            have HST := Lib.hid hst; clear hst hsm
            by_cases c1 : 97 ≤ n[k].toNat
            · have s1 : decide ((97 : Int) ≤ (n[k].toNat : Int)) = true := by simp; omega
              by_cases c2 : n[k].toNat ≤ 122
              · have s2 : decide ((n[k].toNat : Int) ≤ 122) = true := by simp; omega
                have E := Lib.hid (HST.out.trans (show wordB n[k] = true by simp [wordB, smallB]; omega))
                clear c1 c2
                go_wp2
                go_round
                case rel => exact ⟨k + 1, by omega, by go_num, by rw [E.out]⟩
                case measure => simp [intOf]; omega
              · have s2 : decide ((n[k].toNat : Int) ≤ 122) = false := by simp; omega
                have s3 : decide ((48 : Int) ≤ (n[k].toNat : Int)) = true := by simp; omega
                have s4 : decide ((n[k].toNat : Int) ≤ 57) = false := by simp; omega
                have E := Lib.hid (HST.out.trans (show wordB n[k] = false by simp [wordB, smallB]; omega))
                clear c1 c2
                go_wp2
                go_round
                case rel => exact ⟨k + 1, by omega, by go_num, by rw [E.out]⟩
                case measure => simp [intOf]; omega
            · have s1 : decide ((97 : Int) ≤ (n[k].toNat : Int)) = false := by simp; omega
              by_cases c2 : 48 ≤ n[k].toNat
              · have s3 : decide ((48 : Int) ≤ (n[k].toNat : Int)) = true := by simp; omega
                by_cases c3 : n[k].toNat ≤ 57
                · have s4 : decide ((n[k].toNat : Int) ≤ 57) = true := by simp; omega
                  have E := Lib.hid (HST.out.trans (show wordB n[k] = true by simp [wordB, smallB]; omega))
                  clear c1 c2 c3
                  go_wp2
                  go_round
                  case rel => exact ⟨k + 1, by omega, by go_num, by rw [E.out]⟩
                  case measure => simp [intOf]; omega
                · have s4 : decide ((n[k].toNat : Int) ≤ 57) = false := by simp; omega
                  have E := Lib.hid (HST.out.trans (show wordB n[k] = false by simp [wordB, smallB]; omega))
                  clear c1 c2 c3
                  go_wp2
                  go_round
                  case rel => exact ⟨k + 1, by omega, by go_num, by rw [E.out]⟩
                  case measure => simp [intOf]; omega
              · have s3 : decide ((48 : Int) ≤ (n[k].toNat : Int)) = false := by simp; omega
                have E := Lib.hid (HST.out.trans (show wordB n[k] = false by simp [wordB, smallB]; omega))
                clear c1 c2
                go_wp2
                go_round
                case rel => exact ⟨k + 1, by omega, by go_num, by rw [E.out]⟩
                case measure => simp [intOf]; omega
        · obtain rfl : k = n.length := by omega
          have e3 : ¬ (n.length : Int) < (n.length : Int) := by omega
          have hse : sm n n.length = true := by rw [sm_all]; exact HS.out
          rw [hse]
          clear hse
          go_wp2_with (first
            | (go_at_call 12; with_reducible refine Calls.mono (T1.out _) ?_; rintro e w1 ⟨rfl, hb⟩; replace H := Lib.hid (H.out.trans (hb.mono H.out.size)); clear hb)
            | (go_at_call 29; with_reducible refine Calls.mono (P1.out _) ?_; rintro e w2 ⟨rfl, hb⟩; replace H := Lib.hid (H.out.trans (hb.mono H.out.size)); clear hb)
            | (go_at_call 29; with_reducible refine Calls.mono (P2.out _) ?_; rintro e w3 ⟨rfl, hb⟩; replace H := Lib.hid (H.out.trans (hb.mono H.out.size)); clear hb)
            | (go_at_call 27; with_reducible refine Calls.mono (G2.out _) ?_; rintro e w5 ⟨rfl, rfl⟩)
            | (go_at_call 17; with_reducible refine Calls.mono (I1.out _) ?_; rintro e w6 ⟨rfl, hb⟩; replace H := Lib.hid (H.out.trans (hb.mono H.out.size)); clear hb)
            | (go_at_call 31; with_reducible refine Calls.mono (CK.out _) ?_; rintro e w7 ⟨rfl, hb⟩; replace H := Lib.hid (H.out.trans (hb.mono H.out.size)); clear hb))
          go_ret
          exact ⟨rfl, H.out⟩
  · have q1 : decide ((1 : Int) ≤ (n.length : Int)) = false := by simp; omega
    have ES := Lib.hid (show sm n 0 = false by rw [sm_zero]; simp [g1])
    clear g1
    go_enter Try.func11, Try.ntmps11
    go_wp2
    go_loop [5, 6] (fun sv iv => ∃ k : Nat, k ≤ n.length ∧ iv = .int .i64 (k : Int) ∧ sv = .bool (sm n k)) (fun _ iv => n.length - (intOf iv).toNat)
    case atStart => exact ⟨0, Nat.zero_le _, rfl, by rw [ES.out]⟩
    case round =>
      obtain ⟨k, hk, rfl, rfl⟩ := hrel
      by_cases hlt : k < n.length
      · have e3 : (k : Int) < (n.length : Int) := by omega
        have e4 : (0 : Int) ≤ (k : Int) := by omega
        have hst := sm_step n k hlt
        have hb := u8_le n[k]
        cases hsm : sm n k with
        | false =>
          have E := Lib.hid (show sm n (k + 1) = false by rw [hst, hsm]; rfl)
          clear hst hsm
          go_wp2
          go_round
          case rel => exact ⟨k + 1, by omega, by go_num, by rw [E.out]⟩
          case measure => simp [intOf]; omega
        | true =>
          rw [hsm, Bool.true_and] at hst
          have HST := Lib.hid hst; clear hst hsm
          by_cases c1 : 97 ≤ n[k].toNat
          · have s1 : decide ((97 : Int) ≤ (n[k].toNat : Int)) = true := by simp; omega
            by_cases c2 : n[k].toNat ≤ 122
            · have s2 : decide ((n[k].toNat : Int) ≤ 122) = true := by simp; omega
              have E := Lib.hid (HST.out.trans (show wordB n[k] = true by simp [wordB, smallB]; omega))
              clear c1 c2
              go_wp2
              go_round
              case rel => exact ⟨k + 1, by omega, by go_num, by rw [E.out]⟩
              case measure => simp [intOf]; omega
            · have s2 : decide ((n[k].toNat : Int) ≤ 122) = false := by simp; omega
              have s3 : decide ((48 : Int) ≤ (n[k].toNat : Int)) = true := by simp; omega
              have s4 : decide ((n[k].toNat : Int) ≤ 57) = false := by simp; omega
              have E := Lib.hid (HST.out.trans (show wordB n[k] = false by simp [wordB, smallB]; omega))
              clear c1 c2
              go_wp2
              go_round
              case rel => exact ⟨k + 1, by omega, by go_num, by rw [E.out]⟩
              case measure => simp [intOf]; omega
          · have s1 : decide ((97 : Int) ≤ (n[k].toNat : Int)) = false := by simp; omega
            by_cases c2 : 48 ≤ n[k].toNat
            · have s3 : decide ((48 : Int) ≤ (n[k].toNat : Int)) = true := by simp; omega
              by_cases c3 : n[k].toNat ≤ 57
              · have s4 : decide ((n[k].toNat : Int) ≤ 57) = true := by simp; omega
                have E := Lib.hid (HST.out.trans (show wordB n[k] = true by simp [wordB, smallB]; omega))
                clear c1 c2 c3
                go_wp2
                go_round
                case rel => exact ⟨k + 1, by omega, by go_num, by rw [E.out]⟩
                case measure => simp [intOf]; omega
              · have s4 : decide ((n[k].toNat : Int) ≤ 57) = false := by simp; omega
                have E := Lib.hid (HST.out.trans (show wordB n[k] = false by simp [wordB, smallB]; omega))
                clear c1 c2 c3
                go_wp2
                go_round
                case rel => exact ⟨k + 1, by omega, by go_num, by rw [E.out]⟩
                case measure => simp [intOf]; omega
            · have s3 : decide ((48 : Int) ≤ (n[k].toNat : Int)) = false := by simp; omega
              have E := Lib.hid (HST.out.trans (show wordB n[k] = false by simp [wordB, smallB]; omega))
              clear c1 c2
              go_wp2
              go_round
              case rel => exact ⟨k + 1, by omega, by go_num, by rw [E.out]⟩
              case measure => simp [intOf]; omega
      · obtain rfl : k = n.length := by omega
        have e3 : ¬ (n.length : Int) < (n.length : Int) := by omega
        have hse : sm n n.length = true := by rw [sm_all]; exact HS.out
        rw [hse]
        clear hse
        go_wp2_with (first
          | (go_at_call 12; with_reducible refine Calls.mono (T1.out _) ?_; rintro e w1 ⟨rfl, hb⟩; replace H := Lib.hid (H.out.trans (hb.mono H.out.size)); clear hb)
          | (go_at_call 29; with_reducible refine Calls.mono (P1.out _) ?_; rintro e w2 ⟨rfl, hb⟩; replace H := Lib.hid (H.out.trans (hb.mono H.out.size)); clear hb)
          | (go_at_call 29; with_reducible refine Calls.mono (P2.out _) ?_; rintro e w3 ⟨rfl, hb⟩; replace H := Lib.hid (H.out.trans (hb.mono H.out.size)); clear hb)
          | (go_at_call 27; with_reducible refine Calls.mono (G2.out _) ?_; rintro e w5 ⟨rfl, rfl⟩)
          | (go_at_call 17; with_reducible refine Calls.mono (I1.out _) ?_; rintro e w6 ⟨rfl, hb⟩; replace H := Lib.hid (H.out.trans (hb.mono H.out.size)); clear hb)
          | (go_at_call 31; with_reducible refine Calls.mono (CK.out _) ?_; rintro e w7 ⟨rfl, hb⟩; replace H := Lib.hid (H.out.trans (hb.mono H.out.size)); clear hb))
        go_ret
        exact ⟨rfl, H.out⟩

set_option maxHeartbeats 3200000 in
set_option maxRecDepth 100000 in
theorem princs_f_t (n r : L) (w : World) (hn : n.length ≤ 60) (hr : r.length ≤ 60) (hs : wordL wordB n = false) (ht : tgL n = true) : Calls Try.prog 11 #[.string ⟨n.toArray⟩, .string ⟨r.toArray⟩] w fun e w' => e = .returned (.bool true) ∧ Below w.heap.size w w' := by
  have e1 : ¬ (60 : Int) < (n.length : Int) := by omega
  have e2 : ¬ (60 : Int) < (r.length : Int) := by omega
  have t1 := fun w1 => target_any n w1 (by omega)
  rw [ht] at t1
  have T1 := Lib.hid t1; clear t1
  have p1 := fun w1 => isprinc_any [69, 68, 85] n w1 (by decide) (by omega)
  rw [princ_edu, hs, ht, show (false || true) = true from rfl] at p1
  have P1 := Lib.hid p1; clear p1
  have p2 := fun w1 => isprinc_any [69, 68, 85] (krb ++ r) w1 (by decide) (by simp [krb]; omega)
  rw [princ_krb] at p2
  have P2 := Lib.hid p2; clear p2
  have g1 := fun w1 => krbtgt_any (tgR n) w1 (tg_len (by omega))
  rw [tg_back ht] at g1
  have G1 := Lib.hid g1; clear g1
  have G2 := Lib.hid (fun w1 => krbtgt_any r w1 (by omega))
  have I1 := Lib.hid (fun w1 => ris_any r w1 (by omega))
  have CK := Lib.hid (fun w1 => known_any w1)
  have HS := Lib.hid hs; clear hs
  have HT := Lib.hid ht; clear ht
  have H := Lib.hid (Below.refl w.heap.size w)
  have E0 := Lib.hid (sm_zero n)
  by_cases g1 : 1 ≤ n.length
  · by_cases g8 : n.length ≤ 8
    · have q1 : decide ((1 : Int) ≤ (n.length : Int)) = true := by simp; omega
      have q8 : decide ((n.length : Int) ≤ 8) = true := by simp; omega
      have ES := Lib.hid (show sm n 0 = true by rw [sm_zero]; simp [g1, g8])
      clear g1 g8
      go_enter Try.func11, Try.ntmps11
      go_wp2
      go_loop [5, 6] (fun sv iv => ∃ k : Nat, k ≤ n.length ∧ iv = .int .i64 (k : Int) ∧ sv = .bool (sm n k)) (fun _ iv => n.length - (intOf iv).toNat)
      case atStart => exact ⟨0, Nat.zero_le _, rfl, by rw [ES.out]⟩
      case round =>
        obtain ⟨k, hk, rfl, rfl⟩ := hrel
        by_cases hlt : k < n.length
        · have e3 : (k : Int) < (n.length : Int) := by omega
          have e4 : (0 : Int) ≤ (k : Int) := by omega
          have hst := sm_step n k hlt
          have hb := u8_le n[k]
          cases hsm : sm n k with
          | false =>
            have E := Lib.hid (show sm n (k + 1) = false by rw [hst, hsm]; rfl)
            clear hst hsm
            go_wp2
            go_round
            case rel => exact ⟨k + 1, by omega, by go_num, by rw [E.out]⟩
            case measure => simp [intOf]; omega
          | true =>
            rw [hsm, Bool.true_and] at hst
            have HST := Lib.hid hst; clear hst hsm
            by_cases c1 : 97 ≤ n[k].toNat
            · have s1 : decide ((97 : Int) ≤ (n[k].toNat : Int)) = true := by simp; omega
              by_cases c2 : n[k].toNat ≤ 122
              · have s2 : decide ((n[k].toNat : Int) ≤ 122) = true := by simp; omega
                have E := Lib.hid (HST.out.trans (show wordB n[k] = true by simp [wordB, smallB]; omega))
                clear c1 c2
                go_wp2
                go_round
                case rel => exact ⟨k + 1, by omega, by go_num, by rw [E.out]⟩
                case measure => simp [intOf]; omega
              · have s2 : decide ((n[k].toNat : Int) ≤ 122) = false := by simp; omega
                have s3 : decide ((48 : Int) ≤ (n[k].toNat : Int)) = true := by simp; omega
                have s4 : decide ((n[k].toNat : Int) ≤ 57) = false := by simp; omega
                have E := Lib.hid (HST.out.trans (show wordB n[k] = false by simp [wordB, smallB]; omega))
                clear c1 c2
                go_wp2
                go_round
                case rel => exact ⟨k + 1, by omega, by go_num, by rw [E.out]⟩
                case measure => simp [intOf]; omega
            · have s1 : decide ((97 : Int) ≤ (n[k].toNat : Int)) = false := by simp; omega
              by_cases c2 : 48 ≤ n[k].toNat
              · have s3 : decide ((48 : Int) ≤ (n[k].toNat : Int)) = true := by simp; omega
                by_cases c3 : n[k].toNat ≤ 57
                · have s4 : decide ((n[k].toNat : Int) ≤ 57) = true := by simp; omega
                  have E := Lib.hid (HST.out.trans (show wordB n[k] = true by simp [wordB, smallB]; omega))
                  clear c1 c2 c3
                  go_wp2
                  go_round
                  case rel => exact ⟨k + 1, by omega, by go_num, by rw [E.out]⟩
                  case measure => simp [intOf]; omega
                · have s4 : decide ((n[k].toNat : Int) ≤ 57) = false := by simp; omega
                  have E := Lib.hid (HST.out.trans (show wordB n[k] = false by simp [wordB, smallB]; omega))
                  clear c1 c2 c3
                  go_wp2
                  go_round
                  case rel => exact ⟨k + 1, by omega, by go_num, by rw [E.out]⟩
                  case measure => simp [intOf]; omega
              · have s3 : decide ((48 : Int) ≤ (n[k].toNat : Int)) = false := by simp; omega
                have E := Lib.hid (HST.out.trans (show wordB n[k] = false by simp [wordB, smallB]; omega))
                clear c1 c2
                go_wp2
                go_round
                case rel => exact ⟨k + 1, by omega, by go_num, by rw [E.out]⟩
                case measure => simp [intOf]; omega
        · obtain rfl : k = n.length := by omega
          have e3 : ¬ (n.length : Int) < (n.length : Int) := by omega
          have hse : sm n n.length = false := by rw [sm_all]; exact HS.out
          rw [hse]
          clear hse
          go_wp2_with (first
            | (go_at_call 12; with_reducible refine Calls.mono (T1.out _) ?_; rintro e w1 ⟨rfl, hb⟩; replace H := Lib.hid (H.out.trans (hb.mono H.out.size)); clear hb)
            | (go_at_call 29; with_reducible refine Calls.mono (P1.out _) ?_; rintro e w2 ⟨rfl, hb⟩; replace H := Lib.hid (H.out.trans (hb.mono H.out.size)); clear hb)
            | (go_at_call 29; with_reducible refine Calls.mono (P2.out _) ?_; rintro e w3 ⟨rfl, hb⟩; replace H := Lib.hid (H.out.trans (hb.mono H.out.size)); clear hb)
            | (go_at_call 27; with_reducible refine Calls.mono (G1.out _) ?_; rintro e w4 ⟨rfl, rfl⟩)
            | (go_at_call 27; with_reducible refine Calls.mono (G2.out _) ?_; rintro e w5 ⟨rfl, rfl⟩)
            | (go_at_call 17; with_reducible refine Calls.mono (I1.out _) ?_; rintro e w6 ⟨rfl, hb⟩; replace H := Lib.hid (H.out.trans (hb.mono H.out.size)); clear hb)
            | (go_at_call 31; with_reducible refine Calls.mono (CK.out _) ?_; rintro e w7 ⟨rfl, hb⟩; replace H := Lib.hid (H.out.trans (hb.mono H.out.size)); clear hb))
          go_ret
          exact ⟨rfl, H.out⟩
    · have q1 : decide ((1 : Int) ≤ (n.length : Int)) = true := by simp; omega
      have q8 : decide ((n.length : Int) ≤ 8) = false := by simp; omega
      have ES := Lib.hid (show sm n 0 = false by rw [sm_zero]; simp [g8])
      clear g1 g8
      go_enter Try.func11, Try.ntmps11
      go_wp2
      go_loop [5, 6] (fun sv iv => ∃ k : Nat, k ≤ n.length ∧ iv = .int .i64 (k : Int) ∧ sv = .bool (sm n k)) (fun _ iv => n.length - (intOf iv).toNat)
      case atStart => exact ⟨0, Nat.zero_le _, rfl, by rw [ES.out]⟩
      case round =>
        obtain ⟨k, hk, rfl, rfl⟩ := hrel
        by_cases hlt : k < n.length
        · have e3 : (k : Int) < (n.length : Int) := by omega
          have e4 : (0 : Int) ≤ (k : Int) := by omega
          have hst := sm_step n k hlt
          have hb := u8_le n[k]
          cases hsm : sm n k with
          | false =>
            have E := Lib.hid (show sm n (k + 1) = false by rw [hst, hsm]; rfl)
            clear hst hsm
            go_wp2
            go_round
            case rel => exact ⟨k + 1, by omega, by go_num, by rw [E.out]⟩
            case measure => simp [intOf]; omega
          | true =>
            rw [hsm, Bool.true_and] at hst
            have HST := Lib.hid hst; clear hst hsm
            by_cases c1 : 97 ≤ n[k].toNat
            · have s1 : decide ((97 : Int) ≤ (n[k].toNat : Int)) = true := by simp; omega
              by_cases c2 : n[k].toNat ≤ 122
              · have s2 : decide ((n[k].toNat : Int) ≤ 122) = true := by simp; omega
                have E := Lib.hid (HST.out.trans (show wordB n[k] = true by simp [wordB, smallB]; omega))
                clear c1 c2
                go_wp2
                go_round
                case rel => exact ⟨k + 1, by omega, by go_num, by rw [E.out]⟩
                case measure => simp [intOf]; omega
              · have s2 : decide ((n[k].toNat : Int) ≤ 122) = false := by simp; omega
                have s3 : decide ((48 : Int) ≤ (n[k].toNat : Int)) = true := by simp; omega
                have s4 : decide ((n[k].toNat : Int) ≤ 57) = false := by simp; omega
                have E := Lib.hid (HST.out.trans (show wordB n[k] = false by simp [wordB, smallB]; omega))
                clear c1 c2
                go_wp2
                go_round
                case rel => exact ⟨k + 1, by omega, by go_num, by rw [E.out]⟩
                case measure => simp [intOf]; omega
            · have s1 : decide ((97 : Int) ≤ (n[k].toNat : Int)) = false := by simp; omega
              by_cases c2 : 48 ≤ n[k].toNat
              · have s3 : decide ((48 : Int) ≤ (n[k].toNat : Int)) = true := by simp; omega
                by_cases c3 : n[k].toNat ≤ 57
                · have s4 : decide ((n[k].toNat : Int) ≤ 57) = true := by simp; omega
                  have E := Lib.hid (HST.out.trans (show wordB n[k] = true by simp [wordB, smallB]; omega))
                  clear c1 c2 c3
                  go_wp2
                  go_round
                  case rel => exact ⟨k + 1, by omega, by go_num, by rw [E.out]⟩
                  case measure => simp [intOf]; omega
                · have s4 : decide ((n[k].toNat : Int) ≤ 57) = false := by simp; omega
                  have E := Lib.hid (HST.out.trans (show wordB n[k] = false by simp [wordB, smallB]; omega))
                  clear c1 c2 c3
                  go_wp2
                  go_round
                  case rel => exact ⟨k + 1, by omega, by go_num, by rw [E.out]⟩
                  case measure => simp [intOf]; omega
              · have s3 : decide ((48 : Int) ≤ (n[k].toNat : Int)) = false := by simp; omega
                have E := Lib.hid (HST.out.trans (show wordB n[k] = false by simp [wordB, smallB]; omega))
                clear c1 c2
                go_wp2
                go_round
                case rel => exact ⟨k + 1, by omega, by go_num, by rw [E.out]⟩
                case measure => simp [intOf]; omega
        · obtain rfl : k = n.length := by omega
          have e3 : ¬ (n.length : Int) < (n.length : Int) := by omega
          have hse : sm n n.length = false := by rw [sm_all]; exact HS.out
          rw [hse]
          clear hse
          go_wp2_with (first
            | (go_at_call 12; with_reducible refine Calls.mono (T1.out _) ?_; rintro e w1 ⟨rfl, hb⟩; replace H := Lib.hid (H.out.trans (hb.mono H.out.size)); clear hb)
            | (go_at_call 29; with_reducible refine Calls.mono (P1.out _) ?_; rintro e w2 ⟨rfl, hb⟩; replace H := Lib.hid (H.out.trans (hb.mono H.out.size)); clear hb)
            | (go_at_call 29; with_reducible refine Calls.mono (P2.out _) ?_; rintro e w3 ⟨rfl, hb⟩; replace H := Lib.hid (H.out.trans (hb.mono H.out.size)); clear hb)
            | (go_at_call 27; with_reducible refine Calls.mono (G1.out _) ?_; rintro e w4 ⟨rfl, rfl⟩)
            | (go_at_call 27; with_reducible refine Calls.mono (G2.out _) ?_; rintro e w5 ⟨rfl, rfl⟩)
            | (go_at_call 17; with_reducible refine Calls.mono (I1.out _) ?_; rintro e w6 ⟨rfl, hb⟩; replace H := Lib.hid (H.out.trans (hb.mono H.out.size)); clear hb)
            | (go_at_call 31; with_reducible refine Calls.mono (CK.out _) ?_; rintro e w7 ⟨rfl, hb⟩; replace H := Lib.hid (H.out.trans (hb.mono H.out.size)); clear hb))
          go_ret
          exact ⟨rfl, H.out⟩
  · have q1 : decide ((1 : Int) ≤ (n.length : Int)) = false := by simp; omega
    have ES := Lib.hid (show sm n 0 = false by rw [sm_zero]; simp [g1])
    clear g1
    go_enter Try.func11, Try.ntmps11
    go_wp2
    go_loop [5, 6] (fun sv iv => ∃ k : Nat, k ≤ n.length ∧ iv = .int .i64 (k : Int) ∧ sv = .bool (sm n k)) (fun _ iv => n.length - (intOf iv).toNat)
    case atStart => exact ⟨0, Nat.zero_le _, rfl, by rw [ES.out]⟩
    case round =>
      obtain ⟨k, hk, rfl, rfl⟩ := hrel
      by_cases hlt : k < n.length
      · have e3 : (k : Int) < (n.length : Int) := by omega
        have e4 : (0 : Int) ≤ (k : Int) := by omega
        have hst := sm_step n k hlt
        have hb := u8_le n[k]
        cases hsm : sm n k with
        | false =>
          have E := Lib.hid (show sm n (k + 1) = false by rw [hst, hsm]; rfl)
          clear hst hsm
          go_wp2
          go_round
          case rel => exact ⟨k + 1, by omega, by go_num, by rw [E.out]⟩
          case measure => simp [intOf]; omega
        | true =>
          rw [hsm, Bool.true_and] at hst
          have HST := Lib.hid hst; clear hst hsm
          by_cases c1 : 97 ≤ n[k].toNat
          · have s1 : decide ((97 : Int) ≤ (n[k].toNat : Int)) = true := by simp; omega
            by_cases c2 : n[k].toNat ≤ 122
            · have s2 : decide ((n[k].toNat : Int) ≤ 122) = true := by simp; omega
              have E := Lib.hid (HST.out.trans (show wordB n[k] = true by simp [wordB, smallB]; omega))
              clear c1 c2
              go_wp2
              go_round
              case rel => exact ⟨k + 1, by omega, by go_num, by rw [E.out]⟩
              case measure => simp [intOf]; omega
            · have s2 : decide ((n[k].toNat : Int) ≤ 122) = false := by simp; omega
              have s3 : decide ((48 : Int) ≤ (n[k].toNat : Int)) = true := by simp; omega
              have s4 : decide ((n[k].toNat : Int) ≤ 57) = false := by simp; omega
              have E := Lib.hid (HST.out.trans (show wordB n[k] = false by simp [wordB, smallB]; omega))
              clear c1 c2
              go_wp2
              go_round
              case rel => exact ⟨k + 1, by omega, by go_num, by rw [E.out]⟩
              case measure => simp [intOf]; omega
          · have s1 : decide ((97 : Int) ≤ (n[k].toNat : Int)) = false := by simp; omega
            by_cases c2 : 48 ≤ n[k].toNat
            · have s3 : decide ((48 : Int) ≤ (n[k].toNat : Int)) = true := by simp; omega
              by_cases c3 : n[k].toNat ≤ 57
              · have s4 : decide ((n[k].toNat : Int) ≤ 57) = true := by simp; omega
                have E := Lib.hid (HST.out.trans (show wordB n[k] = true by simp [wordB, smallB]; omega))
                clear c1 c2 c3
                go_wp2
                go_round
                case rel => exact ⟨k + 1, by omega, by go_num, by rw [E.out]⟩
                case measure => simp [intOf]; omega
              · have s4 : decide ((n[k].toNat : Int) ≤ 57) = false := by simp; omega
                have E := Lib.hid (HST.out.trans (show wordB n[k] = false by simp [wordB, smallB]; omega))
                clear c1 c2 c3
                go_wp2
                go_round
                case rel => exact ⟨k + 1, by omega, by go_num, by rw [E.out]⟩
                case measure => simp [intOf]; omega
            · have s3 : decide ((48 : Int) ≤ (n[k].toNat : Int)) = false := by simp; omega
              have E := Lib.hid (HST.out.trans (show wordB n[k] = false by simp [wordB, smallB]; omega))
              clear c1 c2
              go_wp2
              go_round
              case rel => exact ⟨k + 1, by omega, by go_num, by rw [E.out]⟩
              case measure => simp [intOf]; omega
      · obtain rfl : k = n.length := by omega
        have e3 : ¬ (n.length : Int) < (n.length : Int) := by omega
        have hse : sm n n.length = false := by rw [sm_all]; exact HS.out
        rw [hse]
        clear hse
        go_wp2_with (first
          | (go_at_call 12; with_reducible refine Calls.mono (T1.out _) ?_; rintro e w1 ⟨rfl, hb⟩; replace H := Lib.hid (H.out.trans (hb.mono H.out.size)); clear hb)
          | (go_at_call 29; with_reducible refine Calls.mono (P1.out _) ?_; rintro e w2 ⟨rfl, hb⟩; replace H := Lib.hid (H.out.trans (hb.mono H.out.size)); clear hb)
          | (go_at_call 29; with_reducible refine Calls.mono (P2.out _) ?_; rintro e w3 ⟨rfl, hb⟩; replace H := Lib.hid (H.out.trans (hb.mono H.out.size)); clear hb)
          | (go_at_call 27; with_reducible refine Calls.mono (G1.out _) ?_; rintro e w4 ⟨rfl, rfl⟩)
            | (go_at_call 27; with_reducible refine Calls.mono (G2.out _) ?_; rintro e w5 ⟨rfl, rfl⟩)
          | (go_at_call 17; with_reducible refine Calls.mono (I1.out _) ?_; rintro e w6 ⟨rfl, hb⟩; replace H := Lib.hid (H.out.trans (hb.mono H.out.size)); clear hb)
          | (go_at_call 31; with_reducible refine Calls.mono (CK.out _) ?_; rintro e w7 ⟨rfl, hb⟩; replace H := Lib.hid (H.out.trans (hb.mono H.out.size)); clear hb))
        go_ret
        exact ⟨rfl, H.out⟩

set_option maxHeartbeats 3200000 in
set_option maxRecDepth 100000 in
theorem princs_f_f (n r : L) (w : World) (hn : n.length ≤ 60) (hr : r.length ≤ 60) (hs : wordL wordB n = false) (ht : tgL n = false) : Calls Try.prog 11 #[.string ⟨n.toArray⟩, .string ⟨r.toArray⟩] w fun e w' => e = .returned (.bool true) ∧ Below w.heap.size w w' := by
  have e1 : ¬ (60 : Int) < (n.length : Int) := by omega
  have e2 : ¬ (60 : Int) < (r.length : Int) := by omega
  have t1 := fun w1 => target_any n w1 (by omega)
  rw [ht] at t1
  have T1 := Lib.hid t1; clear t1
  have p1 := fun w1 => isprinc_any [69, 68, 85] n w1 (by decide) (by omega)
  rw [princ_edu, hs, ht, show (false || false) = false from rfl] at p1
  have P1 := Lib.hid p1; clear p1
  have p2 := fun w1 => isprinc_any [69, 68, 85] (krb ++ r) w1 (by decide) (by simp [krb]; omega)
  rw [princ_krb] at p2
  have P2 := Lib.hid p2; clear p2
  have G2 := Lib.hid (fun w1 => krbtgt_any r w1 (by omega))
  have I1 := Lib.hid (fun w1 => ris_any r w1 (by omega))
  have CK := Lib.hid (fun w1 => known_any w1)
  have HS := Lib.hid hs; clear hs
  have HT := Lib.hid ht; clear ht
  have H := Lib.hid (Below.refl w.heap.size w)
  have E0 := Lib.hid (sm_zero n)
  by_cases g1 : 1 ≤ n.length
  · by_cases g8 : n.length ≤ 8
    · have q1 : decide ((1 : Int) ≤ (n.length : Int)) = true := by simp; omega
      have q8 : decide ((n.length : Int) ≤ 8) = true := by simp; omega
      have ES := Lib.hid (show sm n 0 = true by rw [sm_zero]; simp [g1, g8])
      clear g1 g8
      go_enter Try.func11, Try.ntmps11
      go_wp2
      go_loop [5, 6] (fun sv iv => ∃ k : Nat, k ≤ n.length ∧ iv = .int .i64 (k : Int) ∧ sv = .bool (sm n k)) (fun _ iv => n.length - (intOf iv).toNat)
      case atStart => exact ⟨0, Nat.zero_le _, rfl, by rw [ES.out]⟩
      case round =>
        obtain ⟨k, hk, rfl, rfl⟩ := hrel
        by_cases hlt : k < n.length
        · have e3 : (k : Int) < (n.length : Int) := by omega
          have e4 : (0 : Int) ≤ (k : Int) := by omega
          have hst := sm_step n k hlt
          have hb := u8_le n[k]
          cases hsm : sm n k with
          | false =>
            have E := Lib.hid (show sm n (k + 1) = false by rw [hst, hsm]; rfl)
            clear hst hsm
            go_wp2
            go_round
            case rel => exact ⟨k + 1, by omega, by go_num, by rw [E.out]⟩
            case measure => simp [intOf]; omega
          | true =>
            rw [hsm, Bool.true_and] at hst
            have HST := Lib.hid hst; clear hst hsm
            by_cases c1 : 97 ≤ n[k].toNat
            · have s1 : decide ((97 : Int) ≤ (n[k].toNat : Int)) = true := by simp; omega
              by_cases c2 : n[k].toNat ≤ 122
              · have s2 : decide ((n[k].toNat : Int) ≤ 122) = true := by simp; omega
                have E := Lib.hid (HST.out.trans (show wordB n[k] = true by simp [wordB, smallB]; omega))
                clear c1 c2
                go_wp2
                go_round
                case rel => exact ⟨k + 1, by omega, by go_num, by rw [E.out]⟩
                case measure => simp [intOf]; omega
              · have s2 : decide ((n[k].toNat : Int) ≤ 122) = false := by simp; omega
                have s3 : decide ((48 : Int) ≤ (n[k].toNat : Int)) = true := by simp; omega
                have s4 : decide ((n[k].toNat : Int) ≤ 57) = false := by simp; omega
                have E := Lib.hid (HST.out.trans (show wordB n[k] = false by simp [wordB, smallB]; omega))
                clear c1 c2
                go_wp2
                go_round
                case rel => exact ⟨k + 1, by omega, by go_num, by rw [E.out]⟩
                case measure => simp [intOf]; omega
            · have s1 : decide ((97 : Int) ≤ (n[k].toNat : Int)) = false := by simp; omega
              by_cases c2 : 48 ≤ n[k].toNat
              · have s3 : decide ((48 : Int) ≤ (n[k].toNat : Int)) = true := by simp; omega
                by_cases c3 : n[k].toNat ≤ 57
                · have s4 : decide ((n[k].toNat : Int) ≤ 57) = true := by simp; omega
                  have E := Lib.hid (HST.out.trans (show wordB n[k] = true by simp [wordB, smallB]; omega))
                  clear c1 c2 c3
                  go_wp2
                  go_round
                  case rel => exact ⟨k + 1, by omega, by go_num, by rw [E.out]⟩
                  case measure => simp [intOf]; omega
                · have s4 : decide ((n[k].toNat : Int) ≤ 57) = false := by simp; omega
                  have E := Lib.hid (HST.out.trans (show wordB n[k] = false by simp [wordB, smallB]; omega))
                  clear c1 c2 c3
                  go_wp2
                  go_round
                  case rel => exact ⟨k + 1, by omega, by go_num, by rw [E.out]⟩
                  case measure => simp [intOf]; omega
              · have s3 : decide ((48 : Int) ≤ (n[k].toNat : Int)) = false := by simp; omega
                have E := Lib.hid (HST.out.trans (show wordB n[k] = false by simp [wordB, smallB]; omega))
                clear c1 c2
                go_wp2
                go_round
                case rel => exact ⟨k + 1, by omega, by go_num, by rw [E.out]⟩
                case measure => simp [intOf]; omega
        · obtain rfl : k = n.length := by omega
          have e3 : ¬ (n.length : Int) < (n.length : Int) := by omega
          have hse : sm n n.length = false := by rw [sm_all]; exact HS.out
          rw [hse]
          clear hse
          go_wp2_with (first
            | (go_at_call 12; with_reducible refine Calls.mono (T1.out _) ?_; rintro e w1 ⟨rfl, hb⟩; replace H := Lib.hid (H.out.trans (hb.mono H.out.size)); clear hb)
            | (go_at_call 29; with_reducible refine Calls.mono (P1.out _) ?_; rintro e w2 ⟨rfl, hb⟩; replace H := Lib.hid (H.out.trans (hb.mono H.out.size)); clear hb)
            | (go_at_call 29; with_reducible refine Calls.mono (P2.out _) ?_; rintro e w3 ⟨rfl, hb⟩; replace H := Lib.hid (H.out.trans (hb.mono H.out.size)); clear hb)
            | (go_at_call 27; with_reducible refine Calls.mono (G2.out _) ?_; rintro e w5 ⟨rfl, rfl⟩)
            | (go_at_call 17; with_reducible refine Calls.mono (I1.out _) ?_; rintro e w6 ⟨rfl, hb⟩; replace H := Lib.hid (H.out.trans (hb.mono H.out.size)); clear hb)
            | (go_at_call 31; with_reducible refine Calls.mono (CK.out _) ?_; rintro e w7 ⟨rfl, hb⟩; replace H := Lib.hid (H.out.trans (hb.mono H.out.size)); clear hb))
          go_ret
          exact ⟨rfl, H.out⟩
    · have q1 : decide ((1 : Int) ≤ (n.length : Int)) = true := by simp; omega
      have q8 : decide ((n.length : Int) ≤ 8) = false := by simp; omega
      have ES := Lib.hid (show sm n 0 = false by rw [sm_zero]; simp [g8])
      clear g1 g8
      go_enter Try.func11, Try.ntmps11
      go_wp2
      go_loop [5, 6] (fun sv iv => ∃ k : Nat, k ≤ n.length ∧ iv = .int .i64 (k : Int) ∧ sv = .bool (sm n k)) (fun _ iv => n.length - (intOf iv).toNat)
      case atStart => exact ⟨0, Nat.zero_le _, rfl, by rw [ES.out]⟩
      case round =>
        obtain ⟨k, hk, rfl, rfl⟩ := hrel
        by_cases hlt : k < n.length
        · have e3 : (k : Int) < (n.length : Int) := by omega
          have e4 : (0 : Int) ≤ (k : Int) := by omega
          have hst := sm_step n k hlt
          have hb := u8_le n[k]
          cases hsm : sm n k with
          | false =>
            have E := Lib.hid (show sm n (k + 1) = false by rw [hst, hsm]; rfl)
            clear hst hsm
            go_wp2
            go_round
            case rel => exact ⟨k + 1, by omega, by go_num, by rw [E.out]⟩
            case measure => simp [intOf]; omega
          | true =>
            rw [hsm, Bool.true_and] at hst
            have HST := Lib.hid hst; clear hst hsm
            by_cases c1 : 97 ≤ n[k].toNat
            · have s1 : decide ((97 : Int) ≤ (n[k].toNat : Int)) = true := by simp; omega
              by_cases c2 : n[k].toNat ≤ 122
              · have s2 : decide ((n[k].toNat : Int) ≤ 122) = true := by simp; omega
                have E := Lib.hid (HST.out.trans (show wordB n[k] = true by simp [wordB, smallB]; omega))
                clear c1 c2
                go_wp2
                go_round
                case rel => exact ⟨k + 1, by omega, by go_num, by rw [E.out]⟩
                case measure => simp [intOf]; omega
              · have s2 : decide ((n[k].toNat : Int) ≤ 122) = false := by simp; omega
                have s3 : decide ((48 : Int) ≤ (n[k].toNat : Int)) = true := by simp; omega
                have s4 : decide ((n[k].toNat : Int) ≤ 57) = false := by simp; omega
                have E := Lib.hid (HST.out.trans (show wordB n[k] = false by simp [wordB, smallB]; omega))
                clear c1 c2
                go_wp2
                go_round
                case rel => exact ⟨k + 1, by omega, by go_num, by rw [E.out]⟩
                case measure => simp [intOf]; omega
            · have s1 : decide ((97 : Int) ≤ (n[k].toNat : Int)) = false := by simp; omega
              by_cases c2 : 48 ≤ n[k].toNat
              · have s3 : decide ((48 : Int) ≤ (n[k].toNat : Int)) = true := by simp; omega
                by_cases c3 : n[k].toNat ≤ 57
                · have s4 : decide ((n[k].toNat : Int) ≤ 57) = true := by simp; omega
                  have E := Lib.hid (HST.out.trans (show wordB n[k] = true by simp [wordB, smallB]; omega))
                  clear c1 c2 c3
                  go_wp2
                  go_round
                  case rel => exact ⟨k + 1, by omega, by go_num, by rw [E.out]⟩
                  case measure => simp [intOf]; omega
                · have s4 : decide ((n[k].toNat : Int) ≤ 57) = false := by simp; omega
                  have E := Lib.hid (HST.out.trans (show wordB n[k] = false by simp [wordB, smallB]; omega))
                  clear c1 c2 c3
                  go_wp2
                  go_round
                  case rel => exact ⟨k + 1, by omega, by go_num, by rw [E.out]⟩
                  case measure => simp [intOf]; omega
              · have s3 : decide ((48 : Int) ≤ (n[k].toNat : Int)) = false := by simp; omega
                have E := Lib.hid (HST.out.trans (show wordB n[k] = false by simp [wordB, smallB]; omega))
                clear c1 c2
                go_wp2
                go_round
                case rel => exact ⟨k + 1, by omega, by go_num, by rw [E.out]⟩
                case measure => simp [intOf]; omega
        · obtain rfl : k = n.length := by omega
          have e3 : ¬ (n.length : Int) < (n.length : Int) := by omega
          have hse : sm n n.length = false := by rw [sm_all]; exact HS.out
          rw [hse]
          clear hse
          go_wp2_with (first
            | (go_at_call 12; with_reducible refine Calls.mono (T1.out _) ?_; rintro e w1 ⟨rfl, hb⟩; replace H := Lib.hid (H.out.trans (hb.mono H.out.size)); clear hb)
            | (go_at_call 29; with_reducible refine Calls.mono (P1.out _) ?_; rintro e w2 ⟨rfl, hb⟩; replace H := Lib.hid (H.out.trans (hb.mono H.out.size)); clear hb)
            | (go_at_call 29; with_reducible refine Calls.mono (P2.out _) ?_; rintro e w3 ⟨rfl, hb⟩; replace H := Lib.hid (H.out.trans (hb.mono H.out.size)); clear hb)
            | (go_at_call 27; with_reducible refine Calls.mono (G2.out _) ?_; rintro e w5 ⟨rfl, rfl⟩)
            | (go_at_call 17; with_reducible refine Calls.mono (I1.out _) ?_; rintro e w6 ⟨rfl, hb⟩; replace H := Lib.hid (H.out.trans (hb.mono H.out.size)); clear hb)
            | (go_at_call 31; with_reducible refine Calls.mono (CK.out _) ?_; rintro e w7 ⟨rfl, hb⟩; replace H := Lib.hid (H.out.trans (hb.mono H.out.size)); clear hb))
          go_ret
          exact ⟨rfl, H.out⟩
  · have q1 : decide ((1 : Int) ≤ (n.length : Int)) = false := by simp; omega
    have ES := Lib.hid (show sm n 0 = false by rw [sm_zero]; simp [g1])
    clear g1
    go_enter Try.func11, Try.ntmps11
    go_wp2
    go_loop [5, 6] (fun sv iv => ∃ k : Nat, k ≤ n.length ∧ iv = .int .i64 (k : Int) ∧ sv = .bool (sm n k)) (fun _ iv => n.length - (intOf iv).toNat)
    case atStart => exact ⟨0, Nat.zero_le _, rfl, by rw [ES.out]⟩
    case round =>
      obtain ⟨k, hk, rfl, rfl⟩ := hrel
      by_cases hlt : k < n.length
      · have e3 : (k : Int) < (n.length : Int) := by omega
        have e4 : (0 : Int) ≤ (k : Int) := by omega
        have hst := sm_step n k hlt
        have hb := u8_le n[k]
        cases hsm : sm n k with
        | false =>
          have E := Lib.hid (show sm n (k + 1) = false by rw [hst, hsm]; rfl)
          clear hst hsm
          go_wp2
          go_round
          case rel => exact ⟨k + 1, by omega, by go_num, by rw [E.out]⟩
          case measure => simp [intOf]; omega
        | true =>
          rw [hsm, Bool.true_and] at hst
          have HST := Lib.hid hst; clear hst hsm
          by_cases c1 : 97 ≤ n[k].toNat
          · have s1 : decide ((97 : Int) ≤ (n[k].toNat : Int)) = true := by simp; omega
            by_cases c2 : n[k].toNat ≤ 122
            · have s2 : decide ((n[k].toNat : Int) ≤ 122) = true := by simp; omega
              have E := Lib.hid (HST.out.trans (show wordB n[k] = true by simp [wordB, smallB]; omega))
              clear c1 c2
              go_wp2
              go_round
              case rel => exact ⟨k + 1, by omega, by go_num, by rw [E.out]⟩
              case measure => simp [intOf]; omega
            · have s2 : decide ((n[k].toNat : Int) ≤ 122) = false := by simp; omega
              have s3 : decide ((48 : Int) ≤ (n[k].toNat : Int)) = true := by simp; omega
              have s4 : decide ((n[k].toNat : Int) ≤ 57) = false := by simp; omega
              have E := Lib.hid (HST.out.trans (show wordB n[k] = false by simp [wordB, smallB]; omega))
              clear c1 c2
              go_wp2
              go_round
              case rel => exact ⟨k + 1, by omega, by go_num, by rw [E.out]⟩
              case measure => simp [intOf]; omega
          · have s1 : decide ((97 : Int) ≤ (n[k].toNat : Int)) = false := by simp; omega
            by_cases c2 : 48 ≤ n[k].toNat
            · have s3 : decide ((48 : Int) ≤ (n[k].toNat : Int)) = true := by simp; omega
              by_cases c3 : n[k].toNat ≤ 57
              · have s4 : decide ((n[k].toNat : Int) ≤ 57) = true := by simp; omega
                have E := Lib.hid (HST.out.trans (show wordB n[k] = true by simp [wordB, smallB]; omega))
                clear c1 c2 c3
                go_wp2
                go_round
                case rel => exact ⟨k + 1, by omega, by go_num, by rw [E.out]⟩
                case measure => simp [intOf]; omega
              · have s4 : decide ((n[k].toNat : Int) ≤ 57) = false := by simp; omega
                have E := Lib.hid (HST.out.trans (show wordB n[k] = false by simp [wordB, smallB]; omega))
                clear c1 c2 c3
                go_wp2
                go_round
                case rel => exact ⟨k + 1, by omega, by go_num, by rw [E.out]⟩
                case measure => simp [intOf]; omega
            · have s3 : decide ((48 : Int) ≤ (n[k].toNat : Int)) = false := by simp; omega
              have E := Lib.hid (HST.out.trans (show wordB n[k] = false by simp [wordB, smallB]; omega))
              clear c1 c2
              go_wp2
              go_round
              case rel => exact ⟨k + 1, by omega, by go_num, by rw [E.out]⟩
              case measure => simp [intOf]; omega
      · obtain rfl : k = n.length := by omega
        have e3 : ¬ (n.length : Int) < (n.length : Int) := by omega
        have hse : sm n n.length = false := by rw [sm_all]; exact HS.out
        rw [hse]
        clear hse
        go_wp2_with (first
          | (go_at_call 12; with_reducible refine Calls.mono (T1.out _) ?_; rintro e w1 ⟨rfl, hb⟩; replace H := Lib.hid (H.out.trans (hb.mono H.out.size)); clear hb)
          | (go_at_call 29; with_reducible refine Calls.mono (P1.out _) ?_; rintro e w2 ⟨rfl, hb⟩; replace H := Lib.hid (H.out.trans (hb.mono H.out.size)); clear hb)
          | (go_at_call 29; with_reducible refine Calls.mono (P2.out _) ?_; rintro e w3 ⟨rfl, hb⟩; replace H := Lib.hid (H.out.trans (hb.mono H.out.size)); clear hb)
          | (go_at_call 27; with_reducible refine Calls.mono (G2.out _) ?_; rintro e w5 ⟨rfl, rfl⟩)
          | (go_at_call 17; with_reducible refine Calls.mono (I1.out _) ?_; rintro e w6 ⟨rfl, hb⟩; replace H := Lib.hid (H.out.trans (hb.mono H.out.size)); clear hb)
          | (go_at_call 31; with_reducible refine Calls.mono (CK.out _) ?_; rintro e w7 ⟨rfl, hb⟩; replace H := Lib.hid (H.out.trans (hb.mono H.out.size)); clear hb))
        go_ret
        exact ⟨rfl, H.out⟩

theorem princs_no (n r : L) (w : World) (hs : 60 < n.length ∨ 60 < r.length) : Calls Try.prog 11 #[.string ⟨n.toArray⟩, .string ⟨r.toArray⟩] w fun e w' => e = .returned (.bool true) ∧ Below w.heap.size w w' := by
  have HB := Lib.hid (Below.refl w.heap.size w)
  by_cases h : 60 < n.length
  · have e1 : (60 : Int) < (n.length : Int) := by omega
    clear hs
    go_enter Try.func11, Try.ntmps11
    go_wp2
    go_ret
    exact ⟨rfl, HB.out⟩
  · have e1 : ¬ (60 : Int) < (n.length : Int) := by omega
    have e2 : (60 : Int) < (r.length : Int) := by omega
    clear hs
    go_enter Try.func11, Try.ntmps11
    go_wp2
    go_ret
    exact ⟨rfl, HB.out⟩
theorem princs_ (s1 s2 : ByteArray) (w : World) (h1 : s1.data.toList.length ≤ reachBytes) (h2 : s2.data.toList.length ≤ reachBytes) : Calls Try.prog 11 #[.string s1, .string s2] w fun e w' => e = .returned (.bool true) ∧ Below w.heap.size w w' := by
  obtain ⟨n, rfl⟩ : ∃ a : L, s1 = ⟨a.toArray⟩ := ⟨_, bytes_eta s1⟩
  obtain ⟨r, rfl⟩ : ∃ a : L, s2 = ⟨a.toArray⟩ := ⟨_, bytes_eta s2⟩
  by_cases h : n.length ≤ 60 ∧ r.length ≤ 60
  · cases hs : wordL wordB n with
    | true =>
      cases ht : tgL n with
      | true => exact princs_t_t n r w h.1 h.2 hs ht
      | false => exact princs_t_f n r w h.1 h.2 hs ht
    | false =>
      cases ht : tgL n with
      | true => exact princs_f_t n r w h.1 h.2 hs ht
      | false => exact princs_f_f n r w h.1 h.2 hs ht
  · exact princs_no n r w (by omega)
end Go.Proofs.Ytpjilcngibaepaa.NmW
