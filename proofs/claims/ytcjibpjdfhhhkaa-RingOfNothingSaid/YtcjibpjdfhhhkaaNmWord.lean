/-
  The code's letters and labels of chapter 5: isCapital, isSmall, isSmallOrDigit, isWord.
-/
import Derived.Test.YtcjibpjdfhhhkaaMem
import Derived.Test.YtcjibpjdfhhhkaaNmPlain2
import Derived.Test.YtcjibpjdfhhhkaaProg
namespace Go.Proofs.Ytcjibpjdfhhhkaa.Nm
open Go.RowKit Go.Proofs.Ytcjibpjdfhhhkaa.Mem
attribute [local go_sem] mk_at List.getElem_cons_zero List.getElem_cons_succ

theorem capital_any (b : UInt8) (w : World) : Calls Try.prog 71 #[.int .u8 (b.toNat : Int)] w fun e w' => e = .returned (.bool (capB b)) ∧ w = w' := by
  have hb := u8_le b
  by_cases h1 : 65 ≤ b.toNat
  · have g1 : decide (65 ≤ (b.toNat : Int)) = true := by simp; omega
    by_cases h2 : b.toNat ≤ 90
    · have g2 : decide ((b.toNat : Int) ≤ 90) = true := by simp; omega
      have E := Lib.hid (show capB b = true by simp [capB, h1, h2])
      clear h1 h2
      go_enter Try.func71, Try.ntmps71
      go_wp2
      go_ret
      exact ⟨by rw [E.out]; rfl, rfl⟩
    · have g2 : decide ((b.toNat : Int) ≤ 90) = false := by simp; omega
      have E := Lib.hid (show capB b = false by simp [capB, h2])
      clear h1 h2
      go_enter Try.func71, Try.ntmps71
      go_wp2
      go_ret
      exact ⟨by rw [E.out]; rfl, rfl⟩
  · have g1 : decide (65 ≤ (b.toNat : Int)) = false := by simp; omega
    have E := Lib.hid (show capB b = false by simp [capB, h1])
    clear h1
    go_enter Try.func71, Try.ntmps71
    go_wp2
    go_ret
    exact ⟨by rw [E.out]; rfl, rfl⟩

theorem small_any (b : UInt8) (w : World) : Calls Try.prog 47 #[.int .u8 (b.toNat : Int)] w fun e w' => e = .returned (.bool (smallB b)) ∧ w = w' := by
  have hb := u8_le b
  by_cases h1 : 97 ≤ b.toNat
  · have g1 : decide (97 ≤ (b.toNat : Int)) = true := by simp; omega
    by_cases h2 : b.toNat ≤ 122
    · have g2 : decide ((b.toNat : Int) ≤ 122) = true := by simp; omega
      have E := Lib.hid (show smallB b = true by simp [smallB, h1, h2])
      clear h1 h2
      go_enter Try.func47, Try.ntmps47
      go_wp2
      go_ret
      exact ⟨by rw [E.out]; rfl, rfl⟩
    · have g2 : decide ((b.toNat : Int) ≤ 122) = false := by simp; omega
      have E := Lib.hid (show smallB b = false by simp [smallB, h2])
      clear h1 h2
      go_enter Try.func47, Try.ntmps47
      go_wp2
      go_ret
      exact ⟨by rw [E.out]; rfl, rfl⟩
  · have g1 : decide (97 ≤ (b.toNat : Int)) = false := by simp; omega
    have E := Lib.hid (show smallB b = false by simp [smallB, h1])
    clear h1
    go_enter Try.func47, Try.ntmps47
    go_wp2
    go_ret
    exact ⟨by rw [E.out]; rfl, rfl⟩

theorem smalldig_any (b : UInt8) (w : World) : Calls Try.prog 37 #[.int .u8 (b.toNat : Int)] w fun e w' => e = .returned (.bool (wordB b)) ∧ w = w' := by
  have hb := u8_le b
  have c1 := small_any b w
  by_cases h0 : smallB b = true
  · have E := Lib.hid (show wordB b = true by simp [wordB, h0])
    rw [h0] at c1
    clear h0
    go_enter Try.func37, Try.ntmps37
    go_wp2_with (go_at_call 47; refine Calls.mono c1 ?_; rintro e w1 ⟨rfl, rfl⟩)
    go_ret
    exact ⟨by rw [E.out]; rfl, rfl⟩
  · have h0 : smallB b = false := by simpa using h0
    rw [h0] at c1
    by_cases h1 : 48 ≤ b.toNat
    · have g1 : decide (48 ≤ (b.toNat : Int)) = true := by simp; omega
      by_cases h2 : b.toNat ≤ 57
      · have g2 : decide ((b.toNat : Int) ≤ 57) = true := by simp; omega
        have E := Lib.hid (show wordB b = true by simp [wordB, h1, h2])
        clear h1 h2 h0
        go_enter Try.func37, Try.ntmps37
        go_wp2_with (go_at_call 47; refine Calls.mono c1 ?_; rintro e w1 ⟨rfl, rfl⟩)
        go_ret
        exact ⟨by rw [E.out]; rfl, rfl⟩
      · have g2 : decide ((b.toNat : Int) ≤ 57) = false := by simp; omega
        have E := Lib.hid (show wordB b = false by simp [wordB, h2, h0])
        clear h1 h2 h0
        go_enter Try.func37, Try.ntmps37
        go_wp2_with (go_at_call 47; refine Calls.mono c1 ?_; rintro e w1 ⟨rfl, rfl⟩)
        go_ret
        exact ⟨by rw [E.out]; rfl, rfl⟩
    · have g1 : decide (48 ≤ (b.toNat : Int)) = false := by simp; omega
      have E := Lib.hid (show wordB b = false by simp [wordB, h1, h0])
      clear h1 h0
      go_enter Try.func37, Try.ntmps37
      go_wp2_with (go_at_call 47; refine Calls.mono c1 ?_; rintro e w1 ⟨rfl, rfl⟩)
      go_ret
      exact ⟨by rw [E.out]; rfl, rfl⟩

theorem word_all {p : UInt8 → Bool} {l : L} (h : ∀ i (h : i < l.length), p l[i] = true) (h1 : 1 ≤ l.length) (h8 : l.length ≤ 8) : wordL p l = true := by
  rw [wordL_iff]
  refine ⟨h1, h8, ?_⟩
  rw [List.all_eq_true]
  intro x hx
  obtain ⟨i, hi, rfl⟩ := List.getElem_of_mem hx
  exact h i hi
theorem word_bad {p : UInt8 → Bool} {l : L} {i : Nat} (hi : i < l.length) (h : p l[i] = false) : wordL p l = false := by
  cases e : wordL p l with
  | false => rfl
  | true =>
    have := ((wordL_iff p l).1 e).2.2
    rw [List.all_eq_true] at this
    have := this _ (List.getElem_mem hi)
    rw [h] at this; cases this
theorem word_short {p : UInt8 → Bool} {l : L} (h : l.length < 1) : wordL p l = false := by simp [wordL]; omega
theorem word_long {p : UInt8 → Bool} {l : L} (h : 8 < l.length) : wordL p l = false := by simp [wordL]; omega

/-- all of the first k fit -/
def Fit (p : UInt8 → Bool) (l : L) (k : Nat) : Prop := ∀ i (h : i < l.length), i < k → p l[i] = true

set_option maxHeartbeats 800000 in
theorem isword_cap (l : L) (w : World) (hs : l.length ≤ 1000000000) : Calls Try.prog 36 #[.string ⟨l.toArray⟩, .func (.func 71) #[] #[]] w fun e w' => e = .returned (.bool (wordL capB l)) ∧ w = w' := by
  by_cases h1 : l.length < 1
  · have E := Lib.hid (word_short (p := capB) h1)
    have g1 : decide ((l.length : Int) < 1) = true := by simp; omega
    clear h1
    go_enter Try.func36, Try.ntmps36
    go_wp2
    go_ret
    exact ⟨by rw [E.out]; rfl, rfl⟩
  · have g1 : decide ((l.length : Int) < 1) = false := by simp; omega
    by_cases h2 : 8 < l.length
    · have E := Lib.hid (word_long (p := capB) h2)
      have g2 : decide (8 < (l.length : Int)) = true := by simp; omega
      clear h1 h2
      go_enter Try.func36, Try.ntmps36
      go_wp2
      go_ret
      exact ⟨by rw [E.out]; rfl, rfl⟩
    · have g2 : decide (8 < (l.length : Int)) = false := by simp; omega
      have HA := Lib.hid (fun h => word_all (p := capB) (l := l) h (by omega) (by omega))
      clear h1 h2
      go_enter Try.func36, Try.ntmps36
      go_wp2
      go_loop [16] (fun iv => ∃ k : Nat, k ≤ l.length ∧ iv = .int .i64 (k : Int) ∧ Fit capB l k) (fun iv => l.length - (intOf iv).toNat)
      case atStart => exact ⟨0, Nat.zero_le _, rfl, fun i _ h => by omega⟩
      case round =>
        obtain ⟨k, hk, rfl, hf⟩ := hrel
        by_cases hlt : k < l.length
        · have e1 : (k : Int) < (l.length : Int) := by omega
          have c1 := capital_any l[k] w
          have HF := Lib.hid hf; clear hf
          by_cases hp : capB l[k] = true
          · rw [hp] at c1
            have HP := Lib.hid hp; clear hp
            go_wp2_with (go_at_call 71; refine Calls.mono c1 ?_; rintro e w1 ⟨rfl, rfl⟩)
            go_round
            case rel => exact ⟨k + 1, by omega, by go_num, fun i hi hik => by
              by_cases q : i = k
              · subst q; exact HP.out
              · exact HF.out i hi (by omega)⟩
            case measure => simp [intOf]; omega
          · have hp : capB l[k] = false := by simpa using hp
            rw [hp] at c1
            have E := Lib.hid (word_bad hlt hp); clear hp
            go_wp2_with (go_at_call 71; refine Calls.mono c1 ?_; rintro e w1 ⟨rfl, rfl⟩)
            go_ret
            exact ⟨by rw [E.out]; rfl, rfl⟩
        · have HF := Lib.hid hf; clear hf
          have E := Lib.hid (HA.out (fun i hi => HF.out i hi (by omega)))
          have e1 : ¬ (k : Int) < (l.length : Int) := by omega
          go_wp2
          go_ret
          exact ⟨by rw [E.out]; rfl, rfl⟩

set_option maxHeartbeats 800000 in
theorem isword_sd (l : L) (w : World) (hs : l.length ≤ 1000000000) : Calls Try.prog 36 #[.string ⟨l.toArray⟩, .func (.func 37) #[] #[]] w fun e w' => e = .returned (.bool (wordL wordB l)) ∧ w = w' := by
  by_cases h1 : l.length < 1
  · have E := Lib.hid (word_short (p := wordB) h1)
    have g1 : decide ((l.length : Int) < 1) = true := by simp; omega
    clear h1
    go_enter Try.func36, Try.ntmps36
    go_wp2
    go_ret
    exact ⟨by rw [E.out]; rfl, rfl⟩
  · have g1 : decide ((l.length : Int) < 1) = false := by simp; omega
    by_cases h2 : 8 < l.length
    · have E := Lib.hid (word_long (p := wordB) h2)
      have g2 : decide (8 < (l.length : Int)) = true := by simp; omega
      clear h1 h2
      go_enter Try.func36, Try.ntmps36
      go_wp2
      go_ret
      exact ⟨by rw [E.out]; rfl, rfl⟩
    · have g2 : decide (8 < (l.length : Int)) = false := by simp; omega
      have HA := Lib.hid (fun h => word_all (p := wordB) (l := l) h (by omega) (by omega))
      clear h1 h2
      go_enter Try.func36, Try.ntmps36
      go_wp2
      go_loop [16] (fun iv => ∃ k : Nat, k ≤ l.length ∧ iv = .int .i64 (k : Int) ∧ Fit wordB l k) (fun iv => l.length - (intOf iv).toNat)
      case atStart => exact ⟨0, Nat.zero_le _, rfl, fun i _ h => by omega⟩
      case round =>
        obtain ⟨k, hk, rfl, hf⟩ := hrel
        by_cases hlt : k < l.length
        · have e1 : (k : Int) < (l.length : Int) := by omega
          have c1 := smalldig_any l[k] w
          have HF := Lib.hid hf; clear hf
          by_cases hp : wordB l[k] = true
          · rw [hp] at c1
            have HP := Lib.hid hp; clear hp
            go_wp2_with (go_at_call 37; refine Calls.mono c1 ?_; rintro e w1 ⟨rfl, rfl⟩)
            go_round
            case rel => exact ⟨k + 1, by omega, by go_num, fun i hi hik => by
              by_cases q : i = k
              · subst q; exact HP.out
              · exact HF.out i hi (by omega)⟩
            case measure => simp [intOf]; omega
          · have hp : wordB l[k] = false := by simpa using hp
            rw [hp] at c1
            have E := Lib.hid (word_bad hlt hp); clear hp
            go_wp2_with (go_at_call 37; refine Calls.mono c1 ?_; rintro e w1 ⟨rfl, rfl⟩)
            go_ret
            exact ⟨by rw [E.out]; rfl, rfl⟩
        · have HF := Lib.hid hf; clear hf
          have E := Lib.hid (HA.out (fun i hi => HF.out i hi (by omega)))
          have e1 : ¬ (k : Int) < (l.length : Int) := by omega
          go_wp2
          go_ret
          exact ⟨by rw [E.out]; rfl, rfl⟩

end Go.Proofs.Ytcjibpjdfhhhkaa.Nm
