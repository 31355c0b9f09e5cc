/-
  The small self-test that every law of chapter 5 ends with, and the laws' own look whether two rows are one.
-/
import Derived.Test.YtpjilcngibaepaaNmBet
set_option linter.unusedVariables false
namespace Go.Proofs.Ytpjilcngibaepaa.Nm
open Go.RowKit Go.Proofs.Ytpjilcngibaepaa.Mem

theorem known_way : betweenL [88, 46, 65, 46, 69, 68, 85] [89, 46, 66, 46, 69, 68, 85] = [[65, 46, 69, 68, 85], [69, 68, 85], [66, 46, 69, 68, 85]] := by decide +kernel
theorem known_kind : kindL [47, 67, 79, 77, 47, 72, 80] = 2 := by decide +kernel

set_option maxHeartbeats 1600000 in
set_option maxRecDepth 100000 in
theorem known_any (w : World) : Calls Try.prog 31 #[] w fun e w' => e = .returned (.bool true) ∧ Below w.heap.size w w' := by
  have c1 := between_any [88, 46, 65, 46, 69, 68, 85] [89, 46, 66, 46, 69, 68, 85] w (by decide) (by decide)
  rw [known_way] at c1
  have c2 := fun w1 => kind_any [47, 67, 79, 77, 47, 72, 80] w1 (by decide)
  rw [known_kind] at c2
  have C2 := Lib.hid c2; clear c2
  go_enter Try.func31, Try.ntmps31
  go_wp2_with (first
    | (go_at_call 25; refine Calls.mono c1 ?_; rintro e w1 ⟨v, rfl, ho, hb⟩; clear c1; obtain ⟨A, c, rfl, hr⟩ := ho.slice; obtain ⟨b, o, rfl, hB, h0⟩ := rd_txt hr (i := 0) (by decide); have h1 := rd_txt hr (i := 1) (by decide); have h2 := rd_txt hr (i := 2) (by decide); obtain ⟨b1, o1, e1, _, h1⟩ := h1; injection e1 with e1; injection e1 with e1 e2; subst e1; subst e2; obtain ⟨b2, o2, e1, _, h2⟩ := h2; injection e1 with e1; injection e1 with e1 e2; subst e1; subst e2; simp only [pl, List.getD_cons_zero, List.getD_cons_succ, Nat.add_zero] at h0 h1 h2; have H1 := Lib.hid hb; have HX := Lib.hid ho; clear hb ho hr; have c2 := C2.out w1)
    | (go_at_call 14; refine Calls.mono c2 ?_; rintro e w2 ⟨rfl, hd⟩; clear c2; have H2 := Lib.hid (H1.out.trans (hd.below.mono H1.out.size)); clear hd))
  go_ret
  exact ⟨rfl, H2.out⟩

/-- two rows that read the same are one -/
theorem texts_same (ls : List L) (A A2 : Option Addr) (c c2 B : Nat) (w : World) (hl : ls.length ≤ 1000) (hr : Rd w B A (strs ls)) (hr2 : Rd w B A2 (strs ls)) :
    Calls Try.prog 24 #[.slice A ls.length c, .slice A2 ls.length c2] w fun e w' => e = .returned (.bool true) ∧ Drawn w w' := by
  have HR := Lib.hid hr; clear hr
  have HR2 := Lib.hid hr2; clear hr2
  obtain ⟨n, en⟩ : ∃ n, n = ls.length := ⟨_, rfl⟩
  rw [← en] at hl ⊢
  have EN := Lib.hid en; clear en
  have HD := Lib.hid (Drawn.refl w)
  go_enter Try.func24, Try.ntmps24
  go_wp2
  go_loopw [5] (fun iv wr => ∃ i : Nat, i ≤ n ∧ iv = .int .i64 (i : Int) ∧ Drawn w wr) (fun iv _ => n - (intOf iv).toNat)
  case atStart => exact ⟨0, Nat.zero_le _, rfl, HD.out⟩
  case round =>
    obtain ⟨i, hi, rfl, hd⟩ := hrel
    have hrr : ∀ B A xs, Rd w B A xs → Rd wr B A xs := by obtain ⟨m, rfl⟩ := hd; exact fun B A xs h => h.drewN m
    have HRR := Lib.hid hrr; clear hrr
    have HDR := Lib.hid hd; clear hd
    by_cases hlt : i < n
    · have e1 : (i : Int) < (n : Int) := by omega
      have e2 : (0 : Int) ≤ (i : Int) := by omega
      have h1 := rd_txt (HRR.out _ _ _ HR.out) (i := i) (by rw [← EN.out]; exact hlt)
      have h2 := rd_txt (HRR.out _ _ _ HR2.out) (i := i) (by rw [← EN.out]; exact hlt)
      obtain ⟨b1, o1, rfl, _, h1⟩ := h1
      obtain ⟨b2, o2, rfl, _, h2⟩ := h2
      go_wp2
      go_quiet (fail)
      go_wp2
      go_roundw
      case rel => exact ⟨i + 1, by omega, by go_num, HDR.out.trans ⟨_, rfl⟩⟩
      case measure => simp [intOf]; omega
    · have e1 : ¬ (i : Int) < (n : Int) := by omega
      go_wp2
      go_ret
      exact ⟨rfl, HDR.out⟩
end Go.Proofs.Ytpjilcngibaepaa.Nm
