/-
  What the laws of chapter 6 call of their own: texts, large, once, and the examples.
-/
import Derived.Test.YtmgbhkhkbebfpaaTrIns
import Derived.Test.YtmgbhkhkbebfpaaNmRefB
set_option linter.unusedVariables false
namespace Go.Proofs.Ytmgbhkhkbebfpaa.Tr
open Go.RowKit Go.Proofs.Ytmgbhkhkbebfpaa.Mem Go.Proofs.Ytmgbhkhkbebfpaa.Nm

/-- two rows that read the same are one -/
theorem texts_same (ls : List L) (A A2 : Option Addr) (n n2 c c2 B : Nat) (w : World) (hn : n = ls.length) (hn2 : n2 = ls.length) (hl : ls.length ≤ 1000000) (hr : Rd w B A (strs ls)) (hr2 : Rd w B A2 (strs ls)) :
    Calls Try.prog 20 #[.slice A n c, .slice A2 n2 c2] w fun e w' => e = .returned (.bool true) ∧ Drawn w w' := by
  have HR := Lib.hid hr; clear hr
  have HR2 := Lib.hid hr2; clear hr2
  obtain rfl : n2 = n := by omega
  rw [← hn] at hl
  have EN := Lib.hid hn; clear hn hn2
  have HD := Lib.hid (Drawn.refl w)
  go_enter Try.func20, Try.ntmps20
  go_wp2
  go_loopw [5] (fun iv wr => ∃ i : Nat, i ≤ n2 ∧ iv = .int .i64 (i : Int) ∧ Drawn w wr) (fun iv _ => n2 - (intOf iv).toNat)
  case atStart => exact ⟨0, Nat.zero_le _, rfl, HD.out⟩
  case round =>
    obtain ⟨i, hi, rfl, hd⟩ := hrel
    have hrr : ∀ B A xs, Rd w B A xs → Rd wr B A xs := by obtain ⟨m, rfl⟩ := hd; exact fun B A xs h => h.drewN m
    have HRR := Lib.hid hrr; clear hrr
    have HDR := Lib.hid hd; clear hd
    by_cases hlt : i < n2
    · have e1 : (i : Int) < (n2 : Int) := by omega
      have e2 : (0 : Int) ≤ (i : Int) := by omega
      have h1 := rd_txt (HRR.out _ _ _ HR.out) (i := i) (by rw [← EN.out]; exact hlt)
      have h2 := rd_txt (HRR.out _ _ _ HR2.out) (i := i) (by rw [← EN.out]; exact hlt)
      obtain ⟨b1, o1, rfl, _, h1⟩ := h1
      obtain ⟨b2, o2, rfl, _, h2⟩ := h2
      go_wp2
      go_quiet (fail)
      go_wp2
      go_roundw
      case rel => exact ⟨i + 1, by omega, by go_num, HDR.out.trans ⟨_, rfl⟩⟩
      case measure => simp [intOf]; omega
    · have e1 : ¬ (i : Int) < (n2 : Int) := by omega
      go_wp2
      go_ret
      exact ⟨rfl, HDR.out⟩

/-! ### how large texts are -/
def sumL (ls : List L) : Nat := (ls.map fun x => 1 + x.length).sum
theorem sum_take {ls : List L} {i : Nat} (h : i < ls.length) : sumL (ls.take (i + 1)) = sumL (ls.take i) + (1 + (pl ls i).length) := by
  rw [take_succ_pl h]; simp [sumL]
theorem sum_append (a b : List L) : sumL (a ++ b) = sumL a + sumL b := by simp [sumL]
theorem sum_take_le (ls : List L) (i : Nat) : sumL (ls.take i) ≤ sumL ls := by
  have := sum_append (ls.take i) (ls.drop i)
  rw [List.take_append_drop] at this
  omega
theorem sum_all (ls : List L) : sumL (ls.take ls.length) = sumL ls := by rw [List.take_of_length_le (Nat.le_refl _)]
theorem sum_len (ls : List L) : ls.length ≤ sumL ls := by
  induction ls with
  | nil => simp
  | cons a t ih => simp only [sumL, List.map_cons, List.sum_cons, List.length_cons] at ih ⊢; omega
theorem sum_mem {ls : List L} {x : L} (h : x ∈ ls) : x.length < sumL ls := by
  induction ls with
  | nil => cases h
  | cons a t ih =>
    simp only [sumL, List.map_cons, List.sum_cons] at ih ⊢
    rcases List.mem_cons.1 h with g | g
    · rw [g]; omega
    · have := ih g; omega
theorem sum_bound {ls : List L} {k : Nat} (h : ∀ x ∈ ls, x.length ≤ k) : sumL ls ≤ ls.length * (k + 1) := by
  induction ls with
  | nil => simp [sumL]
  | cons a t ih =>
    have h1 := h a List.mem_cons_self
    have h2 := ih fun x hx => h x (List.mem_cons_of_mem _ hx)
    simp only [sumL, List.map_cons, List.sum_cons, List.length_cons] at h2 ⊢
    rw [Nat.add_mul]; omega
set_option maxHeartbeats 800000 in
theorem large_any (ls : List L) (A : Option Addr) (n c B : Nat) (w : World) (hn : n = ls.length) (hs : sumL ls ≤ 4000000000000000000) (hr : Rd w B A (strs ls)) :
    Calls Try.prog 13 #[.slice A n c] w fun e w' => e = .returned (.bool (decide (600 < sumL ls))) ∧ w = w' := by
  have HR := Lib.hid hr; clear hr
  have hl := sum_len ls
  rw [← hn] at hl
  have EN := Lib.hid hn; clear hn
  have hn63 : n ≤ 4000000000000000000 := by omega
  have HT := Lib.hid (fun i => sum_take_le ls i)
  obtain ⟨S, eS⟩ : ∃ S, S = sumL ls := ⟨_, rfl⟩
  rw [← eS] at hs HT ⊢
  have ES := Lib.hid eS; clear eS hl
  go_enter Try.func13, Try.ntmps13
  go_wp2
  go_loop [3, 4] (fun nv iv => ∃ i : Nat, i ≤ n ∧ iv = .int .i64 (i : Int) ∧ nv = .int .i64 (sumL (ls.take i) : Int)) (fun _ iv => n - (intOf iv).toNat)
  case atStart => exact ⟨0, Nat.zero_le _, rfl, by simp [sumL]⟩
  case round =>
    obtain ⟨i, hi, rfl, rfl⟩ := hrel
    by_cases hlt : i < n
    · have e1 : (i : Int) < (n : Int) := by omega
      have e2 : (0 : Int) ≤ (i : Int) := by omega
      have him : i < ls.length := by rw [← EN.out]; exact hlt
      obtain ⟨b, o, rfl, _, h1⟩ := rd_txt HR.out him
      have hst := sum_take him
      have hle := HT.out (i + 1)
      obtain ⟨q, eq⟩ : ∃ q, q = sumL (ls.take i) := ⟨_, rfl⟩
      obtain ⟨q2, eq2⟩ : ∃ q, q = sumL (ls.take (i + 1)) := ⟨_, rfl⟩
      rw [← eq, ← eq2] at hst
      rw [← eq2] at hle
      rw [← eq]
      have hq : (q : Int) + 1 + ((pl ls i).length : Int) = (q2 : Int) := by omega
      have hq2 : q2 ≤ 4000000000000000000 := by omega
      have hq3 : q + 1 ≤ q2 := by omega
      have EQ2 := Lib.hid eq2; clear eq eq2 hst him hle
      go_wp2
      go_round
      case rel => exact ⟨i + 1, by omega, by go_num, by rw [← EQ2.out, ← hq]⟩
      case measure => simp [intOf]; omega
    · have e1 : ¬ (i : Int) < (n : Int) := by omega
      have E := Lib.hid (show sumL (ls.take i) = S by rw [show i = ls.length by rw [← EN.out]; omega, sum_all, ES.out])
      rw [E.out]
      by_cases h6 : 600 < S
      · have g6 : decide (600 < (S : Int)) = true := by simp; omega
        go_wp2
        go_ret
        exact ⟨rfl, rfl⟩
      · have g6 : decide (600 < (S : Int)) = false := by simp; omega
        go_wp2
        go_ret
        exact ⟨rfl, rfl⟩
/-- a bool, whichever -/
def AnsB (e : Ending) : Prop := ∃ q : Bool, e = .returned (.bool q)
set_option maxHeartbeats 800000 in
/-- whatever its texts are it answers something -/
theorem large_some (ls : List L) (A : Option Addr) (n c B : Nat) (w : World) (hn : n = ls.length) (hl : n ≤ 9000000000000000) (hr : Rd w B A (strs ls)) :
    Calls Try.prog 13 #[.slice A n c] w fun e w' => AnsB e ∧ w = w' := by
  have HR := Lib.hid hr; clear hr
  have EN := Lib.hid hn; clear hn
  go_enter Try.func13, Try.ntmps13
  go_wp2
  go_loop [3, 4] (fun nv iv => ∃ (i : Nat) (z : Int), i ≤ n ∧ iv = .int .i64 (i : Int) ∧ nv = .int .i64 z) (fun _ iv => n - (intOf iv).toNat)
  case atStart => exact ⟨0, 0, Nat.zero_le _, rfl, rfl⟩
  case round =>
    obtain ⟨i, z, hi, rfl, rfl⟩ := hrel
    by_cases hlt : i < n
    · have e1 : (i : Int) < (n : Int) := by omega
      have e2 : (0 : Int) ≤ (i : Int) := by omega
      have him : i < ls.length := by rw [← EN.out]; exact hlt
      obtain ⟨b, o, rfl, _, h1⟩ := rd_txt HR.out him
      clear him
      go_wp2
      go_round
      case rel => exact ⟨i + 1, _, by omega, by go_num, rfl⟩
      case measure => simp [intOf]; omega
    · have e1 : ¬ (i : Int) < (n : Int) := by omega
      go_wp2
      go_ret
      exact ⟨⟨_, rfl⟩, rfl⟩
end Go.Proofs.Ytmgbhkhkbebfpaa.Tr
