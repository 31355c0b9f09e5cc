/-
  Seal that is refused; whether bytes are sealed; Open, the code's; Counts.
-/
import Derived.Test.YtioonkckppmnoaaSeSeal
import Derived.Test.YtioonkckppmnoaaOpenB
import Derived.Deep.QuietTactic
import Derived.BigQuiet
set_option linter.unusedVariables false
namespace Go.Proofs.Ytioonkckppmnoaa.Se
open Go.RowKit Go.Proofs.Ytioonkckppmnoaa.Mem

set_option maxRecDepth 100000 in
set_option maxHeartbeats 1600000 in
theorem seal_bad (b : Nat) (u N : Int) (A : Option Addr) (m c : Nat) (w : World) (wN : (Lit.int .i64 N).wf = true) (hm : m ≤ maxLen) (hx : ¬ (0 ≤ u ∧ u ≤ 255 ∧ 0 ≤ N ∧ N ≤ 1099511627776 ∧ m ≤ 784)) :
    Calls Try.prog 14 #[.pointer (some ⟨b, 0, none⟩), .int .i64 u, .int .i64 N, .slice A m c] w fun e w' => e = .returned (.tuple #[.slice none 0 0, .int .i64 1]) ∧ w' = w := by
  by_cases h1 : 0 ≤ u ∧ u ≤ 255
  · have f1 := fit_usage u true (by simp; omega)
    by_cases h2 : N < 0
    · have t2 : decide (N < 0) = true := by simpa using h2
      clear hx h1 wN hm
      go_enter Try.func14, Try.ntmps14
      go_wp2_with (go_at_call 22; refine Calls.mono (f1 _) ?_; rintro e wq ⟨rfl, hw⟩; have hw := hw.symm; subst hw; clear f1)
      go_ret2
      exact ⟨rfl, rfl⟩
    · obtain ⟨n, rfl⟩ : ∃ n : Nat, N = (n : Int) := ⟨N.toNat, by omega⟩
      have hn63 : n < 9223372036854775808 := by
        have := Open.i64_of_wf wN
        omega
      have t2 : decide ((n : Int) < 0) = false := by simp
      have q4 : IntKind.u64.wrap (n : Int) = (n : Int) := by rw [IntKind.wrap_u64]; omega
      by_cases h3 : n ≤ 1099511627776
      · have f2 := fit_nonce n true (by simp; omega)
        have t3 : decide (784 < (m : Int)) = true := by simp; omega
        have q1 : (n : Int) ≤ 1099511627776 := by omega
        clear hx h1 h2 wN
        go_enter Try.func14, Try.ntmps14
        go_wp2_with (first
          | (go_at_call 22; refine Calls.mono (f1 _) ?_; rintro e wq ⟨rfl, hw⟩; have hw := hw.symm; subst hw; clear f1)
          | (go_at_call 23; refine Calls.mono (f2 _) ?_; rintro e wq ⟨rfl, hw⟩; have hw := hw.symm; subst hw; clear f2))
        go_ret2
        exact ⟨rfl, rfl⟩
      · have f2 := fit_nonce n false (by simp; omega)
        clear hx h1 h2 wN
        go_enter Try.func14, Try.ntmps14
        go_wp2_with (first
          | (go_at_call 22; refine Calls.mono (f1 _) ?_; rintro e wq ⟨rfl, hw⟩; have hw := hw.symm; subst hw; clear f1)
          | (go_at_call 23; refine Calls.mono (f2 _) ?_; rintro e wq ⟨rfl, hw⟩; have hw := hw.symm; subst hw; clear f2))
        go_ret2
        exact ⟨rfl, rfl⟩
  · have f1 := fit_usage u false (by
      rw [eq_comm, Bool.and_eq_false_iff]
      rcases Int.lt_or_le u 0 with h | h
      · exact .inl (by simp; omega)
      · exact .inr (by simp; omega))
    clear hx h1 wN
    go_enter Try.func14, Try.ntmps14
    go_wp2_with (go_at_call 22; refine Calls.mono (f1 _) ?_; rintro e wq ⟨rfl, hw⟩; have hw := hw.symm; subst hw; clear f1)
    go_ret2
    exact ⟨rfl, rfl⟩
theorem seal_nil (u N : Int) (p : Value) (w : World) :
    Calls Try.prog 14 #[.pointer none, .int .i64 u, .int .i64 N, p] w fun e w' => e = .returned (.tuple #[.slice none 0 0, .int .i64 1]) ∧ w' = w := by
  go_enter Try.func14, Try.ntmps14
  go_wp2
  go_ret2
  exact ⟨rfl, rfl⟩
theorem open_nil (u : Int) (p : Value) (w : World) :
    Calls Try.prog 16 #[.pointer none, .int .i64 u, p] w fun e w' => e = .returned (.tuple #[.slice none 0 0, .int .i64 1]) ∧ w' = w := by
  go_enter Try.func16, Try.ntmps16
  go_wp2
  go_ret2
  exact ⟨rfl, rfl⟩
theorem open_bad (b : Nat) (u : Int) (p : Value) (w : World) (hx : ¬ (0 ≤ u ∧ u ≤ 255)) :
    Calls Try.prog 16 #[.pointer (some ⟨b, 0, none⟩), .int .i64 u, p] w fun e w' => e = .returned (.tuple #[.slice none 0 0, .int .i64 1]) ∧ w' = w := by
  have f1 := fit_usage u false (by
    rw [eq_comm, Bool.and_eq_false_iff]
    rcases Int.lt_or_le u 0 with h | h
    · exact .inl (by simp; omega)
    · exact .inr (by simp; omega))
  clear hx
  go_enter Try.func16, Try.ntmps16
  go_wp2_with (go_at_call 22; refine Calls.mono (f1 _) ?_; rintro e wq ⟨rfl, hw⟩; have hw := hw.symm; subst hw; clear f1)
  go_ret2
  exact ⟨rfl, rfl⟩
theorem counts_nil (w : World) :
    Calls Try.prog 19 #[.pointer none] w fun e w' => e = .returned (.tuple #[.int .i64 0, .int .i64 0, .int .i64 0]) ∧ w' = w := by
  go_enter Try.func19, Try.ntmps19
  go_wp2
  go_ret3
  exact ⟨rfl, rfl⟩
theorem rd_nil_16 {l : List UInt8} {n : Nat} {P : Prop} (hn : n = l.length) (h : 8 ≤ n) (hx : bvs l = []) : P := by
  have := bvs_length l; rw [hx] at this; simp at this; omega
theorem RdA.take {S : Nat → Prop} {w : World} {A : Option Addr} {l : List UInt8} (h : RdA S w A (bvs l)) (k : Nat) : RdA S w A (bvs (l.take k)) := by
  rcases h with h | ⟨b, o, h1, h2, h3, h4⟩
  · left
    have : l = [] := List.map_eq_nil_iff.1 h
    rw [this, List.take_nil]; rfl
  · refine .inr ⟨b, o, h1, h2, h3, fun i u hu => h4 i u ?_⟩
    unfold bvs at hu ⊢
    rw [List.map_take, List.getElem?_take] at hu
    split at hu
    · exact hu
    · cases hu
theorem RdA.drop {S : Nat → Prop} {w : World} {b o : Nat} {l : List UInt8} (h : RdA S w (some ⟨b, o, none⟩) (bvs l)) (k : Nat) : RdA S w (some ⟨b, o + k, none⟩) (bvs (l.drop k)) := by
  rcases h with h | ⟨b', o', h1, h2, h3, h4⟩
  · left
    have : l = [] := List.map_eq_nil_iff.1 h
    rw [this, List.drop_nil]; rfl
  · injection h1 with h1
    injection h1 with e1 e2
    subst e1 e2
    refine .inr ⟨b, o + k, rfl, h2, h3, fun i u hu => ?_⟩
    unfold bvs at hu
    rw [List.map_drop, List.getElem?_drop] at hu
    have := h4 (k + i) u hu
    rwa [← Nat.add_assoc] at this
theorem isL_short {ks : Nat → UInt8} {u : Nat} {l : List UInt8} (h : l.length < 16 ∨ 800 < l.length ∨ 1099511627776 < n8 l) : isL ks u l = false := by
  unfold isL
  rcases h with h | h | h
  · rw [show decide (16 ≤ l.length) = false by simp; omega]; simp
  · rw [show decide (l.length ≤ 800) = false by simp; omega]; simp
  · rw [show decide (n8 l ≤ 1099511627776) = false by simp; omega]; simp
theorem isL_long {ks : Nat → UInt8} {u : Nat} {l : List UInt8} (h1 : 16 ≤ l.length) (h2 : l.length ≤ 800) (h3 : n8 l ≤ 1099511627776) : isL ks u l = decide (tagL ks u (headL l) = n8 (lastL l)) := by
  unfold isL
  rw [show decide (16 ≤ l.length) = true by simpa using h1, show decide (l.length ≤ 800) = true by simpa using h2, show decide (n8 l ≤ 1099511627776) = true by simpa using h3]; simp

set_option maxRecDepth 100000 in
set_option maxHeartbeats 1600000 in
theorem is_short (b u : Nat) (ks : Nat → UInt8) (A : Option Addr) (n c : Nat) (l : List UInt8) (w : World) (hn : n = l.length) (hc : n ≤ c) (hm : c ≤ maxLen) (hr : Rd w w.heap.size A (bvs l)) (hx : l.length < 16 ∨ 800 < l.length ∨ 1099511627776 < n8 l) :
    Calls Try.prog 31 #[.pointer (some ⟨b, 0, none⟩), .int .i64 (u : Int), .slice A n c] w fun e w' => e = .returned (.bool false) ∧ w' = w := by
  by_cases h1 : n < 16
  · have t1 : decide ((n : Int) < 16) = true := by simp; omega
    clear hx hr hn hc hm h1
    go_enter Try.func31, Try.ntmps31
    go_wp2
    go_ret
    exact ⟨rfl, rfl⟩
  · have t1 : decide ((n : Int) < 16) = false := by simp; omega
    by_cases h2 : 800 < n
    · have t2 : decide (800 < (n : Int)) = true := by simp; omega
      clear hx hr hn hc hm h1 h2
      go_enter Try.func31, Try.ntmps31
      go_wp2
      go_ret
      exact ⟨rfl, rfl⟩
    · have t2 : decide (800 < (n : Int)) = false := by simp; omega
      have h3 : 1099511627776 < n8 l := by omega
      have cw := word_any w.heap.size A n c l w hn (by omega) hc hr
      have f2 := fit_nonce (n8 l) false (by simp; omega)
      obtain ⟨N, eN⟩ : ∃ N, N = n8 l := ⟨_, rfl⟩
      rw [← eN] at cw f2
      clear hx hr hn hc hm h1 h2 h3 eN
      go_enter Try.func31, Try.ntmps31
      go_wp2_with (first
        | (go_at_call 32; refine Calls.mono cw ?_; rintro e wq ⟨rfl, hw⟩; have hw := hw.symm; subst hw; clear cw)
        | (go_at_call 23; refine Calls.mono (f2 _) ?_; rintro e wq ⟨rfl, hw⟩; have hw := hw.symm; subst hw; clear f2))
      go_ret
      exact ⟨rfl, rfl⟩
end Go.Proofs.Ytioonkckppmnoaa.Se
