/-
  What Seal and Open answer, of any arguments: the code's and the document's own.
-/
import Derived.Test.YtioonkckppmnoaaSeRef6
import Derived.Test.YtioonkckppmnoaaSeOpen2
import Derived.Test.YtioonkckppmnoaaSeLaw1
set_option linter.unusedVariables false
namespace Go.Proofs.Ytioonkckppmnoaa.SeL
open Go.RowKit Go.Proofs.Ytioonkckppmnoaa.Mem Go.Proofs.Ytioonkckppmnoaa.Se

def sealR (ks : Nat → UInt8) (u n : Int) (p : List UInt8) : List UInt8 × Int :=
  if 0 ≤ u ∧ u ≤ 255 ∧ 0 ≤ n ∧ n ≤ 1099511627776 ∧ p.length ≤ 784 then (sealL ks u.toNat n.toNat p, 0) else ([], 1)
def openR (ks : Nat → UInt8) (u : Int) (l : List UInt8) : List UInt8 × Int :=
  if 0 ≤ u ∧ u ≤ 255 then (if isL ks u.toNat l = true then (mixL ks u.toNat (n8 l) (midL l), 0) else ([], 3)) else ([], 1)
/-- what is old, and a Box's own -/
def Ns (n b : Nat) (h : Option Nat) (i : Nat) : Prop := i < n ∨ Ow b h i
theorem nw_ns {n b g : Nat} {w : World} {A : Option Addr} {xs : List Value} (hr : RdA (Nw n g) w A xs) (hb : b < n) : RdA (Ns n b (some g)) w A xs := hr.mono fun i _ hx => by
  rcases hx with hx | hx
  · exact .inl hx
  · rcases Ow_some hx with h | h
    · exact .inl (by omega)
    · exact .inr h
theorem midL_length (l : List UInt8) (h : 16 ≤ l.length) : (midL l).length = l.length - 16 := by
  rw [midL, headL, List.length_drop, List.length_take]; omega
theorem isL_len {ks : Nat → UInt8} {u : Nat} {l : List UInt8} (h : isL ks u l = true) : 16 ≤ l.length ∧ l.length ≤ 800 ∧ n8 l ≤ 1099511627776 ∧ tagL ks u (headL l) = n8 (lastL l) := by
  simp only [isL, Bool.and_eq_true, decide_eq_true_eq] at h
  exact ⟨h.1.1.1, h.1.1.2, h.1.2, h.2⟩
theorem isL_not {ks : Nat → UInt8} {u : Nat} {l : List UInt8} (h : isL ks u l = false) : (l.length < 16 ∨ 800 < l.length ∨ 1099511627776 < n8 l) ∨ (16 ≤ l.length ∧ l.length ≤ 800 ∧ n8 l ≤ 1099511627776 ∧ tagL ks u (headL l) ≠ n8 (lastL l)) := by
  by_cases h1 : l.length < 16 ∨ 800 < l.length ∨ 1099511627776 < n8 l
  · exact .inl h1
  · refine .inr ⟨by omega, by omega, by omega, fun h2 => ?_⟩
    rw [isL_long (by omega) (by omega) (by omega), h2] at h
    simp at h

theorem seal_res (b : Nat) (ks : Nat → UInt8) (h : Option Nat) (a o r : Nat) (u N : Int) (A : Option Addr) (m c : Nat) (p : List UInt8) (w : World) (ha : a < 1000000) (wN : (Lit.int .i64 N).wf = true) (hm : m = p.length) (hml : m ≤ maxLen) (hr : RdA (Ow b h) w A (bvs p)) (hK : Box w b ks h a o r) :
    Calls Try.prog 14 #[.pointer (some ⟨b, 0, none⟩), .int .i64 u, .int .i64 N, .slice A m c] w fun e w' => ∃ A2 c2 h' a', e = .returned (.tuple #[.slice A2 (sealR ks u N p).1.length c2, .int .i64 (sealR ks u N p).2]) ∧ (sealR ks u N p).1.length ≤ c2 ∧ c2 ≤ maxLen ∧ RdA (Ns w.heap.size b h') w' A2 (bvs (sealR ks u N p).1) ∧ Box w' b ks h' a' o r ∧ StepO w w' b h h' ∧ a' ≤ a + 1 := by
  by_cases hx : 0 ≤ u ∧ u ≤ 255 ∧ 0 ≤ N ∧ N ≤ 1099511627776 ∧ m ≤ 784
  · obtain ⟨u', rfl⟩ : ∃ k : Nat, u = (k : Int) := ⟨u.toNat, by omega⟩
    obtain ⟨n', rfl⟩ : ∃ k : Nat, N = (k : Int) := ⟨N.toNat, by omega⟩
    have e : sealR ks (u' : Int) (n' : Int) p = (sealL ks u' n' p, 0) := by rw [sealR, if_pos (by omega)]; rfl
    rw [e]
    refine (seal_ok b ks h a o r u' n' A m c p w ha (by omega) (by omega) hm (by omega) hr hK).mono ?_
    rintro e w' ⟨g, A2, c2, rfl, h1, h2, h3, h4, h5⟩
    exact ⟨A2, c2, some g, a + 1, by rw [sealL_length, hm], by rw [sealL_length, ← hm]; exact h1, h2, nw_ns h3 hK.lt, h4, h5.o, Nat.le_refl _⟩
  · have e : sealR ks u N p = ([], 1) := by rw [sealR, if_neg (by omega)]
    rw [e]
    refine (seal_bad b u N A m c w wN hml hx).mono ?_
    rintro e w' ⟨rfl, hw⟩
    subst hw
    exact ⟨none, 0, h, a, rfl, Nat.le_refl _, Nat.zero_le _, .inl rfl, hK, StepO.refl _ _ _, by omega⟩
theorem open_res (b : Nat) (ks : Nat → UInt8) (h : Option Nat) (a o r : Nat) (u : Int) (A : Option Addr) (n c : Nat) (l : List UInt8) (w : World) (ho : o < 1000000) (hr1 : r < 1000000) (hn : n = l.length) (hc : n ≤ c) (hm : c ≤ maxLen) (hr : RdA (Ow b h) w A (bvs l)) (hK : Box w b ks h a o r) :
    Calls Try.prog 16 #[.pointer (some ⟨b, 0, none⟩), .int .i64 u, .slice A n c] w fun e w' => ∃ A2 c2 h' o' r', e = .returned (.tuple #[.slice A2 (openR ks u l).1.length c2, .int .i64 (openR ks u l).2]) ∧ (openR ks u l).1.length ≤ c2 ∧ c2 ≤ maxLen ∧ RdA (Ns w.heap.size b h') w' A2 (bvs (openR ks u l).1) ∧ Box w' b ks h' a o' r' ∧ StepO w w' b h h' ∧ o' ≤ o + 1 ∧ r' ≤ r + 1 := by
  by_cases hx : 0 ≤ u ∧ u ≤ 255
  · obtain ⟨u', rfl⟩ : ∃ k : Nat, u = (k : Int) := ⟨u.toNat, by omega⟩
    cases hi : isL ks u' l with
    | true =>
      have e : openR ks (u' : Int) l = (mixL ks u' (n8 l) (midL l), 0) := by rw [openR, if_pos hx]; show (if isL ks u' l = true then _ else _) = _; rw [if_pos hi]; rfl
      have hl := isL_len hi
      have e2 : (mixL ks u' (n8 l) (midL l)).length = n - 16 := by rw [mixL_length, midL_length l hl.1, hn]
      rw [e]
      refine (open_ok b ks h a o r u' A n c l w ho (by omega) hn hc hm hr hK hi).mono ?_
      rintro e w' ⟨g, A2, c2, rfl, h1, h2, h3, h4, h5⟩
      exact ⟨A2, c2, some g, o + 1, r, by rw [e2], by rw [e2]; exact h1, by unfold maxLen; omega, nw_ns h3 hK.lt, h4, h5.o, Nat.le_refl _, by omega⟩
    | false =>
      have e : openR ks (u' : Int) l = ([], 3) := by rw [openR, if_pos hx]; show (if isL ks u' l = true then _ else _) = _; rw [hi]; rfl
      rw [e]
      refine (open_ref b ks h a o r u' A n c l w hr1 (by omega) hn hc hm hr hK hi).mono ?_
      rintro e w' ⟨rfl, h', h1, h2⟩
      exact ⟨none, 0, h', o, r + 1, rfl, Nat.le_refl _, Nat.zero_le _, .inl rfl, h1, h2, by omega, Nat.le_refl _⟩
  · have e : openR ks u l = ([], 1) := by rw [openR, if_neg hx]
    rw [e]
    refine (open_bad b u _ w hx).mono ?_
    rintro e w' ⟨rfl, hw⟩
    subst hw
    exact ⟨none, 0, h, o, r, rfl, Nat.le_refl _, Nat.zero_le _, .inl rfl, hK, StepO.refl _ _ _, by omega, by omega⟩
theorem dseal_res (ks : Nat → UInt8) (u N : Int) (A : Option Addr) (m c : Nat) (p : List UInt8) (w : World) (hm : m = p.length) (hr : Rd w w.heap.size A (bvs p)) :
    Calls Try.prog 15 #[.agg (key32 ks), .int .i64 u, .int .i64 N, .slice A m c] w fun e w' => ∃ A2 c2, e = .returned (.tuple #[.slice A2 (sealR ks u N p).1.length c2, .int .i64 (sealR ks u N p).2]) ∧ RdA (fun i => i < w.heap.size) w' A2 (bvs (sealR ks u N p).1) ∧ Below w.heap.size w w' := by
  by_cases hx : 0 ≤ u ∧ u ≤ 255 ∧ 0 ≤ N ∧ N ≤ 1099511627776 ∧ m ≤ 784
  · obtain ⟨u', rfl⟩ : ∃ k : Nat, u = (k : Int) := ⟨u.toNat, by omega⟩
    obtain ⟨n', rfl⟩ : ∃ k : Nat, N = (k : Int) := ⟨N.toNat, by omega⟩
    have e : sealR ks (u' : Int) (n' : Int) p = (sealL ks u' n' p, 0) := by rw [sealR, if_pos (by omega)]; rfl
    rw [e]
    refine (dseal_ok ks u' n' A m c p w (by omega) (by omega) hm (by omega) hr).mono ?_
    rintro e w' ⟨A2, c2, rfl, h1, h2⟩
    exact ⟨A2, c2, by rw [sealL_length, hm], h1, h2⟩
  · have e : sealR ks u N p = ([], 1) := by rw [sealR, if_neg (by omega)]
    rw [e]
    refine (dseal_bad ks u N A m c w hx).mono ?_
    rintro e w' ⟨rfl, hb⟩
    exact ⟨none, 0, rfl, .inl rfl, hb⟩
theorem dopen_res (ks : Nat → UInt8) (u : Int) (A : Option Addr) (n c : Nat) (l : List UInt8) (w : World) (hn : n = l.length) (hc : n ≤ c) (hr : Rd w w.heap.size A (bvs l)) :
    Calls Try.prog 17 #[.agg (key32 ks), .int .i64 u, .slice A n c] w fun e w' => ∃ A2 c2, e = .returned (.tuple #[.slice A2 (openR ks u l).1.length c2, .int .i64 (openR ks u l).2]) ∧ Rd w' w'.heap.size A2 (bvs (openR ks u l).1) ∧ Below w.heap.size w w' := by
  by_cases hx : 0 ≤ u ∧ u ≤ 255
  · obtain ⟨u', rfl⟩ : ∃ k : Nat, u = (k : Int) := ⟨u.toNat, by omega⟩
    cases hi : isL ks u' l with
    | true =>
      have e : openR ks (u' : Int) l = (mixL ks u' (n8 l) (midL l), 0) := by rw [openR, if_pos hx]; show (if isL ks u' l = true then _ else _) = _; rw [if_pos hi]; rfl
      have hl := isL_len hi
      have e2 : (mixL ks u' (n8 l) (midL l)).length = n - 16 := by rw [mixL_length, midL_length l hl.1, hn]
      rw [e]
      refine (dopen_long ks u' A n c l w (by omega) hn hc hr hl.1 hl.2.1 hl.2.2.1).mono ?_
      rintro e w' ⟨h1, h2⟩
      rw [if_pos hl.2.2.2] at h1
      obtain ⟨A2, c2, rfl, h3⟩ := h1
      exact ⟨A2, c2, by rw [e2], h3, h2⟩
    | false =>
      have e : openR ks (u' : Int) l = ([], 3) := by rw [openR, if_pos hx]; show (if isL ks u' l = true then _ else _) = _; rw [hi]; rfl
      rw [e]
      rcases isL_not hi with h1 | ⟨h1, h2, h3, h4⟩
      · refine (dopen_short ks u' A n c l w (by omega) hn hr h1).mono ?_
        rintro e w' ⟨rfl, hb⟩
        exact ⟨none, 0, rfl, .inl rfl, hb⟩
      · refine (dopen_long ks u' A n c l w (by omega) hn hc hr h1 h2 h3).mono ?_
        rintro e w' ⟨h5, h6⟩
        rw [if_neg h4] at h5
        exact ⟨none, 0, h5, .inl rfl, h6⟩
  · have e : openR ks u l = ([], 1) := by rw [openR, if_neg hx]
    rw [e]
    refine (dopen_bad ks u A n c w hx).mono ?_
    rintro e w' ⟨rfl, hb⟩
    exact ⟨none, 0, rfl, .inl rfl, hb⟩
end Go.Proofs.Ytioonkckppmnoaa.SeL
