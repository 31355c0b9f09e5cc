/-
  The rest of chapter 1's taking functions: a number's bytes, Int, Octets, Text, Into, Open.
-/
import Derived.Test.YtkkpcnibghndgaaDerCur
namespace Go.Proofs.Ytkkpcnibghndgaa.DerC
open Go.RowKit Go.Proofs.Ytkkpcnibghndgaa.Mem Go.Proofs.Ytkkpcnibghndgaa.DerP
attribute [local go_sem] mk_at List.getElem_cons_zero List.getElem_cons_succ ext_tail ext_drop ext_mid

def numV (p : Nat × Bool) : Value := .tuple #[.int .i64 (p.1 : Int), .bool p.2]
set_option maxRecDepth 100000 in
theorem number_nil (w : World) : Calls Try.prog 40 #[.string ⟨([] : List UInt8).toArray⟩] w fun e w' => e = .returned (numV (numR [])) ∧ Drawn w w' := by
  go_enter Try.func40, Try.ntmps40
  go_wp2
  go_ret2
  exact ⟨rfl, Drawn.refl _⟩
set_option maxRecDepth 100000 in
theorem number_long (a : UInt8) (r : L) (h : 7 < r.length) (hs : (r.length : Int) ≤ 100000) (w : World) : Calls Try.prog 40 #[.string ⟨(a :: r).toArray⟩] w fun e w' => e = .returned (numV (numR (a :: r))) ∧ Drawn w w' := by
  have g1 : decide ((8 : Int) < (r.length : Int) + 1) = true := by simp; omega
  have E := Lib.hid (numR_long (a := a) h)
  clear h
  go_enter Try.func40, Try.ntmps40
  go_wp2
  go_ret2
  exact ⟨by rw [E.out]; rfl, Drawn.refl _⟩
set_option maxRecDepth 100000 in
theorem number_high (a : UInt8) (r : L) (h : ¬ 7 < r.length) (h2 : 128 ≤ a.toNat) (w : World) : Calls Try.prog 40 #[.string ⟨(a :: r).toArray⟩] w fun e w' => e = .returned (numV (numR (a :: r))) ∧ Drawn w w' := by
  have g1 : decide ((8 : Int) < (r.length : Int) + 1) = false := by simp; omega
  have g2 : decide ((128 : Int) ≤ (a.toNat : Int)) = true := by simp; omega
  have E := Lib.hid (numR_high (r := r) h2)
  have hr : (r.length : Int) ≤ 7 := by omega
  clear h h2
  go_enter Try.func40, Try.ntmps40
  go_wp2
  go_ret2
  exact ⟨by rw [E.out]; rfl, Drawn.refl _⟩
set_option maxRecDepth 100000 in
theorem number_lead (a b : UInt8) (r : L) (h : ¬ 7 < (b :: r).length) (h2 : a.toNat = 0) (hb : b.toNat < 128) (w : World) : Calls Try.prog 40 #[.string ⟨(a :: b :: r).toArray⟩] w fun e w' => e = .returned (numV (numR (a :: b :: r))) ∧ Drawn w w' := by
  simp only [List.length_cons] at h
  have g1 : decide ((8 : Int) < (r.length : Int) + 1 + 1) = false := by simp; omega
  have g2 : decide ((128 : Int) ≤ (a.toNat : Int)) = false := by simp; omega
  have g3 : ((a.toNat : Int) == 0) = true := by simp; omega
  have g4 : decide ((b.toNat : Int) < 128) = true := by simp; omega
  have g5 : decide ((1 : Int) < (r.length : Int) + 1 + 1) = true := by simp; omega
  have E := Lib.hid (numR_lead (r := r) h2 hb)
  have hr : (r.length : Int) ≤ 6 := by omega
  clear h h2 hb
  go_enter Try.func40, Try.ntmps40
  go_wp2
  go_ret2
  exact ⟨by rw [E.out]; rfl, Drawn.refl _⟩
set_option maxRecDepth 100000 in
theorem number_loop (s : L) (ha : 0 < s.length) (h8 : s.length ≤ 8) (ge : s.isEmpty = false)
    (a : UInt8) (r : L) (hs : s = a :: r) (h2 : a.toNat < 128) (h3 : ¬ (a.toNat = 0 ∧ headSmall r = true)) (w : World) : Calls Try.prog 40 #[.string ⟨s.toArray⟩] w fun e w' => e = .returned (numV (numR s)) ∧ Drawn w w' := by
  subst hs
  have hb : ∀ i, val ((a :: r).take i) < 9223372036854775808 := val_take_lt h2 (by simpa using h8)
  have g2 : decide ((128 : Int) ≤ (a.toNat : Int)) = false := by simp; omega
  have hr : (r.length : Int) ≤ 7 := by simp at h8; omega
  have H3 := Lib.hid h3
  have H2 := Lib.hid h2
  have HB := Lib.hid hb
  have g1 : decide ((8 : Int) < (r.length : Int) + 1) = false := by simp; omega
  clear ge ha h8 hb h2
  have key : decide ((1 : Int) < (r.length : Int) + 1) = false ∨ (decide ((1 : Int) < (r.length : Int) + 1) = true ∧ ((a.toNat : Int) == 0) = false) ∨
      (∃ h : 0 < r.length, decide ((1 : Int) < (r.length : Int) + 1) = true ∧ ((a.toNat : Int) == 0) = true ∧ decide (((r[0]'h).toNat : Int) < 128) = false) := by
    cases r with
    | nil => left; simp
    | cons b q =>
      right
      by_cases h0 : a.toNat = 0
      · right
        have : ¬ headSmall (b :: q) = true := fun g => h3 ⟨h0, g⟩
        simp only [headSmall, decide_eq_true_eq] at this
        refine ⟨by simp, by simp; omega, by simp; omega, ?_⟩
        simp; omega
      · left
        refine ⟨by simp; omega, by simp; omega⟩
  clear h3
  by_cases hbig : 4611686018427387904 < val (a :: r)
  · have B1 : decide ((4611686018427387904 : Int) < ((val (a :: r) : Nat) : Int)) = true := by simp; omega
    have E := Lib.hid (numR_great hbig)
    clear hbig
    rcases key with k1 | ⟨k1, k2⟩ | ⟨k0, k1, k2, k3⟩
    all_goals
      go_enter Try.func40, Try.ntmps40
      go_wp2
      go_loop [4, 33] (fun n i => ∃ k : Nat, k ≤ r.length + 1 ∧ i = .int .i64 (k : Int) ∧ n = .int .i64 ((val ((a :: r).take k) : Nat) : Int)) (fun _ i => r.length + 1 - (intOf i).toNat)
      case atStart => exact ⟨0, by omega, rfl, rfl⟩
      case round =>
        obtain ⟨k, hk, rfl, rfl⟩ := hrel
        by_cases hlt : k < r.length + 1
        · have hlt' : k < (a :: r).length := by simpa using hlt
          have V := Lib.hid (val_take_snoc (a :: r) k hlt')
          have hx1 := HB.out k
          have hx2 := HB.out (k + 1)
          rw [V.out] at hx2
          have hu := u8_le ((a :: r)[k])
          go_wp2
          refine ⟨⟨k + 1, by omega, by go_num, ?_⟩, by simp [intOf]; omega⟩
          rw [or_low _ _ (by omega) (by omega), V.out]
          go_num
        · obtain rfl : k = r.length + 1 := by omega
          have e : (a :: r).take (r.length + 1) = a :: r := List.take_of_length_le (by simp)
          rw [e]
          clear e hk hlt
          go_wp2
          go_ret2
          exact ⟨by rw [E.out]; rfl, Drawn.refl _⟩
  · have B1 : decide ((4611686018427387904 : Int) < ((val (a :: r) : Nat) : Int)) = false := by simp; omega
    have E := Lib.hid (numR_good (by omega) H2.out H3.out (by omega))
    clear hbig
    rcases key with k1 | ⟨k1, k2⟩ | ⟨k0, k1, k2, k3⟩
    all_goals
      go_enter Try.func40, Try.ntmps40
      go_wp2
      go_loop [4, 33] (fun n i => ∃ k : Nat, k ≤ r.length + 1 ∧ i = .int .i64 (k : Int) ∧ n = .int .i64 ((val ((a :: r).take k) : Nat) : Int)) (fun _ i => r.length + 1 - (intOf i).toNat)
      case atStart => exact ⟨0, by omega, rfl, rfl⟩
      case round =>
        obtain ⟨k, hk, rfl, rfl⟩ := hrel
        by_cases hlt : k < r.length + 1
        · have hlt' : k < (a :: r).length := by simpa using hlt
          have V := Lib.hid (val_take_snoc (a :: r) k hlt')
          have hx1 := HB.out k
          have hx2 := HB.out (k + 1)
          rw [V.out] at hx2
          have hu := u8_le ((a :: r)[k])
          go_wp2
          refine ⟨⟨k + 1, by omega, by go_num, ?_⟩, by simp [intOf]; omega⟩
          rw [or_low _ _ (by omega) (by omega), V.out]
          go_num
        · obtain rfl : k = r.length + 1 := by omega
          have e : (a :: r).take (r.length + 1) = a :: r := List.take_of_length_le (by simp)
          rw [e]
          clear e hk hlt
          go_wp2
          go_ret2
          exact ⟨by rw [E.out]; rfl, Drawn.refl _⟩
theorem number_any (s : L) (hs : (s.length : Int) ≤ 100000) (w : World) : Calls Try.prog 40 #[.string ⟨s.toArray⟩] w fun e w' => e = .returned (numV (numR s)) ∧ Drawn w w' := by
  cases s with
  | nil => exact number_nil w
  | cons a r =>
    simp only [List.length_cons] at hs
    by_cases h1 : 7 < r.length
    · exact number_long a r h1 (by omega) w
    · by_cases h2 : 128 ≤ a.toNat
      · exact number_high a r h1 h2 w
      · by_cases h3 : a.toNat = 0 ∧ headSmall r = true
        · obtain ⟨h3, h4⟩ := h3
          cases r with
          | nil => simp [headSmall] at h4
          | cons b q => exact number_lead a b q h1 h3 (by simpa [headSmall] using h4) w
        · exact number_loop (a :: r) (by simp) (by simp; omega) rfl a r rfl (by omega) h3 w
end Go.Proofs.Ytkkpcnibghndgaa.DerC
