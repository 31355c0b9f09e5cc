/-
  The same bytes are sealed to the same ones, however much was sealed before.
-/
import Derived.Test.YtioonkckppmnoaaSeLaw1
set_option linter.unusedVariables false
namespace Go.Proofs.Ytioonkckppmnoaa.SeL
open Go.RowKit Go.Proofs.Ytioonkckppmnoaa.Mem Go.Proofs.Ytioonkckppmnoaa.Se

set_option maxRecDepth 100000 in
set_option maxHeartbeats 3200000 in
theorem same_yes (A : Option Addr) (l : List UInt8) (c : Nat) (A2 : Option Addr) (p : List UInt8) (c2 : Nat) (n : Nat) (w : World) (hr : Rd w w.heap.size A (bvs l)) (hr2 : Rd w w.heap.size A2 (bvs p)) (hp : p.length ≤ 300) (hn : n ≤ 50) :
    Calls Try.prog 11 #[.slice A l.length c, .slice A2 p.length c2, .int .i64 (n : Int)] w fun e w' => e = .returned (.bool true) ∧ Below w.heap.size w w' := by
  obtain ⟨ks, ek⟩ : ∃ ks, ks = ksOf l := ⟨_, rfl⟩
  obtain ⟨B, eB⟩ : ∃ B, B = w.heap.size := ⟨_, rfl⟩
  have c1 := key_any A l.length c l w rfl hr
  rw [← ek] at c1
  obtain ⟨kv, ekv⟩ : ∃ kv, kv = key32 ks := ⟨_, rfl⟩
  have cnew := fun w1 => new_any ks w1
  rw [← ekv] at c1 cnew
  have hrp : ∀ w1 (b : Nat) (h : Option Nat), (∀ i, Ow b h i → B ≤ i) → Below B w w1 → RdA (Ow b h) w1 A2 (bvs p) := fun w1 b h hb h1 => RdA.of_rd (B := B) (eB ▸ hr2.below (eB ▸ h1)) (eB ▸ h1.size) hb
  obtain ⟨m, em⟩ : ∃ m, m = p.length := ⟨_, rfl⟩
  obtain ⟨Z, eZ⟩ : ∃ Z, Z = sealL ks 2 5 p := ⟨_, rfl⟩
  have hZl : m + 16 = Z.length := by rw [eZ, sealL_length, em]
  have cseal := fun (w1 : World) (b : Nat) (h : Option Nat) (a : Nat) (ha : a < 1000000) (h1 : RdA (Ow b h) w1 A2 (bvs p)) (h2 : Box w1 b ks h a 0 0) => seal_ok b ks h a 0 0 2 5 A2 m c2 p w1 ha (by decide) (by decide) em (by omega) h1 h2
  rw [← eZ] at cseal
  have csi := fun (i : Nat) (hi : i ≤ 50) (w1 : World) (b : Nat) (h : Option Nat) (a : Nat) (ha : a < 1000000) (h1 : RdA (Ow b h) w1 A2 (bvs p)) (h2 : Box w1 b ks h a 0 0) => seal_ok b ks h a 0 0 2 i A2 m c2 p w1 ha (by decide) (by omega) em (by omega) h1 h2
  obtain ⟨sv, esv⟩ : ∃ sv : ByteArray, sv = ⟨Z.toArray⟩ := ⟨_, rfl⟩
  have hcvp := fun (w1 : World) (B : Nat) (A : Option Addr) (c : Nat) (h : Rd w1 B A (bvs Z)) => run_bytes_str (P := Try.prog) w1 22 5 Try.underlying22 Try.underlying5 h (m + 16) c hZl 9 Try.underlying9
  rw [← esv] at hcvp
  rw [← em]
  have t1 : decide (300 < (m : Int)) = false := by simp; omega
  have t2 : decide ((n : Int) < 0) = false := by simp
  have t3 : decide (50 < (n : Int)) = false := by simp; omega
  have hn3 : (n : Int) ≤ 50 := by omega
  have EB := Lib.hid eB; clear eB
  have CN := Lib.hid cnew; clear cnew
  have CS := Lib.hid cseal; clear cseal
  have CI := Lib.hid csi; clear csi
  have CVP := Lib.hid hcvp; clear hcvp
  have HRP := Lib.hid hrp; clear hrp
  have HN := Lib.hid hn; clear hn
  clear hr hr2 hp ek ekv em eZ hZl esv
  go_enter Try.func11, Try.ntmps11
  go_wp2_with (first
    | (go_at_call 13; refine Calls.mono c1 ?_; rintro e w1 ⟨rfl, hb1⟩; clear c1; have c2 := CN.out w1; have H1 := Lib.hid ((EB.out ▸ hb1 : Below B w w1)); clear hb1)
    | (go_at_call 12; refine Calls.mono c2 ?_; rintro e w2 ⟨x, rfl, hx, hxx, hb2⟩; clear c2; have hb2 := H1.out.trans (hb2.mono (EB.out ▸ H1.out.size)); have hxB : B ≤ x := by { have := H1.out.size; have := EB.out; omega }; have c3 := CS.out w2 x none 0 (by decide) (HRP.out w2 x none (fun i hi => by have := Ow_none hi; omega) hb2) hxx; have HX := Lib.hid hxB; have HXL := Lib.hid hxx.lt; have H2 := Lib.hid hb2; clear hx hxx hb2 hxB)
    | (go_at_call 14; refine Calls.mono c3 ?_; rintro e w5 ⟨g, As, cs, rfl, h1, h2, h3, h4, h5⟩; clear c3; have hgx := Step.ge h5; have hb5 := below_chg H2.out (by have := H2.out.size; have := EB.out; omega) h5.1 (fun i _ hi => by have := Ow_none hi; have := HX.out; omega); have H5 := Lib.hid hb5; have HGX := Lib.hid hgx; have HS5 := Lib.hid h3; have HX5 := Lib.hid h4; clear h1 h2 h3 h4 h5 hgx hb5))
  have hown : ∀ i, Ow x (some g) i → B ≤ i := fun i hi => by
    have := HX.out; have := HGX.out; have := H2.out.size; have := EB.out
    rcases Ow_some hi with h | h <;> omega
  have HOWN := Lib.hid hown; clear hown
  go_loopw [10] (fun iv wr => ∃ i : Nat, i ≤ n ∧ iv = .int .i64 (i : Int) ∧ Box wr x ks (some g) (1 + i) 0 0 ∧ Chg (Ow x (some g)) w5 wr) (fun iv _ => n - (intOf iv).toNat)
  case atStart => exact ⟨0, Nat.zero_le _, rfl, HX5.out, Chg.refl _ _⟩
  case round =>
    obtain ⟨i, hi, rfl, hxr, hcr⟩ := hrel
    have hbr := below_chg H5.out (by have := H5.out.size; have := EB.out; omega) hcr (fun i _ hi => HOWN.out i hi)
    have hrr := HRP.out wr x (some g) HOWN.out hbr
    have HBR := Lib.hid hbr; clear hbr
    have HCR := Lib.hid hcr; clear hcr
    by_cases hx : i = n
    · subst hx
      have c4 := CS.out wr x (some g) (1 + i) (by have := HN.out; omega) hrr hxr
      clear hrr hxr
      go_wp2_with (first
        | (go_at_call 14; refine Calls.mono c4 ?_; rintro e w6 ⟨g2, A6, c6, rfl, h1, h2, h3, h4, h5⟩; clear c4; have hb6 := below_chg HBR.out (by have := HBR.out.size; have := EB.out; omega) h5.1 (fun i _ hi => HOWN.out i hi); have ha6 := ((HS5.out.mono (S' := Ow x (some g)) (fun i _ hx => by rcases Ow_some hx with h | h; exact .inl (by have := HXL.out; omega); exact .inr h)).go HCR.out).go h5.1; have cv1 := CVP.out w6 _ As cs ha6.rd; have cv2 := CVP.out w6 _ A6 c6 h3.rd; have c7 := known_any w6; have H6 := Lib.hid hb6; clear h1 h2 h3 h4 h5 hb6 ha6)
        | (go_at_call 18; refine Calls.mono c7 ?_; rintro e w8 ⟨rfl, hb8⟩; clear c7; have H8 := Lib.hid hb8; clear hb8))
      go_ret
      refine ⟨rfl, ?_⟩
      rw [← EB.out]
      exact H6.out.trans (H8.out.mono (by have := H6.out.size; have := EB.out; omega))
    · have hlt : i < n := by omega
      have e1 : (i : Int) < (n : Int) := by omega
      have e2 : (0 : Int) ≤ (i : Int) := by omega
      have c4 := CI.out i (by have := HN.out; omega) wr x (some g) (1 + i) (by have := HN.out; omega) hrr hxr
      have HXX := Lib.hid hx; clear hx
      have HI := Lib.hid hi; clear hi
      clear hrr hxr
      go_wp2_with (first
        | (go_at_call 14; refine Calls.mono c4 ?_; rintro e w6 ⟨g2, A6, c6, rfl, h1, h2, h3, h4, h5⟩; clear c4; have hgg := Step.same h5; subst hgg; have HX6 := Lib.hid h4; have HC6 := Lib.hid (HCR.out.then h5.1); clear h1 h2 h3 h4 h5))
      go_roundw
      case rel => exact ⟨i + 1, by omega, by go_num, HX6.out, HC6.out⟩
      case measure => simp [intOf]; omega
theorem same (A : Option Addr) (l : List UInt8) (c : Nat) (A2 : Option Addr) (p : List UInt8) (c2 : Nat) (n : Int) (w : World) (hr : Rd w w.heap.size A (bvs l)) (hc : l.length ≤ c) (hm : c ≤ maxLen) (hr2 : Rd w w.heap.size A2 (bvs p)) (hc2 : p.length ≤ c2) (hm2 : c2 ≤ maxLen) (_ : (Lit.int .i64 n).wf = true) :
    Calls Try.prog 11 #[.slice A l.length c, .slice A2 p.length c2, .int .i64 n] w fun e w' => e = .returned (.bool true) ∧ Below w.heap.size w w' := by
  by_cases hx : p.length ≤ 300 ∧ 0 ≤ n ∧ n ≤ 50
  · obtain ⟨n', rfl⟩ : ∃ k : Nat, n = (k : Int) := ⟨n.toNat, by omega⟩
    exact same_yes A l c A2 p c2 n' w hr hr2 hx.1 (by omega)
  · have HB := Lib.hid (Below.refl w.heap.size w)
    obtain ⟨m, em⟩ : ∃ m, m = p.length := ⟨_, rfl⟩
    rw [← em] at hx ⊢
    have t : decide (300 < (m : Int)) = true ∨ (decide (300 < (m : Int)) = false ∧ decide (n < 0) = true) ∨ (decide (300 < (m : Int)) = false ∧ decide (n < 0) = false ∧ decide (50 < n) = true) := by
      simp only [decide_eq_true_eq, decide_eq_false_iff_not]
      omega
    clear hx em hr hr2 hc hm hc2 hm2
    rcases t with t1 | ⟨t1, t2⟩ | ⟨t1, t2, t3⟩ <;> (
      go_enter Try.func11, Try.ntmps11
      go_wp2
      go_ret
      exact ⟨rfl, HB.out⟩)
end Go.Proofs.Ytioonkckppmnoaa.SeL
