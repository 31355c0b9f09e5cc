/-
  What was sealed opens, by another Box of the same key, too.
-/
import Derived.Test.YtioonkckppmnoaaSeLaw1
set_option linter.unusedVariables false
namespace Go.Proofs.Ytioonkckppmnoaa.SeL
open Go.RowKit Go.Proofs.Ytioonkckppmnoaa.Mem Go.Proofs.Ytioonkckppmnoaa.Se

theorem two_seal {w4 w5 : World} {x y gx a o r : Nat} {ks : Nat → UInt8} {A : Option Addr} {xs : List Value} (hxy : x < y) (hy : Box w4 y ks none a o r) (h3 : RdA (Nw w4.heap.size gx) w5 A xs) (h5 : Step w4 w5 x none gx) :
    Box w5 y ks none a o r ∧ RdA (Ow y none) w5 A xs ∧ y < w4.heap.size ∧ w4.heap.size ≤ gx := by
  have hyl := hy.lt
  refine ⟨hy.chg h5.1 (fun i hi hx => ?_), h3.mono (fun i _ hx => ?_), hyl, Step.ge h5⟩
  · have := Ow_none hi; have := Ow_none hx; omega
  · rw [Ow_none hx]; exact .inl hyl
theorem two_open {w4 w5 w6 : World} {x y gx gy a o r : Nat} {ks : Nat → UInt8} {A : Option Addr} {xs : List Value} (hxy : x < y) (hyl : y < w4.heap.size) (hgx : w4.heap.size ≤ gx) (h3 : RdA (Nw w4.heap.size gx) w5 A xs) (h4 : Box w5 x ks (some gx) a o r) (g5 : Step w5 w6 y none gy) :
    Box w6 x ks (some gx) a o r ∧ RdA (Ow x (some gx)) w6 A xs := by
  refine ⟨h4.chg g5.1 (fun i hi hx => ?_), h3.keep g5.1 (fun i _ hx => ?_) (fun i _ hx => ?_)⟩
  · have := Ow_none hx
    rcases Ow_some hi with h | h <;> omega
  · rw [Ow_none hx]; exact .inl hyl
  · rcases Ow_some hx with h | h
    · exact .inl (by omega)
    · exact .inr h
theorem two_last {w5 w6 w7 : World} {x gx gy g2 : Nat} {A : Option Addr} {xs : List Value} (hx : x < w5.heap.size) (hg : gx < w5.heap.size) (g3 : RdA (Nw w5.heap.size gy) w6 A xs) (k5 : Step w6 w7 x (some gx) g2) : Rd w7 w7.heap.size A xs := by
  refine (g3.keep (S' := fun _ => False) k5.1 (fun i _ hx => ?_) (fun _ _ x => x.elim)).rd
  rcases Ow_some hx with h | h
  · exact .inl (by omega)
  · exact .inl (by omega)

set_option maxRecDepth 100000 in
set_option maxHeartbeats 1600000 in
theorem back_not (A : Option Addr) (l : List UInt8) (c : Nat) (u n : Int) (A3 : Option Addr) (p : List UInt8) (c3 : Nat) (w : World) (hx : ¬ (0 ≤ u ∧ u ≤ 255 ∧ 0 ≤ n ∧ n ≤ 1099511627776 ∧ p.length ≤ 784)) :
    Calls Try.prog 4 #[.slice A l.length c, .int .i64 u, .int .i64 n, .slice A3 p.length c3] w fun e w' => e = .returned (.bool true) ∧ Below w.heap.size w w' := by
  obtain ⟨m, em⟩ : ∃ m, m = p.length := ⟨_, rfl⟩
  rw [← em] at hx ⊢
  clear em
  have hb := Lib.hid (Below.refl w.heap.size w)
  by_cases h1 : u < 0
  · have t1 : decide (u < 0) = true := by simpa using h1
    clear hx
    go_enter Try.func4, Try.ntmps4
    go_wp2
    go_ret
    exact ⟨rfl, hb.out⟩
  · have t1 : decide (u < 0) = false := by simpa using h1
    by_cases h2 : 255 < u
    · have t2 : decide (255 < u) = true := by simpa using h2
      clear hx h1 h2
      go_enter Try.func4, Try.ntmps4
      go_wp2
      go_ret
      exact ⟨rfl, hb.out⟩
    · have t2 : decide (255 < u) = false := by simpa using h2
      by_cases h3 : n < 0
      · have t3 : decide (n < 0) = true := by simpa using h3
        clear hx h1 h2 h3
        go_enter Try.func4, Try.ntmps4
        go_wp2
        go_ret
        exact ⟨rfl, hb.out⟩
      · have t3 : decide (n < 0) = false := by simpa using h3
        by_cases h4 : 1099511627776 < n
        · have t4 : decide (1099511627776 < n) = true := by simpa using h4
          clear hx h1 h2 h3 h4
          go_enter Try.func4, Try.ntmps4
          go_wp2
          go_ret
          exact ⟨rfl, hb.out⟩
        · have t4 : decide (1099511627776 < n) = false := by simpa using h4
          have t5 : decide (784 < (m : Int)) = true := by simp; omega
          clear hx h1 h2 h3 h4
          go_enter Try.func4, Try.ntmps4
          go_wp2
          go_ret
          exact ⟨rfl, hb.out⟩

set_option maxRecDepth 100000 in
set_option maxHeartbeats 3200000 in
theorem back_yes (A : Option Addr) (l : List UInt8) (c : Nat) (u n : Nat) (A3 : Option Addr) (p : List UInt8) (c3 : Nat) (w : World) (hr : Rd w w.heap.size A (bvs l)) (hr3 : Rd w w.heap.size A3 (bvs p)) (hu : u ≤ 255) (hn : n ≤ 1099511627776) (hp : p.length ≤ 784) :
    Calls Try.prog 4 #[.slice A l.length c, .int .i64 (u : Int), .int .i64 (n : Int), .slice A3 p.length c3] w fun e w' => e = .returned (.bool true) ∧ Below w.heap.size w w' := by
  obtain ⟨ks, ek⟩ : ∃ ks, ks = ksOf l := ⟨_, rfl⟩
  obtain ⟨B, eB⟩ : ∃ B, B = w.heap.size := ⟨_, rfl⟩
  have ck : ∀ w1, Below B w w1 → Calls Try.prog 13 #[.slice A l.length c] w1 fun e w' => e = .returned (.agg (key32 ks)) ∧ Below w1.heap.size w1 w' := fun w1 h => by rw [ek]; exact key_any A l.length c l w1 rfl ((eB ▸ hr.below (eB ▸ h)).more (eB ▸ h.size))
  obtain ⟨kv, ekv⟩ : ∃ kv, kv = key32 ks := ⟨_, rfl⟩
  have cnew := fun w1 => new_any ks w1
  rw [← ekv] at ck cnew
  have hcv0 := run_bytes_str (P := Try.prog) w 22 5 Try.underlying22 Try.underlying5 hr3 p.length c3 rfl 9 Try.underlying9
  have hcv9 : ∀ w1, Below B w w1 → _ := fun w1 h => run_bytes_str (P := Try.prog) w1 22 5 Try.underlying22 Try.underlying5 (B := B) (hr3.below (eB ▸ h) |> fun x => eB ▸ x) p.length c3 rfl 9 Try.underlying9
  have hrp : ∀ w1 (b : Nat), B ≤ b → Below B w w1 → RdA (Ow b none) w1 A3 (bvs p) := fun w1 b hb h => RdA.of_rd (B := B) (eB ▸ hr3.below (eB ▸ h)) (eB ▸ h.size) (fun i hx => by rw [Ow_none hx]; exact hb)
  obtain ⟨m, em⟩ : ∃ m, m = p.length := ⟨_, rfl⟩
  obtain ⟨Z, eZ⟩ : ∃ Z, Z = sealL ks u n p := ⟨_, rfl⟩
  have hZl : m + 16 = Z.length := by rw [eZ, sealL_length, em]
  have hZi : isL ks u Z = true := by rw [eZ]; exact isL_seal ks u n p hn hp
  have hZm : mixL ks u (n8 Z) (midL Z) = p := by rw [eZ]; exact mix_seal ks u n p hn
  have cseal := fun (w1 : World) (b : Nat) (h1 : RdA (Ow b none) w1 A3 (bvs p)) (h2 : Box w1 b ks none 0 0 0) => seal_ok b ks none 0 0 0 u n A3 m c3 p w1 (by decide) hu hn em (by omega) h1 h2
  have copen := fun (w1 : World) (b : Nat) (h : Option Nat) (a : Nat) (A : Option Addr) (c : Nat) (hc : m + 16 ≤ c) (hm : c ≤ maxLen) (h1 : RdA (Ow b h) w1 A (bvs Z)) (h2 : Box w1 b ks h a 0 0) => open_ok b ks h a 0 0 u A (m + 16) c Z w1 (by decide) hu hZl hc hm h1 h2 hZi
  rw [hZm, show m + 16 - 16 = m from by omega] at copen
  rw [← eZ] at cseal
  rw [← em] at hcv0 hcv9 ⊢
  obtain ⟨sv, esv⟩ : ∃ sv : ByteArray, sv = ⟨p.toArray⟩ := ⟨_, rfl⟩
  rw [← esv] at hcv0 hcv9
  have hcvp := fun (w1 : World) (B : Nat) (A : Option Addr) (c : Nat) (h : Rd w1 B A (bvs p)) => run_bytes_str (P := Try.prog) w1 22 5 Try.underlying22 Try.underlying5 h m c em 9 Try.underlying9
  rw [← esv] at hcvp
  have t1 : decide ((u : Int) < 0) = false := by simp
  have t2 : decide (255 < (u : Int)) = false := by simp; omega
  have t3 : decide ((n : Int) < 0) = false := by simp
  have t4 : decide (1099511627776 < (n : Int)) = false := by simp; omega
  have t5 : decide (784 < (m : Int)) = false := by simp; omega
  have q3 : (m : Int) ≤ 784 := by omega
  have HB := Lib.hid (Below.refl B w)
  have EB := Lib.hid eB; clear eB
  have CK := Lib.hid ck; clear ck
  have CN := Lib.hid cnew; clear cnew
  have CS := Lib.hid cseal; clear cseal
  have CO := Lib.hid copen; clear copen
  have CV9 := Lib.hid hcv9; clear hcv9
  have CVP := Lib.hid hcvp; clear hcvp
  have HRP := Lib.hid hrp; clear hrp
  clear hr hr3 hu hn hp ek ekv em eZ hZl hZi hZm esv
  have c1 := CK.out w HB.out
  go_enter Try.func4, Try.ntmps4
  go_wp2_with (first
    | (go_at_call 13; refine Calls.mono c1 ?_; rintro e w1 ⟨rfl, hb1⟩; clear c1; have c2 := CN.out w1; have H1 := Lib.hid ((EB.out ▸ hb1 : Below B w w1)); clear hb1)
    | (go_at_call 12; refine Calls.mono c2 ?_; rintro e w2 ⟨x, rfl, hx, hxx, hb2⟩; clear c2; have hb2 := H1.out.trans (hb2.mono (EB.out ▸ H1.out.size)); have c3 := CK.out w2 hb2; have HX := Lib.hid (Nat.le_trans (EB.out ▸ H1.out.size) hx); have HXX := Lib.hid hxx; have H2 := Lib.hid hb2; clear hx hxx hb2)
    | (go_at_call 13; refine Calls.mono c3 ?_; rintro e w3 ⟨rfl, hb3⟩; clear c3; have c4 := CN.out w3; have hxx := HXX.out.below hb3; have hb3 := H2.out.trans (hb3.mono (EB.out ▸ H2.out.size)); have H3 := Lib.hid hb3; have HX3 := Lib.hid hxx; clear hb3 hxx)
    | (go_at_call 12; refine Calls.mono c4 ?_; rintro e w4 ⟨y, rfl, hy, hyy, hb4⟩; clear c4; have hxx := HX3.out.below hb4; have hb4 := H3.out.trans (hb4.mono (EB.out ▸ H3.out.size)); have c5 := CS.out w4 x (HRP.out w4 x (EB.out ▸ HX.out) hb4) hxx; have HXY := Lib.hid (Nat.lt_of_lt_of_le HX3.out.lt hy); have HYY := Lib.hid hyy; have H4 := Lib.hid hb4; have HXL := Lib.hid hxx.lt; clear hy hyy hxx hb4)
    | (go_at_call 14; refine Calls.mono c5 ?_; rintro e w5 ⟨gx, As, cs, rfl, h1, h2, h3, h4, h5⟩; clear c5; obtain ⟨hy5, hr5, hyl, hgx⟩ := two_seal HXY.out HYY.out h3 h5; have c6 := CO.out w5 y none 0 As cs h1 h2 hr5 hy5; have hb5 := below_chg H4.out (by have := H4.out.size; have := EB.out; omega) h5.1 (fun i _ hi => by have := Ow_none hi; have := HX.out; have := EB.out; omega); have H5 := Lib.hid hb5; have HYL := Lib.hid hyl; have HGX := Lib.hid hgx; have HS5 := Lib.hid h3; have HX5 := Lib.hid h4; have HC1 := Lib.hid h1; have HC2 := Lib.hid h2; have HSZ := Lib.hid h5.1.size; clear h1 h2 h3 h4 h5 hy5 hr5 hyl hgx hb5)
    | (go_at_call 16; refine Calls.mono c6 ?_; rintro e w6 ⟨gy, Ao, co, rfl, g1, g2, g3, g4, g5⟩; clear c6; obtain ⟨hx6, hr6⟩ := two_open HXY.out HYL.out HGX.out HS5.out HX5.out g5; have c7 := CO.out w6 x (some gx) 1 As cs HC1.out HC2.out hr6 hx6; have hb6 := below_chg H5.out (by have := H5.out.size; have := EB.out; omega) g5.1 (fun i _ hi => by have := Ow_none hi; have := HX.out; have := EB.out; have := HXY.out; omega); have H6 := Lib.hid hb6; have HO6 := Lib.hid g3; clear g1 g2 g3 g4 g5 hx6 hr6 hb6)
    | (go_at_call 16; refine Calls.mono c7 ?_; rintro e w7 ⟨g2, Aq, cq, rfl, k1, k2, k3, k4, k5⟩; clear c7; have hao := two_last (by have := HXL.out; have := HSZ.out; omega) HX5.out.lt_g HO6.out k5; have hb7 := below_chg H6.out (by have := H6.out.size; have := EB.out; omega) k5.1 (fun i _ hi => by have := HX.out; have := HGX.out; have := EB.out; have := H4.out.size; rcases Ow_some hi with h | h <;> omega); have cv1 := CVP.out w7 _ Ao co hao; have cv2 := CVP.out w7 _ Aq cq k3.rd; have cv3 := CV9.out w7 hb7; have c8 := known_any w7; have H7 := Lib.hid hb7; clear k1 k2 k3 k4 k5 hao hb7 hcv0)
    | (go_at_call 18; refine Calls.mono c8 ?_; rintro e w8 ⟨rfl, hb8⟩; clear c8; have H8 := Lib.hid hb8; clear hb8))
  go_ret
  refine ⟨rfl, ?_⟩
  rw [← EB.out]
  exact H7.out.trans (H8.out.mono (by have := H7.out.size; have := EB.out; omega))
theorem back (A : Option Addr) (l : List UInt8) (c : Nat) (u n : Int) (A3 : Option Addr) (p : List UInt8) (c3 : Nat) (w : World) (hr : Rd w w.heap.size A (bvs l)) (hc : l.length ≤ c) (hm : c ≤ maxLen) (_ : (Lit.int .i64 u).wf = true) (_ : (Lit.int .i64 n).wf = true) (hr3 : Rd w w.heap.size A3 (bvs p)) (hc3 : p.length ≤ c3) (hm3 : c3 ≤ maxLen) :
    Calls Try.prog 4 #[.slice A l.length c, .int .i64 u, .int .i64 n, .slice A3 p.length c3] w fun e w' => e = .returned (.bool true) ∧ Below w.heap.size w w' := by
  by_cases hx : 0 ≤ u ∧ u ≤ 255 ∧ 0 ≤ n ∧ n ≤ 1099511627776 ∧ p.length ≤ 784
  · obtain ⟨u', rfl⟩ : ∃ k : Nat, u = (k : Int) := ⟨u.toNat, by omega⟩
    obtain ⟨n', rfl⟩ : ∃ k : Nat, n = (k : Int) := ⟨n.toNat, by omega⟩
    exact back_yes A l c u' n' A3 p c3 w hr hr3 (by omega) (by omega) (by omega)
  · exact back_not A l c u n A3 p c3 w hx
end Go.Proofs.Ytioonkckppmnoaa.SeL
