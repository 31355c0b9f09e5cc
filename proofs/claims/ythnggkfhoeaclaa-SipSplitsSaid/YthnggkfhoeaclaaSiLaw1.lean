/-
  The laws of the Sum: any bytes; any length.
-/
import Derived.Test.YthnggkfhoeaclaaSiKnown
set_option linter.unusedVariables false
namespace Go.Proofs.Ythnggkfhoeaclaa.SiL
open Go.RowKit Go.Proofs.Ythnggkfhoeaclaa.Mem Go.Proofs.Ythnggkfhoeaclaa.Si

set_option maxRecDepth 100000 in
set_option maxHeartbeats 1600000 in
theorem tells (A : Option Addr) (l : List UInt8) (c : Nat) (A2 : Option Addr) (l2 : List UInt8) (cc : Nat) (w : World) (hr : Rd w w.heap.size A (bvs l)) (hc : l.length ≤ c) (hm : c ≤ maxLen) (hr2 : Rd w w.heap.size A2 (bvs l2)) (hc2 : l2.length ≤ cc) (hm2 : cc ≤ maxLen) :
    Calls Try.prog 3 #[.slice A l.length c, .slice A2 l2.length cc] w fun e w' => e = .returned (.bool true) ∧ Below w.heap.size w w' := by
  obtain ⟨n, en⟩ : ∃ n, n = l.length := ⟨_, rfl⟩
  obtain ⟨m, em⟩ : ∃ m, m = l2.length := ⟨_, rfl⟩
  rw [← en, ← em]
  rw [← em] at hc2
  by_cases hx : 2000 < m
  · have hx2 : (2000 : Int) < (m : Int) := by omega
    have HB := Lib.hid (Below.refl w.heap.size w)
    clear en em
    go_enter Try.func3, Try.ntmps3
    go_wp2_with fail
    go_ret
    exact ⟨rfl, HB.out⟩
  · have hx2 : (m : Int) ≤ 2000 := by omega
    obtain ⟨ks, ek⟩ : ∃ ks, ks = ksOf l := ⟨_, rfl⟩
    obtain ⟨x, ex⟩ : ∃ x, x = sumOf ks l2 := ⟨_, rfl⟩
    obtain ⟨y, ey⟩ : ∃ x, x = sumOf ks [] := ⟨_, rfl⟩
    have ck : ∀ w1, Below w.heap.size w w1 → Calls Try.prog 8 #[.slice A n c] w1 fun e w' => e = .returned (.agg (key16 ks)) ∧ Below w1.heap.size w1 w' := fun w1 h => by rw [ek]; exact key_any A n c l w1 en ((hr.below h).more h.size)
    have cs : ∀ w1, Below w.heap.size w w1 → Calls Try.prog 7 #[.agg (key16 ks), .slice (some ⟨w1.heap.size, 0, none⟩) 1 1] (w1.alloc (.cells #[.slice A2 m cc] 22)) fun e w' => e = .returned (wv x) ∧ Below w1.heap.size w1 w' := fun w1 h => by rw [ex]; exact sum_one ks A2 m cc l2 w1 em (by omega) ((hr2.below h).more h.size)
    have cd : ∀ w1, Below w.heap.size w w1 → Calls Try.prog 9 #[.agg (key16 ks), .slice A2 m cc] w1 fun e w' => e = .returned (wv x) ∧ Below w1.heap.size w1 w' := fun w1 h => by rw [ex]; exact dsum_any ks A2 m cc l2 w1 em (by omega) hc2 hm2 ((hr2.below h).more h.size)
    have cs0 : ∀ w1, Calls Try.prog 7 #[.agg (key16 ks), .slice none 0 0] w1 fun e w' => e = .returned (wv y) ∧ Below w1.heap.size w1 w' := fun w1 => by rw [ey]; exact sum_none ks 0 w1
    have cd0 : ∀ w1, Calls Try.prog 9 #[.agg (key16 ks), .slice none 0 0] w1 fun e w' => e = .returned (wv y) ∧ Below w1.heap.size w1 w' := fun w1 => by rw [ey]; exact dsum_any ks none 0 0 [] w1 rfl (by decide) (by decide) (by decide) (.inl rfl)
    have c1 := ck w (Below.refl _ _)
    clear en em hx hc2 hm2 hc hm hr hr2 ek ex ey
    go_enter Try.func3, Try.ntmps3
    go_wp2_with (first
      | (go_at_call 8; refine Calls.mono c1 ?_; rintro e w1 ⟨rfl, hb1⟩; clear c1; have c2 := cs w1 hb1; have HB1 := Lib.hid hb1; clear hb1 cs)
      | (go_at_call 7; refine Calls.mono c2 ?_; rintro e w2 ⟨rfl, hb2⟩; clear c2; have H2 := bt HB1.out hb2; have c3 := ck w2 H2; have HB2 := Lib.hid H2; clear hb2 H2 HB1)
      | (go_at_call 8; refine Calls.mono c3 ?_; rintro e w3 ⟨rfl, hb3⟩; clear c3; have H3 := bt HB2.out hb3; have c4 := cd w3 H3; have HB3 := Lib.hid H3; clear hb3 H3 HB2 cd)
      | (go_at_call 9; refine Calls.mono c4 ?_; rintro e w4 ⟨rfl, hb4⟩; clear c4; have H4 := bt HB3.out hb4; have c5 := ck w4 H4; have HB4 := Lib.hid H4; clear hb4 H4 HB3)
      | (go_at_call 8; refine Calls.mono c5 ?_; rintro e w5 ⟨rfl, hb5⟩; clear c5; have H5 := bt HB4.out hb5; have c6 := cs0 w5; have HB5 := Lib.hid H5; clear hb5 H5 HB4 cs0)
      | (go_at_call 7; refine Calls.mono c6 ?_; rintro e w6 ⟨rfl, hb6⟩; clear c6; have H6 := bt HB5.out hb6; have c7 := ck w6 H6; have HB6 := Lib.hid H6; clear hb6 H6 HB5 ck)
      | (go_at_call 8; refine Calls.mono c7 ?_; rintro e w7 ⟨rfl, hb7⟩; clear c7; have H7 := bt HB6.out hb7; have c8 := cd0 w7; have HB7 := Lib.hid H7; clear hb7 H7 HB6 cd0)
      | (go_at_call 9; refine Calls.mono c8 ?_; rintro e w8 ⟨rfl, hb8⟩; clear c8; have H8 := bt HB7.out hb8; have c9 := known_any w8; have HB8 := Lib.hid H8; clear hb8 H8 HB7)
      | (go_at_call 10; refine Calls.mono c9 ?_; rintro e w9 ⟨rfl, hb9⟩; clear c9; have H9 := bt HB8.out hb9; have HB9 := Lib.hid H9; clear hb9 H9 HB8))
    go_ret
    exact ⟨rfl, HB9.out⟩
end Go.Proofs.Ythnggkfhoeaclaa.SiL
