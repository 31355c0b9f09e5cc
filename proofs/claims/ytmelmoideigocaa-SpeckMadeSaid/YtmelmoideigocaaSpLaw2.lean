/-
  The laws of chapter 2 that ask the code alone: Made, twins.
-/
import Derived.Test.YtmelmoideigocaaSpLaw1
set_option linter.unusedVariables false
namespace Go.Proofs.Ytmelmoideigocaa.SpL
open Go.RowKit Go.Proofs.Ytmelmoideigocaa.Mem Go.Proofs.Ytmelmoideigocaa.Sp

set_option maxRecDepth 100000 in
set_option maxHeartbeats 1600000 in
theorem twins (A : Option Addr) (l : List UInt8) (c : Nat) (x y : Int) (w : World) (hr : Rd w w.heap.size A (bvs l)) (hc : l.length ≤ c) (hm : c ≤ maxLen) (wx : (Lit.int .u32 x).wf = true) (wy : (Lit.int .u32 y).wf = true) :
    Calls Try.prog 9 #[.slice A l.length c, .int .u32 x, .int .u32 y] w fun e w' => e = .returned (.bool true) ∧ Below w.heap.size w w' := by
  obtain ⟨u, rfl⟩ := Open.u32_of_wf wx
  obtain ⟨v, rfl⟩ := Open.u32_of_wf wy
  clear wx wy hc hm
  obtain ⟨ks, ek⟩ : ∃ ks, ks = ksOf l := ⟨_, rfl⟩
  have c1 := key_any A l.length c l w rfl hr
  have cq : ∀ w1, Below w.heap.size w w1 → _ := fun w1 h => key_any A l.length c l w1 rfl ((hr.below h).more h.size)
  rw [← ek] at c1
  rw [← ek] at cq
  clear hr ek
  obtain ⟨p, ep⟩ : ∃ p, p = blockK (kw ks) (u, v) := ⟨_, rfl⟩
  have EP := Lib.hid ep; clear ep
  go_enter Try.func9, Try.ntmps9
  go_wp2_with (first
    | (go_at_call 12; refine Calls.mono c1 ?_; rintro e w1 ⟨rfl, hb1⟩; have HB1 := Lib.hid hb1; clear hb1 c1; have c2 := new_any ks w1)
    | (go_at_call 11; refine Calls.mono c2 ?_; rintro e w2 ⟨b, rfl, hb, hk2, hb2⟩; clear c2; have c3 := cq w2 (bt HB1.out hb2); clear cq; have HBb := Lib.hid hb; have HK2 := Lib.hid hk2; have HB2 := Lib.hid hb2; clear hk2 hb hb2)
    | (go_at_call 12; refine Calls.mono c3 ?_; rintro e w3 ⟨rfl, hb3⟩; have HB3 := Lib.hid hb3; clear hb3 c3; have c4 := new_any ks w3)
    | (go_at_call 11; refine Calls.mono c4 ?_; rintro e w4 ⟨d, rfl, hd, hk4, hb4⟩; clear c4; have hkb := (HK2.out.below HB3.out).below hb4; have hbd : b ≠ d := (Nat.ne_of_lt (Nat.lt_of_lt_of_le (HK2.out.below HB3.out).lt hd)); have c5 := block_any b ks false u v w4 hkb; rw [← EP.out] at c5; have HBD := Lib.hid hbd; have HK4 := Lib.hid hk4; have HD := Lib.hid hd; have HB4 := Lib.hid hb4; clear hbd hk4 hd hb4 hkb)
    | (go_at_call 14; refine Calls.mono c5 ?_; rintro e w5 ⟨rfl, hk5, hg5, _⟩; clear c5; have hkd := HK4.out.grown hg5 (fun h => HBD.out (by injection h)); have c6 := made_any d ks false w5 hkd; have c7 := block_any d ks false u v w5 hkd; rw [← EP.out] at c7; have HG5 := Lib.hid hg5; clear hk5 hg5 hkd)
    | (go_at_call 21; refine Calls.mono c6 ?_; rintro e w' ⟨rfl, rfl⟩; clear c6)
    | (go_at_call 14; refine Calls.mono c7 ?_; rintro e w7 ⟨rfl, hk7, hg7, _⟩; clear c7; have c8 := made_any d ks true w7 hk7; have c9 := known_any w7; have HG7 := Lib.hid hg7; clear hk7 hg7)
    | (go_at_call 21; refine Calls.mono c8 ?_; rintro e w' ⟨rfl, rfl⟩; clear c8)
    | (go_at_call 18; refine Calls.mono c9 ?_; rintro e w9 ⟨rfl, hb9⟩; have HB9 := Lib.hid hb9; clear hb9))
  go_ret
  have h2 := bt (bt HB1.out HB2.out) HB3.out
  have h4 := btg (bt h2 HB4.out) HG5.out (Nat.le_trans HB1.out.size HBb.out)
  exact ⟨rfl, bt (btg h4 HG7.out (Nat.le_trans h2.size HD.out)) HB9.out⟩

theorem block_12 (b : Nat) (ks : Nat → UInt8) (w : World) (hK : Key w b ks false) :
    Calls Try.prog 14 #[.pointer (some ⟨b, 0, none⟩), .int .u32 1, .int .u32 2] w fun e w' => (∃ v : Value, e = .returned v) ∧ Key w' b ks true ∧ w.grownBy w' (some b) := by
  have h := block_any b ks false 1#32 2#32 w hK
  exact h.mono fun e w' hh => ⟨⟨_, hh.1⟩, hh.2.1, hh.2.2.1⟩
theorem back_12 (b : Nat) (ks : Nat → UInt8) (w : World) (hK : Key w b ks false) :
    Calls Try.prog 16 #[.pointer (some ⟨b, 0, none⟩), .int .u32 1, .int .u32 2] w fun e w' => (∃ v : Value, e = .returned v) ∧ Key w' b ks true ∧ w.grownBy w' (some b) := by
  have h := back_any b ks false 1#32 2#32 w hK
  exact h.mono fun e w' hh => ⟨⟨_, hh.1⟩, hh.2.1, hh.2.2.1⟩
set_option maxRecDepth 100000 in
set_option maxHeartbeats 1600000 in
theorem made0 (A : Option Addr) (l : List UInt8) (c : Nat) (w : World) (hr : Rd w w.heap.size A (bvs l)) :
    Calls Try.prog 7 #[.slice A l.length c, .int .i64 0] w fun e w' => e = .returned (.bool true) ∧ Below w.heap.size w w' := by
  obtain ⟨ks, ek⟩ : ∃ ks, ks = ksOf l := ⟨_, rfl⟩
  have c1 := key_any A l.length c l w rfl hr
  rw [← ek] at c1
  clear hr ek
  go_enter Try.func7, Try.ntmps7
  go_wp2_with (first
    | (go_at_call 12; refine Calls.mono c1 ?_; rintro e w1 ⟨rfl, hb1⟩; have HB1 := Lib.hid hb1; clear hb1 c1; have c2 := new_any ks w1)
    | (go_at_call 11; refine Calls.mono c2 ?_; rintro e w2 ⟨b, rfl, hb, hk2, hb2⟩; clear c2; have c3 := made_any b ks false w2 hk2; have c4 := block_12 b ks w2 hk2; have HBb := Lib.hid hb; have HK2 := Lib.hid hk2; have HB2 := Lib.hid hb2; clear hk2 hb hb2)
    | (go_at_call 21; refine Calls.mono c3 ?_; rintro e w' ⟨rfl, rfl⟩; clear c3)
    | (go_at_call 14; refine Calls.mono c4 ?_; rintro e w3 ⟨⟨v3, rfl⟩, hk3, hg3⟩; clear c4; have c5 := made_any b ks true w3 hk3; have c6 := known_any w3; have HG3 := Lib.hid hg3; clear hk3 hg3)
    | (go_at_call 21; refine Calls.mono c5 ?_; rintro e w' ⟨rfl, rfl⟩; clear c5)
    | (go_at_call 18; refine Calls.mono c6 ?_; rintro e w6 ⟨rfl, hb6⟩; have HB6 := Lib.hid hb6; clear hb6))
  go_ret
  exact ⟨rfl, bt HB1.out (bt (btg HB2.out HG3.out HBb.out) HB6.out)⟩
set_option maxRecDepth 100000 in
set_option maxHeartbeats 1600000 in
theorem made1 (A : Option Addr) (l : List UInt8) (c : Nat) (w : World) (hr : Rd w w.heap.size A (bvs l)) :
    Calls Try.prog 7 #[.slice A l.length c, .int .i64 1] w fun e w' => e = .returned (.bool true) ∧ Below w.heap.size w w' := by
  obtain ⟨ks, ek⟩ : ∃ ks, ks = ksOf l := ⟨_, rfl⟩
  have c1 := key_any A l.length c l w rfl hr
  rw [← ek] at c1
  clear hr ek
  go_enter Try.func7, Try.ntmps7
  go_wp2_with (first
    | (go_at_call 12; refine Calls.mono c1 ?_; rintro e w1 ⟨rfl, hb1⟩; have HB1 := Lib.hid hb1; clear hb1 c1; have c2 := new_any ks w1)
    | (go_at_call 11; refine Calls.mono c2 ?_; rintro e w2 ⟨b, rfl, hb, hk2, hb2⟩; clear c2; have c3 := made_any b ks false w2 hk2; have c4 := back_12 b ks w2 hk2; have HBb := Lib.hid hb; have HK2 := Lib.hid hk2; have HB2 := Lib.hid hb2; clear hk2 hb hb2)
    | (go_at_call 21; refine Calls.mono c3 ?_; rintro e w' ⟨rfl, rfl⟩; clear c3)
    | (go_at_call 16; refine Calls.mono c4 ?_; rintro e w3 ⟨⟨v3, rfl⟩, hk3, hg3⟩; clear c4; have c5 := made_any b ks true w3 hk3; have c6 := known_any w3; have HG3 := Lib.hid hg3; clear hk3 hg3)
    | (go_at_call 21; refine Calls.mono c5 ?_; rintro e w' ⟨rfl, rfl⟩; clear c5)
    | (go_at_call 18; refine Calls.mono c6 ?_; rintro e w6 ⟨rfl, hb6⟩; have HB6 := Lib.hid hb6; clear hb6))
  go_ret
  exact ⟨rfl, bt HB1.out (bt (btg HB2.out HG3.out HBb.out) HB6.out)⟩
set_option maxRecDepth 100000 in
set_option maxHeartbeats 1600000 in
theorem made2 (A : Option Addr) (l : List UInt8) (c : Nat) (w : World) (hr : Rd w w.heap.size A (bvs l)) :
    Calls Try.prog 7 #[.slice A l.length c, .int .i64 2] w fun e w' => e = .returned (.bool true) ∧ Below w.heap.size w w' := by
  obtain ⟨ks, ek⟩ : ∃ ks, ks = ksOf l := ⟨_, rfl⟩
  have c1 := key_any A l.length c l w rfl hr
  rw [← ek] at c1
  clear hr ek
  go_enter Try.func7, Try.ntmps7
  go_wp2_with (first
    | (go_at_call 12; refine Calls.mono c1 ?_; rintro e w1 ⟨rfl, hb1⟩; have HB1 := Lib.hid hb1; clear hb1 c1; have c2 := new_any ks w1)
    | (go_at_call 11; refine Calls.mono c2 ?_; rintro e w2 ⟨b, rfl, hb, hk2, hb2⟩; clear c2; have c3 := made_any b ks false w2 hk2; have c4 := stream_any b ks false 5 3 3 w2 rfl (by decide) (by decide) (by decide) hk2; have HBb := Lib.hid hb; have HK2 := Lib.hid hk2; have HB2 := Lib.hid hb2; clear hk2 hb hb2)
    | (go_at_call 21; refine Calls.mono c3 ?_; rintro e w' ⟨rfl, rfl⟩; clear c3)
    | (go_at_call 19; refine Calls.mono c4 ?_; rintro e w3 ⟨g, rfl, _, _, hk3, hg3, _⟩; clear c4; have c5 := made_any b ks true w3 hk3; have c6 := known_any w3; have HG3 := Lib.hid hg3; clear hk3 hg3)
    | (go_at_call 21; refine Calls.mono c5 ?_; rintro e w' ⟨rfl, rfl⟩; clear c5)
    | (go_at_call 18; refine Calls.mono c6 ?_; rintro e w6 ⟨rfl, hb6⟩; have HB6 := Lib.hid hb6; clear hb6))
  go_ret
  exact ⟨rfl, bt HB1.out (bt (btg HB2.out HG3.out HBb.out) HB6.out)⟩
set_option maxRecDepth 100000 in
set_option maxHeartbeats 1600000 in
theorem made3 (A : Option Addr) (l : List UInt8) (c : Nat) (w : World) (hr : Rd w w.heap.size A (bvs l)) :
    Calls Try.prog 7 #[.slice A l.length c, .int .i64 3] w fun e w' => e = .returned (.bool true) ∧ Below w.heap.size w w' := by
  obtain ⟨ks, ek⟩ : ∃ ks, ks = ksOf l := ⟨_, rfl⟩
  have c1 := key_any A l.length c l w rfl hr
  rw [← ek] at c1
  clear hr ek
  go_enter Try.func7, Try.ntmps7
  go_wp2_with (first
    | (go_at_call 12; refine Calls.mono c1 ?_; rintro e w1 ⟨rfl, hb1⟩; have HB1 := Lib.hid hb1; clear hb1 c1; have c2 := new_any ks w1)
    | (go_at_call 11; refine Calls.mono c2 ?_; rintro e w2 ⟨b, rfl, hb, hk2, hb2⟩; clear c2; have c3 := made_any b ks false w2 hk2; have c5 := made_any b ks false w2 hk2; have c6 := known_any w2; have HBb := Lib.hid hb; have HK2 := Lib.hid hk2; have HB2 := Lib.hid hb2; clear hk2 hb hb2)
    | (go_at_call 21; refine Calls.mono c3 ?_; rintro e w' ⟨rfl, rfl⟩; clear c3)
    
    | (go_at_call 21; refine Calls.mono c5 ?_; rintro e w' ⟨rfl, rfl⟩; clear c5)
    | (go_at_call 18; refine Calls.mono c6 ?_; rintro e w6 ⟨rfl, hb6⟩; have HB6 := Lib.hid hb6; clear hb6))
  go_ret
  exact ⟨rfl, bt HB1.out (bt HB2.out HB6.out)⟩
theorem madeLow (v : Value) (way : Int) (w : World) (h : way < 0 ∨ 3 < way) :
    Calls Try.prog 7 #[v, .int .i64 way] w fun e w' => e = .returned (.bool true) ∧ Below w.heap.size w w' := by
  rcases h with h | h
  · have e1 : decide (way < 0) = true := by simpa using h
    clear h
    go_enter Try.func7, Try.ntmps7
    go_wp2
    go_ret
    exact ⟨rfl, Below.refl _ _⟩
  · have e1 : decide (way < 0) = false := by simp; omega
    have e2 : decide (3 < way) = true := by simpa using h
    clear h
    go_enter Try.func7, Try.ntmps7
    go_wp2
    go_ret
    exact ⟨rfl, Below.refl _ _⟩
theorem made (A : Option Addr) (l : List UInt8) (c : Nat) (way : Int) (w : World) (hr : Rd w w.heap.size A (bvs l)) (hc : l.length ≤ c) (hm : c ≤ maxLen) (wx : (Lit.int .i64 way).wf = true) :
    Calls Try.prog 7 #[.slice A l.length c, .int .i64 way] w fun e w' => e = .returned (.bool true) ∧ Below w.heap.size w w' := by
  by_cases h : way < 0 ∨ 3 < way
  · exact madeLow _ way w h
  · have h2 : way = 0 ∨ way = 1 ∨ way = 2 ∨ way = 3 := by omega
    rcases h2 with rfl | rfl | rfl | rfl
    · exact made0 A l c w hr
    · exact made1 A l c w hr
    · exact made2 A l c w hr
    · exact made3 A l c w hr
end Go.Proofs.Ytmelmoideigocaa.SpL
