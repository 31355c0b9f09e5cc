/-
  The laws of chapter 2 that ask the code alone: a nil Key, Made, turned and turned back, twins.
-/
import Derived.Test.YtmelmoideigocaaSpKnown
import Derived.Test.YtmelmoideigocaaSpStream
import Derived.Test.YtmelmoideigocaaOpenB
set_option linter.unusedVariables false
namespace Go.Proofs.Ytmelmoideigocaa.SpL
open Go.RowKit Go.Proofs.Ytmelmoideigocaa.Mem Go.Proofs.Ytmelmoideigocaa.Sp

theorem block_made (b : Nat) (ks : Nat → UInt8) (x y : Wd) (w : World) (hK : Key w b ks true) :
    Calls Try.prog 14 #[.pointer (some ⟨b, 0, none⟩), wv x, wv y] w fun e w' => e = .returned (.tuple #[wv (blockK (kw ks) (x, y)).1, wv (blockK (kw ks) (x, y)).2]) ∧ w' = w :=
  (block_any b ks true x y w hK).mono fun e w' h => ⟨h.1, h.2.2.2 rfl⟩
theorem back_made (b : Nat) (ks : Nat → UInt8) (x y : Wd) (w : World) (hK : Key w b ks true) :
    Calls Try.prog 16 #[.pointer (some ⟨b, 0, none⟩), wv x, wv y] w fun e w' => e = .returned (.tuple #[wv (backK (kw ks) (x, y)).1, wv (backK (kw ks) (x, y)).2]) ∧ w' = w :=
  (back_any b ks true x y w hK).mono fun e w' h => ⟨h.1, h.2.2.2 rfl⟩
set_option maxRecDepth 100000 in
set_option maxHeartbeats 1600000 in
theorem ofNothing (x n : Int) (w : World) (wx : (Lit.int .u32 x).wf = true) (wn : (Lit.int .i64 n).wf = true) :
    Calls Try.prog 8 #[.int .u32 x, .int .i64 n] w fun e w' => e = .returned (.bool true) ∧ Below w.heap.size w w' := by
  obtain ⟨v, rfl⟩ := Open.u32_of_wf wx
  clear wx wn
  have c1 := block_nil v v w
  have c2 := back_nil v v w
  have c3 := stream_nil none 5 n w (.inl rfl)
  have c4 := made_nil w
  have c5 := known_any w
  go_enter Try.func8, Try.ntmps8
  go_wp2_with (first
    | (go_at_call 14; refine Calls.mono c1 ?_; rintro e w' ⟨rfl, rfl⟩)
    | (go_at_call 16; refine Calls.mono c2 ?_; rintro e w' ⟨rfl, rfl⟩)
    | (go_at_call 19; refine Calls.mono c3 ?_; rintro e w' ⟨rfl, rfl⟩)
    | (go_at_call 21; refine Calls.mono c4 ?_; rintro e w' ⟨rfl, rfl⟩)
    | (go_at_call 18; refine Calls.mono c5 ?_; rintro e w' ⟨rfl, hb⟩))
  · go_ret
    exact ⟨rfl, Below.refl _ _⟩
  · go_ret
    exact ⟨rfl, hb⟩

set_option maxRecDepth 100000 in
set_option maxHeartbeats 1600000 in
theorem back (A : Option Addr) (l : List UInt8) (c : Nat) (x y : Int) (w : World) (hr : Rd w w.heap.size A (bvs l)) (hc : l.length ≤ c) (hm : c ≤ maxLen) (wx : (Lit.int .u32 x).wf = true) (wy : (Lit.int .u32 y).wf = true) :
    Calls Try.prog 4 #[.slice A l.length c, .int .u32 x, .int .u32 y] w fun e w' => e = .returned (.bool true) ∧ Below w.heap.size w w' := by
  obtain ⟨u, rfl⟩ := Open.u32_of_wf wx
  obtain ⟨v, rfl⟩ := Open.u32_of_wf wy
  clear wx wy hc hm
  obtain ⟨ks, ek⟩ : ∃ ks, ks = ksOf l := ⟨_, rfl⟩
  have c1 := key_any A l.length c l w rfl hr
  rw [← ek] at c1
  clear hr ek
  obtain ⟨p, ep⟩ : ∃ p, p = blockK (kw ks) (u, v) := ⟨_, rfl⟩
  obtain ⟨q, eq⟩ : ∃ q, q = backK (kw ks) (u, v) := ⟨_, rfl⟩
  have h1 : backK (kw ks) (p.1, p.2) = (u, v) := by rw [ep]; exact back_block _ _
  have h2 : blockK (kw ks) (q.1, q.2) = (u, v) := by rw [eq]; exact block_back _ _
  have H1 := Lib.hid h1; clear h1
  have H2 := Lib.hid h2; clear h2
  have EP := Lib.hid ep; clear ep
  have EQ := Lib.hid eq; clear eq
  go_enter Try.func4, Try.ntmps4
  go_wp2_with (first
    | (go_at_call 12; refine Calls.mono c1 ?_; rintro e w1 ⟨rfl, hb1⟩; have HB1 := Lib.hid hb1; clear hb1 c1; have c2 := new_any ks w1)
    | (go_at_call 11; refine Calls.mono c2 ?_; rintro e w2 ⟨b, rfl, hb, hk2, hb2⟩; clear c2; have c3 := block_any b ks false u v w2 hk2; rw [← EP.out] at c3; have HBb := Lib.hid hb; have HB2 := Lib.hid hb2; clear hk2 hb hb2)
    | (go_at_call 14; refine Calls.mono c3 ?_; rintro e w3 ⟨rfl, hk3, hg3, _⟩; clear c3; have c4 := back_made b ks p.1 p.2 w3 hk3; rw [H1.out] at c4; have c5 := back_made b ks u v w3 hk3; rw [← EQ.out] at c5; have c6 := block_made b ks q.1 q.2 w3 hk3; rw [H2.out] at c6; have c7 := known_any w3; have HG3 := Lib.hid hg3; clear hk3 hg3)
    | (go_at_call 16; refine Calls.mono c4 ?_; rintro e w4 ⟨rfl, rfl⟩; clear c4)
    | (go_at_call 16; refine Calls.mono c5 ?_; rintro e w4 ⟨rfl, rfl⟩; clear c5)
    | (go_at_call 14; refine Calls.mono c6 ?_; rintro e w4 ⟨rfl, rfl⟩; clear c6)
    | (go_at_call 18; refine Calls.mono c7 ?_; rintro e w5 ⟨rfl, hb5⟩; have HB5 := Lib.hid hb5; clear hb5))
  go_ret
  exact ⟨rfl, bt HB1.out (bt (btg HB2.out HG3.out HBb.out) HB5.out)⟩
end Go.Proofs.Ytmelmoideigocaa.SpL
