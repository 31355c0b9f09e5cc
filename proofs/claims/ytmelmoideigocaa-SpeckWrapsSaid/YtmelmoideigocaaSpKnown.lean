/-
  The block of the example is known.
-/
import Derived.Test.YtmelmoideigocaaSpKey
set_option linter.unusedVariables false
namespace Go.Proofs.Ytmelmoideigocaa.Sp
open Go.RowKit Go.Proofs.Ytmelmoideigocaa.Mem

def exKey : Nat → UInt8 := ksOf [0, 1, 2, 3, 8, 9, 10, 11, 16, 17, 18, 19, 24, 25, 26, 27]
theorem ex_block : blockK (kw exKey) (0x3b726574#32, 0x7475432d#32) = (0x8c6fa548#32, 0x454e028b#32) := by decide +kernel

theorem block_ex (b : Nat) (w : World) (hK : Key w b exKey false) :
    Calls Try.prog 14 #[.pointer (some ⟨b, 0, none⟩), .int .u32 997352820, .int .u32 1953841965] w fun e w' => e = .returned (.tuple #[.int .u32 2356127048, .int .u32 1162740363]) ∧ Key w' b exKey true ∧ w.grownBy w' (some b) := by
  have h := block_any b exKey false 0x3b726574#32 0x7475432d#32 w hK
  rw [ex_block] at h
  exact h.mono fun e w' hh => ⟨hh.1, hh.2.1, hh.2.2.1⟩
set_option maxRecDepth 100000 in
set_option maxHeartbeats 1600000 in
theorem known_any (w : World) : Calls Try.prog 18 #[] w fun e w' => e = .returned (.bool true) ∧ Below w.heap.size w w' := by
  have c1 := example_any w
  go_enter Try.func18, Try.ntmps18
  go_wp2_with (first
    | (go_at_call 28; refine Calls.mono c1 ?_; rintro e w1 ⟨rfl, hb1⟩; have HB1 := Lib.hid hb1; clear hb1; have c2 := new_any exKey w1)
    | (go_at_call 11; refine Calls.mono c2 ?_; rintro e w2 ⟨b, rfl, hb, hk2, hb2⟩; have c3 := made_any b exKey false w2 hk2; have c4 := block_ex b w2 hk2; have HK2 := Lib.hid hk2; have HBb := Lib.hid hb; have HB2 := Lib.hid hb2; clear hk2 hb hb2)
    | (go_at_call 21; refine Calls.mono c3 ?_; rintro e w' ⟨rfl, rfl⟩; clear c3)
    | (go_at_call 14; refine Calls.mono c4 ?_; rintro e w3 ⟨rfl, hk3, hg3⟩; clear c4; have c5 := made_any b exKey true w3 hk3; have HG3 := Lib.hid hg3; clear hk3 hg3)
    | (go_at_call 21; refine Calls.mono c5 ?_; rintro e w' ⟨rfl, rfl⟩))
  go_ret
  exact ⟨rfl, bt HB1.out (btg HB2.out HG3.out HBb.out)⟩
end Go.Proofs.Ytmelmoideigocaa.Sp
