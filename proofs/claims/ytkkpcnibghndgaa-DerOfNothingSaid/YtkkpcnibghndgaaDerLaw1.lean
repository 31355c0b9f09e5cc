/-
  The walk of the law on a nil Cursor: it takes nothing, and is not good.
-/
import Derived.Test.YtkkpcnibghndgaaDerKnown
namespace Go.Proofs.Ytkkpcnibghndgaa.DerL
open Go.RowKit Go.Proofs.Ytkkpcnibghndgaa.Mem Go.Proofs.Ytkkpcnibghndgaa.DerP

set_option maxRecDepth 100000 in
set_option maxHeartbeats 400000 in
theorem ofNothing (t : UInt8) (w : World) : Calls Try.prog 9 #[.int .u8 t.toNat] w fun e w' => e = .returned (.bool true) ∧ Below w.heap.size w w' := by
  go_enter Try.func9, Try.ntmps9
  go_wp2_with (first
    | (go_at_call 30; refine (DerC.into_nil _ _).mono ?_; rintro e w' ⟨rfl, rfl⟩)
    | (go_at_call 24; refine (DerC.int_nil _).mono ?_; rintro e w' ⟨rfl, rfl⟩)
    | (go_at_call 26; refine (DerC.octets_nil _).mono ?_; rintro e w1 ⟨⟨A, c, rfl⟩, hb1⟩)
    | (go_at_call 28; refine (DerC.text_nil _).mono ?_; rintro e w2 ⟨rfl, hb2⟩)
    | (go_at_call 35; refine (DerC.left_nil _).mono ?_; rintro e w' ⟨rfl, rfl⟩)
    | (go_at_call 32; refine (DerC.good_nil _).mono ?_; rintro e w' ⟨rfl, rfl⟩)
    | (go_at_call 33; refine (DerC.whole_nil _).mono ?_; rintro e w' ⟨rfl, rfl⟩)
    | (go_at_call 22; refine (DerK.known_any _).mono ?_; rintro e w3 ⟨rfl, hb3⟩))
  go_ret
  exact ⟨rfl, bt (bt hb1 hb2) hb3⟩

end Go.Proofs.Ytkkpcnibghndgaa.DerL
