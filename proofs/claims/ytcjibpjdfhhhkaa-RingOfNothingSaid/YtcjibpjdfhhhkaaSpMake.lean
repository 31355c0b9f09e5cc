/-
  The words of a Key are made: by the code's schedule; the code's word of four bytes.
-/
import Derived.Test.YtcjibpjdfhhhkaaSpSync
import Derived.Deep.RegionHeld3
set_option linter.unusedVariables false
namespace Go.Proofs.Ytcjibpjdfhhhkaa.Sp
open Go.RowKit Go.Proofs.Ytcjibpjdfhhhkaa.Mem

/-- only the order has been drawn -/
def Drawn (w w' : World) : Prop := ∃ n, w' = w.drewN n
theorem Drawn.refl (w : World) : Drawn w w := ⟨0, rfl⟩
/-- four cells are read, the lowest byte first -/
theorem word_any (b o : Nat) (n c : Nat) (b0 b1 b2 b3 : UInt8) (w : World) (hn : 4 ≤ n)
    (h0 : w.cell? ⟨b, o, none⟩ = some (bv b0)) (h1 : w.cell? ⟨b, o + 1, none⟩ = some (bv b1)) (h2 : w.cell? ⟨b, o + 2, none⟩ = some (bv b2)) (h3 : w.cell? ⟨b, o + 3, none⟩ = some (bv b3)) :
    Calls Try.prog 77 #[.slice (some ⟨b, o, none⟩) n c] w fun e w' => e = .returned (wv (le4 b0 b1 b2 b3)) ∧ w' = w.drew := by
  have k0 : (0 : Int) < n := by omega
  have k1 : (1 : Int) < n := by omega
  have k2 : (2 : Int) < n := by omega
  have k3 : (3 : Int) < n := by omega
  have k4 : 0 < n := by omega
  have k5 : 1 < n := by omega
  have k6 : 2 < n := by omega
  have k7 : 3 < n := by omega
  have hn' := Lib.hid hn; clear hn
  simp only [bv] at h0 h1 h2 h3
  have hle := le4_or b0 b1 b2 b3
  have hwr := IntKind.wrap_u32
  have m0 : (b0.toNat : Int) % 4294967296 = b0.toNat := by have := u8_le b0; omega
  have m1 : (b1.toNat : Int) % 4294967296 = b1.toNat := by have := u8_le b1; omega
  have m2 : (b2.toNat : Int) % 4294967296 = b2.toNat := by have := u8_le b2; omega
  have m3 : (b3.toNat : Int) % 4294967296 = b3.toNat := by have := u8_le b3; omega
  go_enter Try.func77, Try.ntmps77
  go_wp2_with fail
  go_region_held3 (fun w' => w'.cell? ⟨b, o, none⟩ = some (.int .u8 b0.toNat) ∧ w'.cell? ⟨b, o + 1, none⟩ = some (.int .u8 b1.toNat) ∧ w'.cell? ⟨b, o + 2, none⟩ = some (.int .u8 b2.toNat) ∧ w'.cell? ⟨b, o + 3, none⟩ = some (.int .u8 b3.toNat)) (go_keep) (fail)
  all_goals (go_wp2; go_ret; exact ⟨rfl, rfl⟩)
end Go.Proofs.Ytcjibpjdfhhhkaa.Sp
