/-
  RingOfNothing: a nil Ring has nothing.
-/
import Derived.Test.YtcjibpjdfhhhkaaRgKnown
set_option linter.unusedVariables false
set_option linter.unusedSimpArgs false
namespace Go.Proofs.Ytcjibpjdfhhhkaa.Rg
open Go.RowKit Go.Proofs.Ytcjibpjdfhhhkaa.Mem Go.Proofs.Ytcjibpjdfhhhkaa.Se

theorem key_zero : key32 zeroK = #[.int .u8 0, .int .u8 0, .int .u8 0, .int .u8 0, .int .u8 0, .int .u8 0, .int .u8 0, .int .u8 0, .int .u8 0, .int .u8 0, .int .u8 0, .int .u8 0, .int .u8 0, .int .u8 0, .int .u8 0, .int .u8 0, .int .u8 0, .int .u8 0, .int .u8 0, .int .u8 0, .int .u8 0, .int .u8 0, .int .u8 0, .int .u8 0, .int .u8 0, .int .u8 0, .int .u8 0, .int .u8 0, .int .u8 0, .int .u8 0, .int .u8 0, .int .u8 0] := by kernel_rfl
set_option maxRecDepth 100000 in
set_option maxHeartbeats 3200000 in
theorem ofNothing (p : Pr) (n : Int) (w : World) (z1 : p.1.length ≤ 140737488351232) (z2 : p.2.length ≤ 140737488351232) :
    Calls Try.prog 5 #[prV p, .int .i64 n] w fun e w' => e = .returned (.bool true) ∧ Below w.heap.size w w' := by
  obtain ⟨W, eW⟩ : ∃ W, W = w.alloc (.cells #[.string ⟨p.1.toArray⟩, .string ⟨p.2.toArray⟩] 25) := ⟨_, rfl⟩
  have HB := Lib.hid (show Below w.heap.size w W from eW ▸ (Below.refl _ _).alloc (Nat.le_refl _) _)
  have hp : Blk W w.heap.size 25 #[.string ⟨p.1.toArray⟩, .string ⟨p.2.toArray⟩] := eW ▸ Blk.new w _ _
  obtain ⟨N, eN⟩ : ∃ N, N = w.heap.size := ⟨_, rfl⟩
  obtain ⟨n1, en1⟩ : ∃ k, k = p.1.length := ⟨_, rfl⟩
  obtain ⟨n2, en2⟩ : ∃ k, k = p.2.length := ⟨_, rfl⟩
  have kp0 : W.cell? ⟨N, 0, none⟩ = some (.string ⟨p.1.toArray⟩) := eN ▸ hp.cell 0
  have kp1 : W.cell? ⟨N, 1, none⟩ = some (.string ⟨p.2.toArray⟩) := eN ▸ hp.cell 1
  have HP := Lib.hid (show Blk W N 25 #[.string ⟨p.1.toArray⟩, .string ⟨p.2.toArray⟩] from eN ▸ hp)
  clear hp
  by_cases hx : 200 < n1 + n2
  · have t1 : (200 : Int) < (p.1.length : Int) + (p.2.length : Int) := by omega
    have t2 : (p.1.length : Int) ≤ 140737488351232 := by omega
    have t3 : (p.2.length : Int) ≤ 140737488351232 := by omega
    clear hx z1 z2 en1 en2
    go_enter Try.func5, Try.ntmps5
    go_upto_region 1 with fail
    rw [← eW, ← eN]
    clear eW eN
    go_wp2
    go_ret
    exact ⟨rfl, HB.out⟩
  · have t1 : ¬ (200 : Int) < (p.1.length : Int) + (p.2.length : Int) := by omega
    have t2 : (p.1.length : Int) ≤ 140737488351232 := by omega
    have t3 : (p.2.length : Int) ≤ 140737488351232 := by omega
    have C1 := Lib.hid (fun w1 => add_arg none p zeroK w1 (by omega) (by omega) (.inl rfl))
    have C2 := Lib.hid (fun w1 => box_nil p n w1)
    have C3 := Lib.hid (fun w1 => lastp_nil p w1)
    have C4 := Lib.hid (fun w1 => len_nil w1)
    have C5 := Lib.hid (fun w1 => keys_nil w1)
    have C6 := Lib.hid (fun w1 => known_any w1)
    rw [key_zero] at C1
    clear hx z1 z2 en1 en2
    go_enter Try.func5, Try.ntmps5
    go_upto_region 1 with fail
    rw [← eW, ← eN]
    clear eW eN
    go_wp2_with (first
      | (go_at_call 9; refine Calls.mono (C1.out _) ?_; rintro e w1 ⟨rfl, hb⟩; clear C1 kp0 kp1; replace HB := Lib.hid (HB.out.trans (hb.mono HB.out.size)); replace HP := Lib.hid (HP.out.below hb); have kp0 : w1.cell? ⟨N, 0, none⟩ = some (.string ⟨p.1.toArray⟩) := HP.out.cell 0; have kp1 : w1.cell? ⟨N, 1, none⟩ = some (.string ⟨p.2.toArray⟩) := HP.out.cell 1; clear hb)
      | (go_at_call 10; refine Calls.mono (C2.out _) ?_; rintro e w2 ⟨rfl, hb⟩; clear C2 kp0 kp1; replace HB := Lib.hid (HB.out.trans (hb.mono HB.out.size)); replace HP := Lib.hid (HP.out.below hb); have kp0 : w2.cell? ⟨N, 0, none⟩ = some (.string ⟨p.1.toArray⟩) := HP.out.cell 0; have kp1 : w2.cell? ⟨N, 1, none⟩ = some (.string ⟨p.2.toArray⟩) := HP.out.cell 1; clear hb)
      | (go_at_call 12; refine Calls.mono (C3.out _) ?_; rintro e w3 ⟨rfl, hb⟩; clear C3 kp0 kp1; replace HB := Lib.hid (HB.out.trans (hb.mono HB.out.size)); replace HP := Lib.hid (HP.out.below hb); have kp0 : w3.cell? ⟨N, 0, none⟩ = some (.string ⟨p.1.toArray⟩) := HP.out.cell 0; have kp1 : w3.cell? ⟨N, 1, none⟩ = some (.string ⟨p.2.toArray⟩) := HP.out.cell 1; clear hb)
      | (go_at_call 17; refine Calls.mono (C4.out _) ?_; rintro e w4 ⟨rfl, hw⟩; have hw := hw.symm; subst hw; clear C4)
      | (go_at_call 18; refine Calls.mono (C5.out _) ?_; rintro e w4 ⟨rfl, hw⟩; have hw := hw.symm; subst hw; clear C5)
      | (go_at_call 15; refine Calls.mono (C6.out _) ?_; rintro e w6 ⟨rfl, hb⟩; replace HB := Lib.hid (HB.out.trans (hb.mono HB.out.size)); clear C6 hb)
      | fail)
    go_ret
    exact ⟨rfl, HB.out⟩
end Go.Proofs.Ytcjibpjdfhhhkaa.Rg
