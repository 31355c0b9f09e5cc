/-
  The small self-test that every law of chapter 6 ends with.
-/
import Derived.Test.YtmgbhkhkbebfpaaTrKnown2
set_option linter.unusedVariables false
namespace Go.Proofs.Ytmgbhkhkbebfpaa.Tr
open Go.RowKit Go.Proofs.Ytmgbhkhkbebfpaa.Mem Go.Proofs.Ytmgbhkhkbebfpaa.Nm

def kn1 : List L := [[69, 68, 85], [77, 73, 84, 46, 69, 68, 85], [65, 84, 72, 69, 78, 65, 46, 77, 73, 84, 46, 69, 68, 85], [87, 65, 83, 72, 46, 69, 68, 85], [67, 83, 46, 87, 65, 83, 72, 46, 69, 68, 85]]
def kn2 : List L := [[47, 67, 79, 77], [47, 67, 79, 77, 47, 72, 80], [47, 67, 79, 77, 47, 72, 80, 47, 65, 80, 79, 76, 76, 79], [47, 67, 79, 77, 47, 68, 69, 67]]
theorem known1 : expL [69, 68, 85, 44, 77, 73, 84, 46, 44, 65, 84, 72, 69, 78, 65, 46, 44, 87, 65, 83, 72, 46, 69, 68, 85, 44, 67, 83, 46] [65] [66] = (kn1, 0) := by decide +kernel
theorem known2 : expL [47, 67, 79, 77, 44, 47, 72, 80, 44, 47, 65, 80, 79, 76, 76, 79, 44, 32, 47, 67, 79, 77, 47, 68, 69, 67] [65] [66] = (kn2, 0) := by decide +kernel

set_option maxHeartbeats 1600000 in
set_option maxRecDepth 100000 in
theorem known_any (w : World) : Calls Try.prog 21 #[] w fun e w' => e = .returned (.bool true) ∧ Below w.heap.size w w' := by
  have c1 := exp_any [69, 68, 85, 44, 77, 73, 84, 46, 44, 65, 84, 72, 69, 78, 65, 46, 44, 87, 65, 83, 72, 46, 69, 68, 85, 44, 67, 83, 46] [65] [66] w (by decide) (by decide) (by decide)
  rw [known1] at c1
  have c2 := fun w1 => exp_any [47, 67, 79, 77, 44, 47, 72, 80, 44, 47, 65, 80, 79, 76, 76, 79, 44, 32, 47, 67, 79, 77, 47, 68, 69, 67] [65] [66] w1 (by decide) (by decide) (by decide)
  rw [known2] at c2
  have C2 := Lib.hid c2; clear c2
  have K1 := Lib.hid (show kn1.length = 5 from rfl)
  have K2 := Lib.hid (show kn2.length = 4 from rfl)
  have X1 := Lib.hid (fun A A2 c c2 B w1 => texts_same kn1 A A2 5 5 c c2 B w1 rfl rfl (by decide))
  have X2 := Lib.hid (fun A A2 c c2 B w1 => texts_same kn2 A A2 4 4 c c2 B w1 rfl rfl (by decide))
  have R1 := Lib.hid (fun w1 => lits_rd w1 kn1)
  have R2 := Lib.hid (fun w1 => lits_rd w1 kn2)
  go_enter Try.func21, Try.ntmps21
  go_wp2_with (first
    | (go_at_call 16; refine Calls.mono c1 ?_; rintro e w1 ⟨⟨v, rfl, ho⟩, hb⟩; clear c1; have HO1 := Lib.hid ho; have H1 := Lib.hid hb; clear ho hb; have c2 := C2.out w1)
    | (go_at_call 16; refine Calls.mono c2 ?_; rintro e w2 ⟨⟨v2, rfl, ho⟩, hb⟩; clear c2; obtain ⟨A1, q1, e1, r1⟩ := (HO1.out.below hb).slice; subst e1; obtain ⟨A2, q2, e2, r2⟩ := ho.slice; subst e2; have H2 := Lib.hid (bt H1.out hb); rw [K1.out, K2.out]; have hb1 : Below w2.heap.size w2 (w2.alloc (.cells (strs kn1).toArray 9)) := (Below.refl _ _).alloc (Nat.le_refl _) _; have x1 := X1.out A1 _ q1 5 _ _ ((r1.below hb1).more (Nat.le_succ _)) (R1.out w2); have HR2 := Lib.hid (r2.below hb1); have HB1 := Lib.hid hb1; have H3 := Lib.hid (bt H2.out hb1); clear ho hb r1 r2 hb1)
    | (go_at_call 20; refine Calls.mono x1 ?_; rintro e w3 ⟨rfl, hd⟩; clear x1; have H4 := Lib.hid (bt H3.out hd.below); have hb2 : Below w3.heap.size w3 (w3.alloc (.cells (strs kn2).toArray 9)) := (Below.refl _ _).alloc (Nat.le_refl _) _; have x2 := X2.out A2 _ q2 4 _ _ ((((HR2.out.more HB1.out.size).below hd.below).more hd.below.size |>.below hb2).more (Nat.le_succ _)) (R2.out w3); have H5 := Lib.hid (bt H4.out hb2); clear hd hb2)
    | (go_at_call 20; refine Calls.mono x2 ?_; rintro e w4 ⟨rfl, hd⟩; clear x2; have H6 := Lib.hid (bt H5.out hd.below); clear hd))
  go_ret
  exact ⟨rfl, H6.out⟩
end Go.Proofs.Ytmgbhkhkbebfpaa.Tr
