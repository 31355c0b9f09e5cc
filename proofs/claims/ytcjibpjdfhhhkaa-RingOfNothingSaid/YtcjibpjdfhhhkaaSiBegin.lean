/-
  The state at the beginning; the Sum of rows, the code's.
-/
import Derived.Test.YtcjibpjdfhhhkaaSiKey
set_option linter.unusedVariables false
namespace Go.Proofs.Ytcjibpjdfhhhkaa.Si
open Go.RowKit Go.Proofs.Ytcjibpjdfhhhkaa.Mem

theorem k16 {w' : World} {B : Nat} {t : TypeId} {ks : Nat → UInt8} (h : Blk w' B t (key16 ks)) : w'.cell? ⟨B, 0, none⟩ = some (.int .u8 ((ks 0).toNat : Int)) ∧ w'.cell? ⟨B, 1, none⟩ = some (.int .u8 ((ks 1).toNat : Int)) ∧ w'.cell? ⟨B, 2, none⟩ = some (.int .u8 ((ks 2).toNat : Int)) ∧ w'.cell? ⟨B, 3, none⟩ = some (.int .u8 ((ks 3).toNat : Int)) ∧ w'.cell? ⟨B, 4, none⟩ = some (.int .u8 ((ks 4).toNat : Int)) ∧ w'.cell? ⟨B, 5, none⟩ = some (.int .u8 ((ks 5).toNat : Int)) ∧ w'.cell? ⟨B, 6, none⟩ = some (.int .u8 ((ks 6).toNat : Int)) ∧ w'.cell? ⟨B, 7, none⟩ = some (.int .u8 ((ks 7).toNat : Int)) ∧ w'.cell? ⟨B, 8, none⟩ = some (.int .u8 ((ks 8).toNat : Int)) ∧ w'.cell? ⟨B, 9, none⟩ = some (.int .u8 ((ks 9).toNat : Int)) ∧ w'.cell? ⟨B, 10, none⟩ = some (.int .u8 ((ks 10).toNat : Int)) ∧ w'.cell? ⟨B, 11, none⟩ = some (.int .u8 ((ks 11).toNat : Int)) ∧ w'.cell? ⟨B, 12, none⟩ = some (.int .u8 ((ks 12).toNat : Int)) ∧ w'.cell? ⟨B, 13, none⟩ = some (.int .u8 ((ks 13).toNat : Int)) ∧ w'.cell? ⟨B, 14, none⟩ = some (.int .u8 ((ks 14).toNat : Int)) ∧ w'.cell? ⟨B, 15, none⟩ = some (.int .u8 ((ks 15).toNat : Int)) := by
  refine ⟨?_, ?_, ?_, ?_, ?_, ?_, ?_, ?_, ?_, ?_, ?_, ?_, ?_, ?_, ?_, ?_⟩ <;> (rw [h.cell]; rfl)
theorem setCells6 (w : World) (g : Nat) (a b c d e f : Value) : w.setCells g 0 [a, b, c, d, e, f] = (((((w.setCell ⟨g, 0, none⟩ a).setCell ⟨g, 1, none⟩ b).setCell ⟨g, 2, none⟩ c).setCell ⟨g, 3, none⟩ d).setCell ⟨g, 4, none⟩ e).setCell ⟨g, 5, none⟩ f := rfl
theorem Blk.set6 {w : World} {g : Nat} {t : TypeId} {a b c d e f a' b' c' d' e' f' : Value} (h : Blk w g t #[a', b', c', d', e', f']) : Blk (w.setCells g 0 [a, b, c, d, e, f]) g t #[a, b, c, d, e, f] := by
  rw [setCells6]
  have := (((((h.set 0 a).set 1 b).set 2 c).set 3 d).set 4 e).set 5 f
  simpa using this
def zero6 : Array Value := #[.int .u64 0, .int .u64 0, .int .u64 0, .int .u64 0, .int .u64 0, .int .u64 0]
theorem wordF_kA (ks : Nat → UInt8) : wd (wordF ks 8) = kA ks := rfl
theorem wordF_kB (ks : Nat → UInt8) : wd (wordF (fun i => ks (8 + i)) 8) = kB ks := rfl
set_option maxRecDepth 100000 in
set_option maxHeartbeats 3200000 in
theorem begin_any (ks : Nat → UInt8) (w : World) : Calls Try.prog 54 #[.agg (key16 ks)] w fun e w' => e = .returned (.agg (stc ⟨start ks, 0, 0⟩)) ∧ Below w.heap.size w w' := by
  have hk : key16 ks = #[.int .u8 ((ks 0).toNat : Int), .int .u8 ((ks 1).toNat : Int), .int .u8 ((ks 2).toNat : Int), .int .u8 ((ks 3).toNat : Int), .int .u8 ((ks 4).toNat : Int), .int .u8 ((ks 5).toNat : Int), .int .u8 ((ks 6).toNat : Int), .int .u8 ((ks 7).toNat : Int), .int .u8 ((ks 8).toNat : Int), .int .u8 ((ks 9).toNat : Int), .int .u8 ((ks 10).toNat : Int), .int .u8 ((ks 11).toNat : Int), .int .u8 ((ks 12).toNat : Int), .int .u8 ((ks 13).toNat : Int), .int .u8 ((ks 14).toNat : Int), .int .u8 ((ks 15).toNat : Int)] := rfl
  have cA : ∀ w, Calls Try.prog 67 #[.agg #[.int .u8 ((ks 0).toNat : Int), .int .u8 ((ks 1).toNat : Int), .int .u8 ((ks 2).toNat : Int), .int .u8 ((ks 3).toNat : Int), .int .u8 ((ks 4).toNat : Int), .int .u8 ((ks 5).toNat : Int), .int .u8 ((ks 6).toNat : Int), .int .u8 ((ks 7).toNat : Int)]] w fun e w' => e = .returned (wv (kA ks)) ∧ Below w.heap.size w w' := fun w => word_any ks w
  have cB : ∀ w, Calls Try.prog 67 #[.agg #[.int .u8 ((ks 8).toNat : Int), .int .u8 ((ks 9).toNat : Int), .int .u8 ((ks 10).toNat : Int), .int .u8 ((ks 11).toNat : Int), .int .u8 ((ks 12).toNat : Int), .int .u8 ((ks 13).toNat : Int), .int .u8 ((ks 14).toNat : Int), .int .u8 ((ks 15).toNat : Int)]] w fun e w' => e = .returned (wv (kB ks)) ∧ Below w.heap.size w w' := fun w => word_any (fun i => ks (8 + i)) w
  obtain ⟨p, ep⟩ : ∃ x, x = kA ks := ⟨_, rfl⟩
  obtain ⟨q, eq⟩ : ∃ x, x = kB ks := ⟨_, rfl⟩
  obtain ⟨v0, e0⟩ : ∃ x, x = 0x736f6d6570736575#64 ^^^ p := ⟨_, rfl⟩
  obtain ⟨v1, e1⟩ : ∃ x, x = 0x646f72616e646f6d#64 ^^^ q := ⟨_, rfl⟩
  obtain ⟨v2, e2⟩ : ∃ x, x = 0x6c7967656e657261#64 ^^^ p := ⟨_, rfl⟩
  obtain ⟨v3, e3⟩ : ∃ x, x = 0x7465646279746573#64 ^^^ q := ⟨_, rfl⟩
  have x0 : bits .xor .u64 8317987319222330741 (p.toNat : Int) = (v0.toNat : Int) := by rw [e0]; exact xor_w 0x736f6d6570736575#64 p
  have x1 : bits .xor .u64 7237128888997146477 (q.toNat : Int) = (v1.toNat : Int) := by rw [e1]; exact xor_w 0x646f72616e646f6d#64 q
  have x2 : bits .xor .u64 7816392313619706465 (p.toNat : Int) = (v2.toNat : Int) := by rw [e2]; exact xor_w 0x6c7967656e657261#64 p
  have x3 : bits .xor .u64 8387220255154660723 (q.toNat : Int) = (v3.toNat : Int) := by rw [e3]; exact xor_w 0x7465646279746573#64 q
  have hs : stc ⟨start ks, 0, 0⟩ = #[wv v0, wv v1, wv v2, wv v3, .int .u64 0, .int .u64 0] := by
    rw [e0, e1, e2, e3, ep, eq]; rfl
  rw [← ep] at cA
  rw [← eq] at cB
  rw [hs]
  clear hs ep eq e0 e1 e2 e3
  obtain ⟨B, eB⟩ : ∃ B, B = w.heap.size := ⟨_, rfl⟩
  have EB := Lib.hid eB
  rw [hk]
  clear hk
  go_enter Try.func54, Try.ntmps54
  go_upto_region 1 with fail
  rw [← eB]
  clear eB
  have hs1 : ∀ w : World, (Instr.arrayAt 129 (.slice (some ⟨B, 0, none⟩) 8 16)).run Try.prog w = .ok (.pointer (some ⟨B, 0, none⟩)) w := fun _ => by kernel_rfl
  have hs2 : ∀ w : World, (Instr.arrayAt 129 (.slice (some ⟨B, 8, none⟩) 8 8)).run Try.prog w = .ok (.pointer (some ⟨B, 8, none⟩)) w := fun _ => by kernel_rfl
  have hK : Blk ((w.alloc (.cells #[.int .u8 ((ks 0).toNat : Int), .int .u8 ((ks 1).toNat : Int), .int .u8 ((ks 2).toNat : Int), .int .u8 ((ks 3).toNat : Int), .int .u8 ((ks 4).toNat : Int), .int .u8 ((ks 5).toNat : Int), .int .u8 ((ks 6).toNat : Int), .int .u8 ((ks 7).toNat : Int), .int .u8 ((ks 8).toNat : Int), .int .u8 ((ks 9).toNat : Int), .int .u8 ((ks 10).toNat : Int), .int .u8 ((ks 11).toNat : Int), .int .u8 ((ks 12).toNat : Int), .int .u8 ((ks 13).toNat : Int), .int .u8 ((ks 14).toNat : Int), .int .u8 ((ks 15).toNat : Int)] 83)).alloc (.cells #[.int .u64 0, .int .u64 0, .int .u64 0, .int .u64 0, .int .u64 0, .int .u64 0] 113)) B 83 (key16 ks) := Blk.alloc (Blk.new_of w B _ _ (key16 ks) rfl EB.out.symm) _
  have hZ : Blk ((w.alloc (.cells #[.int .u8 ((ks 0).toNat : Int), .int .u8 ((ks 1).toNat : Int), .int .u8 ((ks 2).toNat : Int), .int .u8 ((ks 3).toNat : Int), .int .u8 ((ks 4).toNat : Int), .int .u8 ((ks 5).toNat : Int), .int .u8 ((ks 6).toNat : Int), .int .u8 ((ks 7).toNat : Int), .int .u8 ((ks 8).toNat : Int), .int .u8 ((ks 9).toNat : Int), .int .u8 ((ks 10).toNat : Int), .int .u8 ((ks 11).toNat : Int), .int .u8 ((ks 12).toNat : Int), .int .u8 ((ks 13).toNat : Int), .int .u8 ((ks 14).toNat : Int), .int .u8 ((ks 15).toNat : Int)] 83)).alloc (.cells #[.int .u64 0, .int .u64 0, .int .u64 0, .int .u64 0, .int .u64 0, .int .u64 0] 113)) (B + 1) 113 zero6 := Blk.new_of (w.alloc _) (B + 1) _ _ zero6 rfl (by have := EB.out; simp; omega)
  have hW : Below w.heap.size w ((w.alloc (.cells #[.int .u8 ((ks 0).toNat : Int), .int .u8 ((ks 1).toNat : Int), .int .u8 ((ks 2).toNat : Int), .int .u8 ((ks 3).toNat : Int), .int .u8 ((ks 4).toNat : Int), .int .u8 ((ks 5).toNat : Int), .int .u8 ((ks 6).toNat : Int), .int .u8 ((ks 7).toNat : Int), .int .u8 ((ks 8).toNat : Int), .int .u8 ((ks 9).toNat : Int), .int .u8 ((ks 10).toNat : Int), .int .u8 ((ks 11).toNat : Int), .int .u8 ((ks 12).toNat : Int), .int .u8 ((ks 13).toNat : Int), .int .u8 ((ks 14).toNat : Int), .int .u8 ((ks 15).toNat : Int)] 83)).alloc (.cells #[.int .u64 0, .int .u64 0, .int .u64 0, .int .u64 0, .int .u64 0, .int .u64 0] 113)) := ((Below.refl w.heap.size w).alloc (Nat.le_refl _) _).alloc (by simp) _
  have HX0 := Lib.hid x0; clear x0
  have HX1 := Lib.hid x1; clear x1
  have HX2 := Lib.hid x2; clear x2
  have HX3 := Lib.hid x3; clear x3
  generalize ((w.alloc (.cells #[.int .u8 ((ks 0).toNat : Int), .int .u8 ((ks 1).toNat : Int), .int .u8 ((ks 2).toNat : Int), .int .u8 ((ks 3).toNat : Int), .int .u8 ((ks 4).toNat : Int), .int .u8 ((ks 5).toNat : Int), .int .u8 ((ks 6).toNat : Int), .int .u8 ((ks 7).toNat : Int), .int .u8 ((ks 8).toNat : Int), .int .u8 ((ks 9).toNat : Int), .int .u8 ((ks 10).toNat : Int), .int .u8 ((ks 11).toNat : Int), .int .u8 ((ks 12).toNat : Int), .int .u8 ((ks 13).toNat : Int), .int .u8 ((ks 14).toNat : Int), .int .u8 ((ks 15).toNat : Int)] 83)).alloc (.cells #[.int .u64 0, .int .u64 0, .int .u64 0, .int .u64 0, .int .u64 0, .int .u64 0] 113)) = W1 at hK hZ hW ⊢
  have hK : Blk W1.drew B 83 (key16 ks) := hK
  have hZ : Blk W1.drew (B + 1) 113 #[.int .u64 0, .int .u64 0, .int .u64 0, .int .u64 0, .int .u64 0, .int .u64 0] := hZ
  have hW : Below w.heap.size w W1.drew := below_drewN hW 1
  go_region_held3 (fun w' => w'.cell? ⟨B, 0, none⟩ = some (.int .u8 ((ks 0).toNat : Int)) ∧ w'.cell? ⟨B, 1, none⟩ = some (.int .u8 ((ks 1).toNat : Int)) ∧ w'.cell? ⟨B, 2, none⟩ = some (.int .u8 ((ks 2).toNat : Int)) ∧ w'.cell? ⟨B, 3, none⟩ = some (.int .u8 ((ks 3).toNat : Int)) ∧ w'.cell? ⟨B, 4, none⟩ = some (.int .u8 ((ks 4).toNat : Int)) ∧ w'.cell? ⟨B, 5, none⟩ = some (.int .u8 ((ks 5).toNat : Int)) ∧ w'.cell? ⟨B, 6, none⟩ = some (.int .u8 ((ks 6).toNat : Int)) ∧ w'.cell? ⟨B, 7, none⟩ = some (.int .u8 ((ks 7).toNat : Int)) ∧ w'.cell? ⟨B, 8, none⟩ = some (.int .u8 ((ks 8).toNat : Int)) ∧ w'.cell? ⟨B, 9, none⟩ = some (.int .u8 ((ks 9).toNat : Int)) ∧ w'.cell? ⟨B, 10, none⟩ = some (.int .u8 ((ks 10).toNat : Int)) ∧ w'.cell? ⟨B, 11, none⟩ = some (.int .u8 ((ks 11).toNat : Int)) ∧ w'.cell? ⟨B, 12, none⟩ = some (.int .u8 ((ks 12).toNat : Int)) ∧ w'.cell? ⟨B, 13, none⟩ = some (.int .u8 ((ks 13).toNat : Int)) ∧ w'.cell? ⟨B, 14, none⟩ = some (.int .u8 ((ks 14).toNat : Int)) ∧ w'.cell? ⟨B, 15, none⟩ = some (.int .u8 ((ks 15).toNat : Int))) (exact k16 hK) (first | (go_at_call 67; refine Calls.mono (cA _) ?_; rintro e wq ⟨rfl, hb⟩; clear cA; have hK2 := Blk.below hK hb; have hZ2 := Blk.below hZ hb; have hW2 := bt hW hb; clear hK hZ hW; have hK := hK2; have hZ := hZ2; have hW := hW2; clear hK2 hZ2 hW2 hb) | (go_at_call 67; refine Calls.mono (cB _) ?_; rintro e wq ⟨rfl, hb⟩; clear cB; have hK2 := Blk.below hK hb; have hZ2 := Blk.below hZ hb; have hW2 := bt hW hb; clear hK hZ hW; have hK := hK2; have hZ := hZ2; have hW := hW2; clear hK2 hZ2 hW2 hb))
  all_goals
    have x0 := HX0.out
    have x1 := HX1.out
    have x2 := HX2.out
    have x3 := HX3.out
    have HZ := Lib.hid hZ; clear hZ
    have HW := Lib.hid hW; clear hW
    clear hK HX0 HX1 HX2 HX3
  all_goals
    have c0 : wq.cell? ⟨B + 1, 0, none⟩ = some (.int .u64 0) := by rw [HZ.out.cell]; rfl
    have c1 : wq.cell? ⟨B + 1, 1, none⟩ = some (.int .u64 0) := by rw [HZ.out.cell]; rfl
    have c2 : wq.cell? ⟨B + 1, 2, none⟩ = some (.int .u64 0) := by rw [HZ.out.cell]; rfl
    have c3 : wq.cell? ⟨B + 1, 3, none⟩ = some (.int .u64 0) := by rw [HZ.out.cell]; rfl
    have c4 : wq.cell? ⟨B + 1, 4, none⟩ = some (.int .u64 0) := by rw [HZ.out.cell]; rfl
    have c5 : wq.cell? ⟨B + 1, 5, none⟩ = some (.int .u64 0) := by rw [HZ.out.cell]; rfl
    have fz := HZ.out.frozen
    clear hs1 hs2
  all_goals go_wp2_with fail
  all_goals
    have hE := Blk.set6 (a := wv v0) (b := wv v1) (c := wv v2) (d := wv v3) (e := .int .u64 0) (f := .int .u64 0) HZ.out
    rw [setCells6] at hE
    have hq := load_blk (P := Try.prog) hE Try.underlying113 rfl (by kernel_rfl)
    refine bodyPost_ret (v := .agg #[wv v0, wv v1, wv v2, wv v3, .int .u64 0, .int .u64 0]) ?_ ?_ ?_
    · exact results_cell 2 113 ⟨B + 1, 0, none⟩ Try.results54 rfl hq
    · rfl
    refine ⟨rfl, ?_⟩
    have hle : w.heap.size ≤ B + 1 := by have := EB.out; omega
    repeat (refine below_set ?_ hle _)
    exact HW.out
end Go.Proofs.Ytcjibpjdfhhhkaa.Si
