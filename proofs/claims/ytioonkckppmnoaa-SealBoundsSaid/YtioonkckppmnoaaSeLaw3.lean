/-
  What may be sealed.
-/
import Derived.Test.YtioonkckppmnoaaSeLaw1
set_option linter.unusedVariables false
namespace Go.Proofs.Ytioonkckppmnoaa.SeL
open Go.RowKit Go.Proofs.Ytioonkckppmnoaa.Mem Go.Proofs.Ytioonkckppmnoaa.Se

def k3 : Nat → UInt8 := fun i => if i = 0 then 3 else 0
theorem k3_cells : key32 k3 = #[.int .u8 3, .int .u8 0, .int .u8 0, .int .u8 0, .int .u8 0, .int .u8 0, .int .u8 0, .int .u8 0, .int .u8 0, .int .u8 0, .int .u8 0, .int .u8 0, .int .u8 0, .int .u8 0, .int .u8 0, .int .u8 0, .int .u8 0, .int .u8 0, .int .u8 0, .int .u8 0, .int .u8 0, .int .u8 0, .int .u8 0, .int .u8 0, .int .u8 0, .int .u8 0, .int .u8 0, .int .u8 0, .int .u8 0, .int .u8 0, .int .u8 0, .int .u8 0] := by kernel_rfl
theorem zeros_bvs (m : Nat) : zeros m = (bvs (List.replicate m 0)).toArray := by
  unfold zeros bvs
  rw [List.map_replicate]
theorem zeros_rd {w : World} {b : Nat} (m : Nat) (t : TypeId) (hb : b < w.heap.size) : RdA (Ow b none) (w.alloc (.cells (zeros m) t)) (some ⟨w.heap.size, 0, none⟩) (bvs (List.replicate m 0)) := by
  refine .inr ⟨w.heap.size, 0, rfl, by simp, fun hx => ?_, fun i u hu => ?_⟩
  · have := Ow_none hx; omega
  · rw [Nat.zero_add, (Blk.new w _ _).cell i, zeros_bvs, List.getElem?_toArray]; exact hu
set_option maxRecDepth 100000 in
set_option maxHeartbeats 3200000 in
theorem bounds (u n N : Int) (w : World) (_ : (Lit.int .i64 u).wf = true) (wn : (Lit.int .i64 n).wf = true) (_ : (Lit.int .i64 N).wf = true) :
    Calls Try.prog 7 #[.int .i64 u, .int .i64 n, .int .i64 N] w fun e w' => e = .returned (.bool true) ∧ Below w.heap.size w w' := by
  have HB := Lib.hid (Below.refl w.heap.size w)
  by_cases h0 : N < 0 ∨ 1000 < N
  · have t : decide (N < 0) = true ∨ (decide (N < 0) = false ∧ decide (1000 < N) = true) := by
      rcases Int.lt_or_le N 0 with h | h
      · exact .inl (by simpa using h)
      · exact .inr ⟨by simp; omega, by simp; omega⟩
    clear h0 wn
    rcases t with t | ⟨t, t2⟩ <;> (
      go_enter Try.func7, Try.ntmps7
      go_wp2
      go_ret
      exact ⟨rfl, HB.out⟩)
  · obtain ⟨m, rfl⟩ : ∃ m : Nat, N = (m : Int) := ⟨N.toNat, by omega⟩
    have hm : m ≤ 1000 := by omega
    have s1 : decide ((m : Int) < 0) = false := by simp
    have s2 : decide (1000 < (m : Int)) = false := by simp; omega
    obtain ⟨ib, hi0, hz0, hs0, hb0⟩ := info_parts Si.u8_info
    have hmk := fun W => run_make_bytes (P := Try.prog) (t := 22) (e := 5) Try.underlying22 hi0 hz0 hs0 hb0 (m : Int) m rfl (by omega) W
    have c1 := new_any k3 w
    rw [k3_cells] at c1
    clear h0
    by_cases hx : 0 ≤ u ∧ u ≤ 255 ∧ 0 ≤ n ∧ n ≤ 1099511627776 ∧ m ≤ 784
    · have t1 : decide (0 ≤ u) = true := by simp; omega
      have t2 : decide (u ≤ 255) = true := by simp; omega
      have t3 : decide (0 ≤ n) = true := by simp; omega
      have t4 : decide (n ≤ 1099511627776) = true := by simp; omega
      have t5 : decide ((m : Int) ≤ 784) = true := by simp; omega
      obtain ⟨u', rfl⟩ : ∃ k : Nat, u = (k : Int) := ⟨u.toNat, by omega⟩
      obtain ⟨n', rfl⟩ : ∃ k : Nat, n = (k : Int) := ⟨n.toNat, by omega⟩
      have cs := fun (w1 : World) (b : Nat) (h1 : Box w1 b k3 none 0 0 0) => seal_ok b k3 none 0 0 0 u' n' (some ⟨w1.heap.size, 0, none⟩) m m (List.replicate m 0) (w1.alloc (.cells (zeros m) 5)) (by decide) (by omega) (by omega) (by simp) (by omega) (zeros_rd m _ h1.lt) (h1.below ((Below.refl _ _).alloc (Nat.le_refl _) _))
      have CS := Lib.hid cs; clear cs
      clear hx wn hm
      go_enter Try.func7, Try.ntmps7
      go_wp2_with (first
        | (go_at_call 12; refine Calls.mono c1 ?_; rintro e w1 ⟨b, rfl, hb, hx1, hb1⟩; clear c1; have c2 := CS.out w1 b hx1; have HBB := Lib.hid hb; have HB1 := Lib.hid hb1; clear hb hx1 hb1)
        | (go_at_call 14; refine Calls.mono c2 ?_; rintro e w2 ⟨g, A, c, rfl, h1, h2, h3, h4, h5⟩; clear c2; have c3 := known_any w2; have HC2 := Lib.hid h5.1; clear h1 h2 h3 h4 h5)
        | (go_at_call 18; refine Calls.mono c3 ?_; rintro e w3 ⟨rfl, hb3⟩; clear c3; have HB3 := Lib.hid hb3; clear hb3))
      go_ret
      have hb2 := HB1.out.alloc (HB1.out.size) (Obj.cells (zeros m) 5)
      have hb3 := below_chg hb2 (by have := HB1.out.size; simp; omega) HC2.out (fun i _ hx => by have := Ow_none hx; have := HBB.out; omega)
      exact ⟨rfl, hb3.trans (HB3.out.mono hb3.size)⟩
    · have t : (decide (0 ≤ u) = false) ∨ (decide (0 ≤ u) = true ∧ decide (u ≤ 255) = false) ∨ (decide (0 ≤ u) = true ∧ decide (u ≤ 255) = true ∧ decide (0 ≤ n) = false) ∨ (decide (0 ≤ u) = true ∧ decide (u ≤ 255) = true ∧ decide (0 ≤ n) = true ∧ decide (n ≤ 1099511627776) = false) ∨ (decide (0 ≤ u) = true ∧ decide (u ≤ 255) = true ∧ decide (0 ≤ n) = true ∧ decide (n ≤ 1099511627776) = true ∧ decide ((m : Int) ≤ 784) = false) := by
        simp only [decide_eq_true_eq, decide_eq_false_iff_not]
        omega
      have cs := fun (w1 : World) (b : Nat) => seal_bad b u n (some ⟨w1.heap.size, 0, none⟩) m m (w1.alloc (.cells (zeros m) 5)) wn (by unfold maxLen; omega) hx
      have CS := Lib.hid cs; clear cs
      clear hx wn hm
      rcases t with t1 | ⟨t1, t2⟩ | ⟨t1, t2, t3⟩ | ⟨t1, t2, t3, t4⟩ | ⟨t1, t2, t3, t4, t5⟩ <;> (
        go_enter Try.func7, Try.ntmps7
        go_wp2_with (first
          | (go_at_call 12; refine Calls.mono c1 ?_; rintro e w1 ⟨b, rfl, hb, hx1, hb1⟩; clear c1; have c2 := CS.out w1 b; have HB1 := Lib.hid hb1; clear hb hx1 hb1)
          | (go_at_call 14; refine Calls.mono c2 ?_; rintro e w2 ⟨rfl, hw⟩; clear c2; have c3 := known_any w2; have HW := Lib.hid hw; clear hw)
          | (go_at_call 18; refine Calls.mono c3 ?_; rintro e w3 ⟨rfl, hb3⟩; clear c3; have HB3 := Lib.hid hb3; clear hb3))
        go_ret
        have hb2 := HB1.out.alloc (HB1.out.size) (Obj.cells (zeros m) 5)
        rw [← HW.out] at hb2
        exact ⟨rfl, hb2.trans (HB3.out.mono hb2.size)⟩)
end Go.Proofs.Ytioonkckppmnoaa.SeL
