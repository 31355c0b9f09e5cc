/-
  The walk of the law that elements stand within one another, as deep as they are laid.
-/
import Derived.Test.YtkkpcnibghndgaaDerGood
set_option linter.unusedVariables false
namespace Go.Proofs.Ytkkpcnibghndgaa.DerL
open Go.RowKit Go.Proofs.Ytkkpcnibghndgaa.Mem Go.Proofs.Ytkkpcnibghndgaa.DerP

def tg (ts : L) (k : Nat) : UInt8 := ts.getD k 0
/-- a number's element within the first k tags -/
def nests (n : Int) (ts : L) : Nat → L
  | 0 => encI n
  | k + 1 => elem (tg ts k) (nests n ts k)
theorem nests_le (n : Int) (ts : L) (k : Nat) : (nests n ts k).length ≤ 12 + 4 * k := by
  induction k with
  | zero => exact enc_small n
  | succ k ih => have := elem_le (tg ts k) (nests n ts k); simp only [nests]; omega
theorem nests_pos (n : Int) (ts : L) (k : Nat) : 0 < (nests n ts k).length := by
  cases k with
  | zero => exact enc_pos n
  | succ k => simp only [nests]; rw [length_elem]; omega
theorem tag_cell {w : World} {B : Nat} {A : Option Addr} {ts : L} (h : Rd w B A (bvs ts)) {k : Nat} (hk : k < ts.length) :
    ∃ b o, A = some ⟨b, o, none⟩ ∧ b < B ∧ w.cell? ⟨b, o + k, none⟩ = some (.int .u8 ((tg ts k).toNat : Int)) := by
  obtain ⟨b, o, h1, h2, h3⟩ := h.at_ (bvs_at hk)
  refine ⟨b, o, h1, h2, ?_⟩
  rw [h3, tg, List.getD, List.getElem?_eq_getElem hk]
  rfl

theorem wrap_one (t : UInt8) (p : L) (hp : p.length ≤ 1000) (w : World) (A : Option Addr) (m c : Nat) (hm : m = p.length) (h : Rd w w.heap.size A (bvs p)) :
    Calls Try.prog 20 #[.int .u8 t.toNat, .slice (some ⟨w.heap.size, 0, none⟩) 1 1] (w.alloc (.cells #[.slice A m c] 22)) fun e w' =>
      (∃ g cap, e = .returned (.slice (some ⟨g, 0, none⟩) (elem t p).length cap) ∧ Rd w' w'.heap.size (some ⟨g, 0, none⟩) (bvs (elem t p))) ∧ Below w.heap.size w w' := by
  have hr := DerW.rds_one w 22 _ A p m c hm h (Nat.le_refl _)
  have e : [p].flatten = p := by simp
  refine (DerW.wrap_any t _ _ 1 1 (w.heap.size + 1) _ hr rfl (by simp) (by rw [e]; omega) (by simp)).mono ?_
  rw [e]
  rintro e' w' ⟨v, rfl, hown, hb⟩
  obtain ⟨g, cap, rfl, _, _, hrd⟩ := DerK.own_slice hown (by rw [length_elem]; omega)
  exact ⟨⟨g, cap, rfl, hrd⟩, ((Below.refl w.heap.size w).alloc (Nat.le_refl _) _).trans (hb.mono (by simp))⟩

set_option maxRecDepth 100000 in
theorem nests_out (A : Option Addr) (l : L) (c : Nat) (n : Int) (w : World) (h : 40 < l.length ∨ n < 0 ∨ 4611686018427387904 < n) :
    Calls Try.prog 10 #[.slice A l.length c, .int .i64 n] w fun e w' => e = .returned (.bool true) ∧ Below w.heap.size w w' := by
  by_cases h3 : 40 < l.length
  · have g3 : decide ((40 : Int) < (l.length : Int)) = true := by simp; omega
    clear h h3
    go_enter Try.func10, Try.ntmps10
    go_wp2
    go_ret
    exact ⟨rfl, Below.refl _ _⟩
  · have g3 : decide ((40 : Int) < (l.length : Int)) = false := by simp; omega
    by_cases h1 : n < 0
    · have g1 : decide (n < 0) = true := by simpa using h1
      clear h h1 h3
      go_enter Try.func10, Try.ntmps10
      go_wp2
      go_ret
      exact ⟨rfl, Below.refl _ _⟩
    · have g1 : decide (n < 0) = false := by simpa using h1
      have g2 : decide (4611686018427387904 < n) = true := by
        have : 4611686018427387904 < n := by rcases h with h | h | h <;> first | exact h | omega
        simpa using this
      clear h h1 h3
      go_enter Try.func10, Try.ntmps10
      go_wp2
      go_ret
      exact ⟨rfl, Below.refl _ _⟩

set_option maxRecDepth 100000 in
set_option maxHeartbeats 1000000 in
theorem nests_in (A : Option Addr) (ts : L) (c : Nat) (n : Int) (w : World) (hr : Rd w w.heap.size A (bvs ts))
    (h0 : ts.length ≤ 40) (h1 : 0 ≤ n) (h2 : n ≤ 4611686018427387904) :
    Calls Try.prog 10 #[.slice A ts.length c, .int .i64 n] w fun e w' => e = .returned (.bool true) ∧ Below w.heap.size w w' := by
  have g1 : decide (n < 0) = false := by simpa using h1
  have g2 : decide (4611686018427387904 < n) = false := by simpa using h2
  have g3 : decide ((40 : Int) < (ts.length : Int)) = false := by simp; omega
  have HR := Lib.hid hr
  have H1 := Lib.hid h1
  have H2 := Lib.hid h2
  have HL := Lib.hid (nests_le n ts)
  have HP := Lib.hid (nests_pos n ts)
  have h40 : (ts.length : Int) ≤ 40 := by omega
  have H0 := Lib.hid h0
  clear hr h1 h2 h0
  go_enter Try.func10, Try.ntmps10
  go_wp2_with (go_at_call 14; refine (DerW.int_any n w).mono ?_; rintro e w1 ⟨v1, rfl, hown1, hb1⟩
               obtain ⟨q1, d1, rfl, hq1, _, hrd1⟩ := DerK.own_slice hown1 (HP.out 0)
               clear hown1)
  go_loopw [5, 6] (fun b i wr => ∃ (k q d : Nat), k ≤ ts.length ∧ i = .int .i64 (k : Int) ∧ b = .slice (some ⟨q, 0, none⟩) (nests n ts k).length d ∧ Rd wr wr.heap.size (some ⟨q, 0, none⟩) (bvs (nests n ts k)) ∧ Below w.heap.size w wr) (fun _ i _ => ts.length - (intOf i).toNat)
  case atStart => exact ⟨0, q1, d1, by omega, rfl, rfl, hrd1, hb1⟩
  case round =>
    obtain ⟨k, q, d, hk, rfl, rfl, hrd, hb⟩ := hrel
    clear hrd1 hb1 hq1
    by_cases hlt : k < ts.length
    · obtain ⟨b, o, rfl, hbB, hcell⟩ := tag_cell (HR.out.below hb) hlt
      have HQ := Lib.hid hrd
      clear hrd
      go_wp2_with (go_at_call 20; refine (wrap_one (tg ts k) (nests n ts k) (by have := HL.out k; have := H0.out; omega) wr _ _ d rfl HQ.out).mono ?_; rintro e w2 ⟨⟨q2, d2, rfl, hrd2⟩, hb2⟩)
      exact ⟨⟨k + 1, q2, d2, by omega, by go_num, rfl, hrd2, bt hb hb2⟩, by simp [intOf]; omega⟩
    · obtain rfl : k = ts.length := by omega
      have HQ := Lib.hid hrd
      clear hk hlt hrd
      go_wp2_with (go_at_call 23; refine (DerC.open_any _ _ _ _ _ _ HQ.out rfl).mono ?_; rintro e w3 ⟨g, rfl, hg, hcur, hb3⟩)
      have hb3' := bt hb hb3
      have hgw : w.heap.size ≤ g := Nat.le_trans hb.size hg
      go_loopw [7, 8] (fun cv i wr => ∃ (j g' : Nat), j ≤ ts.length ∧ i = .int .i64 ((j : Int) - 1) ∧ cv = .pointer (some ⟨g', 0, none⟩) ∧ DerC.Cur wr g' (some (nests n ts j)) ∧ w.heap.size ≤ g' ∧ Below w.heap.size w wr) (fun _ i _ => (intOf i + 1).toNat)
      case atStart => exact ⟨ts.length, g, Nat.le_refl _, rfl, rfl, hcur, hgw, hb3'⟩
      case round =>
        obtain ⟨j, g', hj, rfl, rfl, hcur', hg', hbr⟩ := hrel
        clear hcur hb hb3 hb3' hg hgw
        cases j with
        | zero =>
          have e : ((0 : Nat) : Int) - 1 = -1 := rfl
          rw [e]
          have hc0 : DerC.Cur wr g' (some (encI n ++ [])) := by rw [List.append_nil]; exact hcur'
          have HC := Lib.hid hc0
          clear hc0 hcur' e
          go_wp2_with (first
            | (go_at_call 24; refine (int_good g' n [] _ H1.out H2.out (by simp) HC.out).mono ?_; rintro e w5 ⟨rfl, hcur5, hg5⟩)
            | (go_at_call 33; refine (whole_end g' _ hcur5).mono ?_; rintro e w' ⟨rfl, rfl⟩)
            | (go_at_call 22; refine (DerK.known_any _).mono ?_; rintro e w8 ⟨rfl, hb8⟩))
          go_ret
          exact ⟨rfl, bt (btg hbr hg5 hg') hb8⟩
        | succ j =>
          have e : ((j + 1 : Nat) : Int) - 1 = (j : Int) := by omega
          rw [e]
          clear e
          obtain ⟨b, o, rfl, hbB, hcell⟩ := tag_cell (HR.out.below hbr) (show j < ts.length by omega)
          have hc1 : DerC.Cur wr g' (some (elem (tg ts j) (nests n ts j) ++ [])) := by rw [List.append_nil]; exact hcur'
          have HC := Lib.hid hc1
          clear hc1 hcur'
          go_wp2_with (go_at_call 30; refine (into_good (tg ts j) g' (nests n ts j) [] _ (by have := HL.out j; have := H0.out; omega) (by simp) HC.out).mono ?_; rintro e w6 ⟨⟨g6, rfl, hg6, hcd⟩, hcur6, hgr6⟩)
          exact ⟨⟨j, g6, by omega, rfl, rfl, hcd, Nat.le_trans hbr.size hg6, btg hbr hgr6 hg'⟩, by simp [intOf]⟩

theorem nestsAll (A : Option Addr) (l : L) (c : Nat) (n : Int) (w : World) (hr : Rd w w.heap.size A (bvs l)) (hc : l.length ≤ c) (hm : c ≤ maxLen) (hn : (Lit.int .i64 n).wf = true) :
    Calls Try.prog 10 #[.slice A l.length c, .int .i64 n] w fun e w' => e = .returned (.bool true) ∧ Below w.heap.size w w' := by
  by_cases h : 40 < l.length ∨ n < 0 ∨ 4611686018427387904 < n
  · exact nests_out A l c n w h
  · exact nests_in A l c n w hr (by omega) (by omega) (by omega)

end Go.Proofs.Ytkkpcnibghndgaa.DerL
