/-
  RouteNone walked.
-/
import Derived.Test.YtnalnhplcchdoaaRtAux
import Derived.Test.YtnalnhplcchdoaaRtRef4
import Derived.Deep.RegionHeld3
import Derived.Test.YtnalnhplcchdoaaOpenS
set_option linter.unusedVariables false
namespace Go.Proofs.Ytnalnhplcchdoaa.RtW
open Go.RowKit Go.Proofs.Ytnalnhplcchdoaa.Mem Go.Proofs.Ytnalnhplcchdoaa.Nm Go.Proofs.Ytnalnhplcchdoaa.Rt

theorem none_next {T : Tp} (h : T.K = []) (a b : L) : nextO T a b = none := by
  rw [nextO]
  split
  · rfl
  · rw [List.find?_eq_none]
    intro x _
    rw [linkL, h]; simp
theorem none_walk {T : Tp} (h : T.K = []) (a b : L) : wkB T a b = decide (a = b) ∧ wkL T a b = [] := by
  rw [wkB, wkL, walkO]
  by_cases hab : a = b
  · rw [walkF, if_pos hab, decide_eq_true hab]; exact ⟨rfl, rfl⟩
  · rw [walkF, if_neg hab, none_next h, decide_eq_false hab]; exact ⟨rfl, rfl⟩
theorem eq_beq (a b : L) : (a == b) = decide (a = b) := by
  by_cases h : a = b <;> simp [h]
theorem sum_row {l : List L} {k : Nat} (h : ∀ x ∈ l, x.length ≤ k) : sumF szL l ≤ l.length * (k + 1) := by
  induction l with
  | nil => simp [sumF]
  | cons a t ih =>
    have h1 := h a List.mem_cons_self
    have h2 := ih fun x hx => h x (List.mem_cons_of_mem _ hx)
    simp only [sumF, List.map_cons, List.sum_cons, List.length_cons, szL] at h2 ⊢
    rw [Nat.add_mul]; omega

set_option maxHeartbeats 3200000 in
theorem none_ (A : Option Addr) (l : List L) (c : Nat) (a b : Int) (w : World) (hr : Rd w w.heap.size A (strs l)) (hs : ∀ x ∈ l, x.length ≤ 140737488351232) (_ : l.length * 16 ≤ 140737488351232) (hc : l.length ≤ c) (_ : (Lit.int .i64 a).wf = true) (_ : (Lit.int .i64 b).wf = true) :
    Calls Try.prog 9 #[.slice A l.length c, .int .i64 a, .int .i64 b] w fun e w' => e = .returned (.bool true) ∧ Below w.heap.size w w' := by
  have hbb := (Below.refl w.heap.size w).alloc (Nat.le_refl _) (.cells #[.slice A l.length c, .slice none 0 0, .slice none 0 0] 26)
  have HB := Lib.hid hbb
  have HK := Lib.hid (Blk.new w 26 #[.slice A l.length c, .slice none 0 0, .slice none 0 0])
  by_cases h20 : 20 < l.length
  · have t1 : decide ((20 : Int) < (l.length : Int)) = true := decide_eq_true (by omega)
    clear hbb h20 hr hs
    go_enter Try.func9, Try.ntmps9
    go_wp2
    go_ret
    exact ⟨rfl, HB.out⟩
  · obtain ⟨T, eT⟩ : ∃ T, T = (⟨l, [], []⟩ : Tp) := ⟨_, rfl⟩
    have hv : TpV w w.heap.size (.agg #[.slice A l.length c, .slice none 0 0, .slice none 0 0]) T := by rw [eT]; exact ⟨_, _, _, rfl, ⟨A, c, rfl, hc, hr⟩, slp_nil _ _, sla_nil _ _⟩
    have hbn : bigN T ≤ 4000000000000000000 := by
      have h1 := sum_row hs
      have h2 : l.length * (140737488351232 + 1) ≤ 20 * (140737488351232 + 1) := Nat.mul_le_mul_right _ (by omega)
      have e : bigN T = sumF szL l := by rw [eT]; simp [bigN, sumF]
      rw [e]; omega
    have hK : T.K = [] := by rw [eT]
    have c1 := big_any T _ w.heap.size _ (hv.below hbb) hbb.size hbn
    have t1 : decide ((20 : Int) < (l.length : Int)) = false := decide_eq_false (by omega)
    clear hbb h20 hr hs hbn eT
    by_cases hg : 3000 < bigN T
    · rw [decide_eq_true hg] at c1
      clear hg hv
      go_enter Try.func9, Try.ntmps9
      go_wp2_with (go_at_call 12; refine Calls.mono c1 ?_; rintro e w1 ⟨rfl, hb⟩; clear c1; replace HB := Lib.hid (HB.out.trans (hb.mono HB.out.size)); clear hb)
      go_ret
      exact ⟨rfl, HB.out⟩
    · rw [decide_eq_false hg] at c1
      have hsm := big_sm (Nat.le_of_not_lt hg)
      have RIS := Lib.hid (fun w1 (h : Below w.heap.size w w1) => rist_any T _ w.heap.size w1 hsm (hv.below h) h.size)
      cases hx : isT T with
      | false =>
        rw [hx] at RIS
        clear hg hv hsm hx
        go_enter Try.func9, Try.ntmps9
        go_wp2_with (first
          | (go_at_call 12; refine Calls.mono c1 ?_; rintro e w1 ⟨rfl, hb⟩; clear c1; replace HK := Lib.hid (HK.out.below hb); replace HB := Lib.hid (HB.out.trans (hb.mono HB.out.size)); clear hb; have k0 := HK.out.cell 0; have k1 := HK.out.cell 1; have k2 := HK.out.cell 2; simp only [List.getElem?_toArray, List.getElem?_cons_zero, List.getElem?_cons_succ] at k0 k1 k2)
          | (go_at_call 14; refine Calls.mono (RIS.out _ HB.out) ?_; rintro e w2 ⟨rfl, hb⟩; clear k0 k1 k2; replace HK := Lib.hid (HK.out.below hb); replace HB := Lib.hid (HB.out.trans (hb.mono HB.out.size)); clear hb))
        go_ret
        exact ⟨rfl, HB.out⟩
      | true =>
        rw [hx] at RIS
        have hln := ist_len hx
        have PK := Lib.hid (fun k w1 (h : Below w.heap.size w w1) => pick_any T _ w.heap.size k w1 (hv.below h) h.size hln.1 (by omega))
        obtain ⟨x, ex⟩ : ∃ x, x = pl T.R (pickI T a) := ⟨_, rfl⟩
        obtain ⟨y, ey⟩ : ∃ y, y = pl T.R (pickI T b) := ⟨_, rfl⟩
        have hx3 := real_small hsm (pickI T a)
        have hy3 := real_small hsm (pickI T b)
        have P1 := Lib.hid (PK.out a); have P2 := Lib.hid (PK.out b)
        rw [← ex] at P1 hx3
        rw [← ey] at P2 hy3
        have NX := Lib.hid (fun w1 (h : Below w.heap.size w w1) => next_any T _ w.heap.size x y w1 hsm (hv.below h) h.size (by omega) (by omega))
        have WK := Lib.hid (fun w1 (h : Below w.heap.size w w1) => walk_any T _ w.heap.size x y w1 hsm (hv.below h) h.size (by omega) (by omega))
        have CK := Lib.hid (fun w1 => known_any w1)
        have hn := none_next hK x y
        have hw := none_walk hK x y
        rw [nxS, nxB, hn] at NX
        rw [hw.1, hw.2, ← eq_beq] at WK
        obtain ⟨q, eq⟩ : ∃ q, q = (x == y) := ⟨_, rfl⟩
        have EQ := eq.symm
        rw [← eq] at WK
        have b1 : (q == q) = true := by simp
        clear hg hv hsm hx hln PK ex ey hx3 hy3 hn hw hK eq
        go_enter Try.func9, Try.ntmps9
        go_wp2_with (first
          | (go_at_call 12; refine Calls.mono c1 ?_; rintro e w1 ⟨rfl, hb⟩; clear c1; replace HK := Lib.hid (HK.out.below hb); replace HB := Lib.hid (HB.out.trans (hb.mono HB.out.size)); clear hb; have k0 := HK.out.cell 0; have k1 := HK.out.cell 1; have k2 := HK.out.cell 2; simp only [List.getElem?_toArray, List.getElem?_cons_zero, List.getElem?_cons_succ] at k0 k1 k2)
          | (go_at_call 14; refine Calls.mono (RIS.out _ HB.out) ?_; rintro e w2 ⟨rfl, hb⟩; clear k0 k1 k2; replace HK := Lib.hid (HK.out.below hb); replace HB := Lib.hid (HB.out.trans (hb.mono HB.out.size)); clear hb))
        replace HK := Lib.hid (show Blk w2.drew _ _ _ from HK.out.drewN 1)
        replace HB := Lib.hid (show Below _ _ w2.drew from below_drewN HB.out 1)
        go_region_held3 (fun w' => w'.cell? ⟨w.heap.size, 0, none⟩ = some (.slice A l.length c) ∧ w'.cell? ⟨w.heap.size, 1, none⟩ = some (.slice none 0 0) ∧ w'.cell? ⟨w.heap.size, 2, none⟩ = some (.slice none 0 0)) (exact ⟨HK.out.cell 0, HK.out.cell 1, HK.out.cell 2⟩) ((first
          | (go_at_call 16; with_reducible refine Calls.mono (P1.out _ HB.out) ?_; rintro e wx ⟨rfl, hb⟩; replace HK := Lib.hid (HK.out.below hb); replace HB := Lib.hid (HB.out.trans (hb.mono HB.out.size)); clear P1; clear hb)
          | (go_at_call 16; with_reducible refine Calls.mono (P2.out _ HB.out) ?_; rintro e wx ⟨rfl, hb⟩; replace HK := Lib.hid (HK.out.below hb); replace HB := Lib.hid (HB.out.trans (hb.mono HB.out.size)); clear P2; clear hb)))
        have k0 := HK.out.cell 0; have k1 := HK.out.cell 1; have k2 := HK.out.cell 2; simp only [List.getElem?_toArray, List.getElem?_cons_zero, List.getElem?_cons_succ] at k0 k1 k2
        go_wp2_with (first
          | (go_at_call 17; with_reducible refine Calls.mono (NX.out _ HB.out) ?_; rintro e wx ⟨rfl, hb⟩; clear k0 k1 k2; replace HK := Lib.hid (HK.out.below hb); replace HB := Lib.hid (HB.out.trans (hb.mono HB.out.size)); clear hb; have k0 := HK.out.cell 0; have k1 := HK.out.cell 1; have k2 := HK.out.cell 2; simp only [List.getElem?_toArray, List.getElem?_cons_zero, List.getElem?_cons_succ] at k0 k1 k2)
          | (go_at_call 19; with_reducible refine Calls.mono (WK.out _ HB.out) ?_; rintro e wx ⟨u1, rfl, ho, hb⟩; clear k0 k1 k2; replace HK := Lib.hid (HK.out.below hb); replace HB := Lib.hid (HB.out.trans (hb.mono HB.out.size)); obtain ⟨A5, c5, e5, r5⟩ := ho.slice; subst e5; clear ho r5; clear hb; have k0 := HK.out.cell 0; have k1 := HK.out.cell 1; have k2 := HK.out.cell 2; simp only [List.getElem?_toArray, List.getElem?_cons_zero, List.getElem?_cons_succ] at k0 k1 k2)
          | (go_at_call 15; with_reducible refine Calls.mono (CK.out _) ?_; rintro e wx ⟨rfl, hb⟩; clear k0 k1 k2; replace HK := Lib.hid (HK.out.below hb); replace HB := Lib.hid (HB.out.trans (hb.mono HB.out.size)); clear hb; have k0 := HK.out.cell 0; have k1 := HK.out.cell 1; have k2 := HK.out.cell 2; simp only [List.getElem?_toArray, List.getElem?_cons_zero, List.getElem?_cons_succ] at k0 k1 k2))
        go_ret
        exact ⟨rfl, HB.out⟩
end Go.Proofs.Ytnalnhplcchdoaa.RtW
