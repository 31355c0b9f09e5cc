/-
  RouteDirect walked.
-/
import Derived.Test.YtnalnhplcchdoaaRtAux
import Derived.Test.YtnalnhplcchdoaaRtRef4
import Derived.Test.YtnalnhplcchdoaaRtWalk
import Derived.Deep.RegionHeld3
set_option linter.unusedVariables false
namespace Go.Proofs.Ytnalnhplcchdoaa.RtW
open Go.RowKit Go.Proofs.Ytnalnhplcchdoaa.Mem Go.Proofs.Ytnalnhplcchdoaa.Nm Go.Proofs.Ytnalnhplcchdoaa.Rt

theorem direct_nexto {T : Tp} {x y : L} (h1 : laidB T x y = false) (h2 : x ≠ y) (h3 : linkL T x y = true) : nextO T x y = some y := by
  rw [nextO, if_neg h2, steps_no h1, List.find?_cons, h3]
theorem direct_next {T : Tp} {x y : L} (h1 : laidB T x y = false) (h2 : x ≠ y) (h3 : linkL T x y = true) : nxS T x y = y ∧ nxB T x y = true := by
  rw [nxS, nxB, direct_nexto h1 h2 h3]; exact ⟨rfl, rfl⟩
theorem direct_walk {T : Tp} {x y : L} (h1 : laidB T x y = false) (h2 : x ≠ y) (h3 : linkL T x y = true) : wkB T x y = true ∧ wkL T x y = [] := by
  have e : walkO T x y = some [] := by
    rw [walkO, walkF, if_neg h2, direct_nexto h1 h2 h3]
    simp only
    rw [if_neg (by rintro (h | h); exact h2 h.symm; cases h), if_pos trivial, if_neg (by simp), walkF, if_pos rfl]
  rw [wkB, wkL, e]; exact ⟨rfl, rfl⟩
set_option maxHeartbeats 3200000 in
theorem direct_no (T : Tp) (v : Value) (a b : Int) (w : World) (hv : TpV w w.heap.size v T) (hs : bigN T ≤ 4000000000000000000) (hno : 3000 < bigN T ∨ isT T = false) :
    Calls Try.prog 8 #[v, .int .i64 a, .int .i64 b] w fun e w' => e = .returned (.bool true) ∧ Below w.heap.size w w' := by
  have hv' := hv
  obtain ⟨v1, v2, v3, rfl, ⟨A1, d1, rfl, hc1, r1⟩, ⟨A2, d2, rfl, hc2, r2⟩, ⟨A3, d3, rfl, hc3, r3⟩⟩ := hv'
  have hbb := (Below.refl w.heap.size w).alloc (Nat.le_refl _) (.cells #[.slice A1 T.R.length d1, .slice A2 T.K.length d2, .slice A3 T.P.length d3] 26)
  have HB := Lib.hid hbb
  have HK := Lib.hid (Blk.new w 26 #[.slice A1 T.R.length d1, .slice A2 T.K.length d2, .slice A3 T.P.length d3])
  have c1 := big_any T _ w.heap.size _ (hv.below hbb) hbb.size hs
  clear r1 r2 r3 hc1 hc2 hc3 hbb
  by_cases hg : 3000 < bigN T
  · rw [decide_eq_true hg] at c1
    clear hg hs hv hno
    go_enter Try.func8, Try.ntmps8
    go_wp2_with (go_at_call 12; refine Calls.mono c1 ?_; rintro e w1 ⟨rfl, hb⟩; clear c1; replace HB := Lib.hid (HB.out.trans (hb.mono HB.out.size)); clear hb)
    go_ret
    exact ⟨rfl, HB.out⟩
  · rw [decide_eq_false hg] at c1
    have hsm := big_sm (Nat.le_of_not_lt hg)
    have RIS := Lib.hid (fun w1 (h : Below w.heap.size w w1) => rist_any T _ w.heap.size w1 hsm (hv.below h) h.size)
    rw [hno.elim (fun h => absurd h hg) id] at RIS
    clear hg hs hv hsm hno
    go_enter Try.func8, Try.ntmps8
    go_wp2_with (first
      | (go_at_call 12; refine Calls.mono c1 ?_; rintro e w1 ⟨rfl, hb⟩; clear c1; replace HK := Lib.hid (HK.out.below hb); replace HB := Lib.hid (HB.out.trans (hb.mono HB.out.size)); clear hb; have k0 := HK.out.cell 0; have k1 := HK.out.cell 1; have k2 := HK.out.cell 2; simp only [List.getElem?_toArray, List.getElem?_cons_zero, List.getElem?_cons_succ] at k0 k1 k2)
      | (go_at_call 14; refine Calls.mono (RIS.out _ HB.out) ?_; rintro e w2 ⟨rfl, hb⟩; clear k0 k1 k2; replace HK := Lib.hid (HK.out.below hb); replace HB := Lib.hid (HB.out.trans (hb.mono HB.out.size)); clear hb))
    go_ret
    exact ⟨rfl, HB.out⟩

set_option maxHeartbeats 6400000 in
set_option maxRecDepth 100000 in
theorem direct_yes (T : Tp) (v : Value) (a b : Int) (w : World) (hv : TpV w w.heap.size v T) (hg : bigN T ≤ 3000) (hx : isT T = true) :
    Calls Try.prog 8 #[v, .int .i64 a, .int .i64 b] w fun e w' => e = .returned (.bool true) ∧ Below w.heap.size w w' := by
  have hv' := hv
  obtain ⟨v1, v2, v3, rfl, ⟨A1, d1, rfl, hc1, r1⟩, ⟨A2, d2, rfl, hc2, r2⟩, ⟨A3, d3, rfl, hc3, r3⟩⟩ := hv'
  have hbb := (Below.refl w.heap.size w).alloc (Nat.le_refl _) (.cells #[.slice A1 T.R.length d1, .slice A2 T.K.length d2, .slice A3 T.P.length d3] 26)
  have HB := Lib.hid hbb
  have HK := Lib.hid (Blk.new w 26 #[.slice A1 T.R.length d1, .slice A2 T.K.length d2, .slice A3 T.P.length d3])
  have c1 := big_any T _ w.heap.size _ (hv.below hbb) hbb.size (by omega)
  rw [decide_eq_false (by omega)] at c1
  have hsm := big_sm hg
  have hln := ist_len hx
  have RIS := Lib.hid (fun w1 (h : Below w.heap.size w w1) => rist_any T _ w.heap.size w1 hsm (hv.below h) h.size)
  rw [hx] at RIS
  have PK := Lib.hid (fun k w1 (h : Below w.heap.size w w1) => pick_any T _ w.heap.size k w1 (hv.below h) h.size hln.1 (by omega))
  obtain ⟨x, ex⟩ : ∃ x, x = pl T.R (pickI T a) := ⟨_, rfl⟩
  obtain ⟨y, ey⟩ : ∃ y, y = pl T.R (pickI T b) := ⟨_, rfl⟩
  have hx3 := real_small hsm (pickI T a)
  have hy3 := real_small hsm (pickI T b)
  have P1 := Lib.hid (PK.out a); have P2 := Lib.hid (PK.out b)
  rw [← ex] at P1 hx3
  rw [← ey] at P2 hy3
  have NX := Lib.hid (fun w1 (h : Below w.heap.size w w1) => next_any T _ w.heap.size x y w1 hsm (hv.below h) h.size (by omega) (by omega))
  have WK := Lib.hid (fun w1 (h : Below w.heap.size w w1) => walk_any T _ w.heap.size x y w1 hsm (hv.below h) h.size (by omega) (by omega))
  have LK := Lib.hid (fun w1 (h : Below w.heap.size w w1) => linked_any T _ w.heap.size x y w1 hsm (hv.below h) h.size)
  have RA := Lib.hid (fun w1 (h : Below w.heap.size w w1) => r3.below h)
  have hk3 := hsm.p
  have DN := Lib.hid (@direct_next T x y)
  have DW := Lib.hid (@direct_walk T x y)
  have LN := Lib.hid (@laidb_no T x y)
  obtain ⟨k, ek⟩ : ∃ k, k = T.P.length := ⟨_, rfl⟩
  rw [← ek] at HB HK c1 RIS NX WK LK P1 P2 hk3 LN
  rw [← ek]
  have EK := Lib.hid ek
  have CK := Lib.hid (fun w1 => known_any w1)
  clear r1 r2 r3 hc1 hc2 hc3 hbb hv hg hx hsm hln hx3 hy3 ex ey PK ek
  go_enter Try.func8, Try.ntmps8
  go_wp2_with (first
    | (go_at_call 12; refine Calls.mono c1 ?_; rintro e w1 ⟨rfl, hb⟩; clear c1; replace HK := Lib.hid (HK.out.below hb); replace HB := Lib.hid (HB.out.trans (hb.mono HB.out.size)); clear hb; have k0 := HK.out.cell 0; have k1 := HK.out.cell 1; have k2 := HK.out.cell 2; simp only [List.getElem?_toArray, List.getElem?_cons_zero, List.getElem?_cons_succ] at k0 k1 k2)
    | (go_at_call 14; refine Calls.mono (RIS.out _ HB.out) ?_; rintro e w2 ⟨rfl, hb⟩; clear k0 k1 k2; replace HK := Lib.hid (HK.out.below hb); replace HB := Lib.hid (HB.out.trans (hb.mono HB.out.size)); clear hb))
  replace HK := Lib.hid (show Blk w2.drew _ _ _ from HK.out.drewN 1)
  replace HB := Lib.hid (show Below _ _ w2.drew from below_drewN HB.out 1)
  go_region_held3 (fun w' => w'.cell? ⟨w.heap.size, 0, none⟩ = some (.slice A1 T.R.length d1) ∧ w'.cell? ⟨w.heap.size, 1, none⟩ = some (.slice A2 T.K.length d2) ∧ w'.cell? ⟨w.heap.size, 2, none⟩ = some (.slice A3 k d3)) (exact ⟨HK.out.cell 0, HK.out.cell 1, HK.out.cell 2⟩) ((first
    | (go_at_call 16; with_reducible refine Calls.mono (P1.out _ HB.out) ?_; rintro e wx ⟨rfl, hb⟩; replace HK := Lib.hid (HK.out.below hb); replace HB := Lib.hid (HB.out.trans (hb.mono HB.out.size)); clear P1; clear hb)
    | (go_at_call 16; with_reducible refine Calls.mono (P2.out _ HB.out) ?_; rintro e wx ⟨rfl, hb⟩; replace HK := Lib.hid (HK.out.below hb); replace HB := Lib.hid (HB.out.trans (hb.mono HB.out.size)); clear P2; clear hb)))
  have k0 := HK.out.cell 0; have k1 := HK.out.cell 1; have k2 := HK.out.cell 2; simp only [List.getElem?_toArray, List.getElem?_cons_zero, List.getElem?_cons_succ] at k0 k1 k2
  obtain ⟨W, eW⟩ : ∃ W, W = wx := ⟨_, rfl⟩
  go_wp2
  rw [← eW] at HK HB k0 k1 k2 ⊢
  clear eW
  go_loopw [9] (fun iv wr => ∃ i : Nat, i ≤ k ∧ iv = .int .i64 (i : Int) ∧ (∀ q, q < i → isP x y (al T.P q) = false) ∧ Below w.heap.size w wr ∧ Blk wr w.heap.size 26 #[.slice A1 T.R.length d1, .slice A2 T.K.length d2, .slice A3 k d3]) (fun iv _ => k - (intOf iv).toNat)
  case atStart => exact ⟨0, Nat.zero_le _, rfl, fun q hq => absurd hq (Nat.not_lt_zero q), HB.out, HK.out⟩
  case round =>
    obtain ⟨i, hi, rfl, hn, hb, hk⟩ := hrel
    clear k0 k1 k2 HB HK
    have HN := Lib.hid hn; have HB := Lib.hid hb; have HK := Lib.hid hk; clear hn hb hk
    have k0 := HK.out.cell 0; have k1 := HK.out.cell 1; have k2 := HK.out.cell 2; simp only [List.getElem?_toArray, List.getElem?_cons_zero, List.getElem?_cons_succ] at k0 k1 k2
    by_cases hlt : i < k
    · have e1 : (i : Int) < (k : Int) := by omega
      have e2 : (0 : Int) ≤ (i : Int) := by omega
      obtain ⟨b1, o, rfl, _, h1, h2, u, h3, h4⟩ := rda_at (RA.out _ HB.out) (i := i) (by rw [← EK.out]; exact hlt)
      clear h3 h4
      by_cases q1 : (al T.P i).f = x
      · have t1 : ((al T.P i).f == x) = true := by simpa using q1
        by_cases q2 : (al T.P i).t = y
        · have t2 : ((al T.P i).t == y) = true := by simpa using q2
          clear q1 q2
          go_wp2_with (go_at_call 15; refine Calls.mono (CK.out _) ?_; rintro e w9 ⟨rfl, hb⟩; replace HB := Lib.hid (HB.out.trans (hb.mono HB.out.size)); clear hb)
          go_ret
          exact ⟨rfl, HB.out⟩
        · have t2 : ((al T.P i).t == y) = false := by simpa using q2
          have E := Lib.hid (isp_no2 (a := x) q2)
          clear q1 q2
          go_wp2
          go_roundw
          case rel => exact ⟨i + 1, by omega, by go_num, fun q hq => by
            by_cases e : q = i
            · rw [e]; exact E.out
            · exact HN.out q (by omega), HB.out, HK.out⟩
          case measure => simp [intOf]; omega
      · have t1 : ((al T.P i).f == x) = false := by simpa using q1
        have E := Lib.hid (isp_no1 (b := y) q1)
        clear q1
        go_wp2
        go_roundw
        case rel => exact ⟨i + 1, by omega, by go_num, fun q hq => by
          by_cases e : q = i
          · rw [e]; exact E.out
          · exact HN.out q (by omega), HB.out, HK.out⟩
        case measure => simp [intOf]; omega
    · have e1 : ¬ (i : Int) < (k : Int) := by omega
      have hld := (LN.out fun q hq => HN.out q (by omega)).1
      clear hlt
      by_cases hxy : x = y
      · have t1 : (x == y) = true := by simpa using hxy
        clear hxy hld
        go_wp2_with (go_at_call 15; refine Calls.mono (CK.out _) ?_; rintro e w9 ⟨rfl, hb⟩; replace HB := Lib.hid (HB.out.trans (hb.mono HB.out.size)); clear hb)
        go_ret
        exact ⟨rfl, HB.out⟩
      · have t1 : (x == y) = false := by simpa using hxy
        cases hlk : linkL T x y with
        | false =>
          rw [hlk] at LK
          clear hxy hld hlk
          go_wp2_with (first
            | (go_at_call 17; with_reducible refine Calls.mono (NX.out _ HB.out) ?_; rintro e wx ⟨rfl, hb⟩; clear k0 k1 k2; replace HK := Lib.hid (HK.out.below hb); replace HB := Lib.hid (HB.out.trans (hb.mono HB.out.size)); clear hb; have k0 := HK.out.cell 0; have k1 := HK.out.cell 1; have k2 := HK.out.cell 2; simp only [List.getElem?_toArray, List.getElem?_cons_zero, List.getElem?_cons_succ] at k0 k1 k2)
            | (go_at_call 19; with_reducible refine Calls.mono (WK.out _ HB.out) ?_; rintro e wx ⟨u1, rfl, ho, hb⟩; clear k0 k1 k2; replace HK := Lib.hid (HK.out.below hb); replace HB := Lib.hid (HB.out.trans (hb.mono HB.out.size)); obtain ⟨A5, c5, e5, r5⟩ := ho.slice; subst e5; clear ho r5; clear hb; have k0 := HK.out.cell 0; have k1 := HK.out.cell 1; have k2 := HK.out.cell 2; simp only [List.getElem?_toArray, List.getElem?_cons_zero, List.getElem?_cons_succ] at k0 k1 k2)
            | (go_at_call 15; with_reducible refine Calls.mono (CK.out _) ?_; rintro e wx ⟨rfl, hb⟩; clear k0 k1 k2; replace HK := Lib.hid (HK.out.below hb); replace HB := Lib.hid (HB.out.trans (hb.mono HB.out.size)); clear hb; have k0 := HK.out.cell 0; have k1 := HK.out.cell 1; have k2 := HK.out.cell 2; simp only [List.getElem?_toArray, List.getElem?_cons_zero, List.getElem?_cons_succ] at k0 k1 k2)
            | (go_at_call 21; with_reducible refine Calls.mono (LK.out _ HB.out) ?_; rintro e wx ⟨rfl, hb⟩; clear k0 k1 k2; replace HK := Lib.hid (HK.out.below hb); replace HB := Lib.hid (HB.out.trans (hb.mono HB.out.size)); clear hb; have k0 := HK.out.cell 0; have k1 := HK.out.cell 1; have k2 := HK.out.cell 2; simp only [List.getElem?_toArray, List.getElem?_cons_zero, List.getElem?_cons_succ] at k0 k1 k2))
          go_ret
          exact ⟨rfl, HB.out⟩
        | true =>
          have hnx := DN.out hld hxy hlk
          have hwk := DW.out hld hxy hlk
          rw [hlk] at LK
          rw [hnx.1, hnx.2] at NX
          rw [hwk.1, hwk.2] at WK
          have b5 : (y == y) = true := by simp
          clear hxy hld hlk hnx hwk
          go_wp2_with (first
            | (go_at_call 17; with_reducible refine Calls.mono (NX.out _ HB.out) ?_; rintro e wx ⟨rfl, hb⟩; clear k0 k1 k2; replace HK := Lib.hid (HK.out.below hb); replace HB := Lib.hid (HB.out.trans (hb.mono HB.out.size)); clear hb; have k0 := HK.out.cell 0; have k1 := HK.out.cell 1; have k2 := HK.out.cell 2; simp only [List.getElem?_toArray, List.getElem?_cons_zero, List.getElem?_cons_succ] at k0 k1 k2)
            | (go_at_call 19; with_reducible refine Calls.mono (WK.out _ HB.out) ?_; rintro e wx ⟨u1, rfl, ho, hb⟩; clear k0 k1 k2; replace HK := Lib.hid (HK.out.below hb); replace HB := Lib.hid (HB.out.trans (hb.mono HB.out.size)); obtain ⟨A5, c5, e5, r5⟩ := ho.slice; subst e5; clear ho r5; clear hb; have k0 := HK.out.cell 0; have k1 := HK.out.cell 1; have k2 := HK.out.cell 2; simp only [List.getElem?_toArray, List.getElem?_cons_zero, List.getElem?_cons_succ] at k0 k1 k2)
            | (go_at_call 15; with_reducible refine Calls.mono (CK.out _) ?_; rintro e wx ⟨rfl, hb⟩; clear k0 k1 k2; replace HK := Lib.hid (HK.out.below hb); replace HB := Lib.hid (HB.out.trans (hb.mono HB.out.size)); clear hb; have k0 := HK.out.cell 0; have k1 := HK.out.cell 1; have k2 := HK.out.cell 2; simp only [List.getElem?_toArray, List.getElem?_cons_zero, List.getElem?_cons_succ] at k0 k1 k2)
            | (go_at_call 21; with_reducible refine Calls.mono (LK.out _ HB.out) ?_; rintro e wx ⟨rfl, hb⟩; clear k0 k1 k2; replace HK := Lib.hid (HK.out.below hb); replace HB := Lib.hid (HB.out.trans (hb.mono HB.out.size)); clear hb; have k0 := HK.out.cell 0; have k1 := HK.out.cell 1; have k2 := HK.out.cell 2; simp only [List.getElem?_toArray, List.getElem?_cons_zero, List.getElem?_cons_succ] at k0 k1 k2))
          go_ret
          exact ⟨rfl, HB.out⟩
theorem direct_ (T : Tp) (v : Value) (a b : Int) (w : World) (hv : TpV w w.heap.size v T) (hs : bigN T ≤ 4000000000000000000) (_ : (Lit.int .i64 a).wf = true) (_ : (Lit.int .i64 b).wf = true) :
    Calls Try.prog 8 #[v, .int .i64 a, .int .i64 b] w fun e w' => e = .returned (.bool true) ∧ Below w.heap.size w w' := by
  by_cases h : 3000 < bigN T ∨ isT T = false
  · exact direct_no T v a b w hv hs h
  · rw [not_or] at h
    exact direct_yes T v a b w hv (by omega) (by simpa using h.2)
end Go.Proofs.Ytnalnhplcchdoaa.RtW
