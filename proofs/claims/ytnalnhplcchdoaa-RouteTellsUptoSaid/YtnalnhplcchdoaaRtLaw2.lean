/-
  RouteTells walked.
-/
import Derived.Test.YtnalnhplcchdoaaRtAux
import Derived.Test.YtnalnhplcchdoaaRtRef4
import Derived.Test.YtnalnhplcchdoaaRtRef7
import Derived.Deep.RegionHeld3
set_option linter.unusedVariables false
namespace Go.Proofs.Ytnalnhplcchdoaa.RtW
open Go.RowKit Go.Proofs.Ytnalnhplcchdoaa.Mem Go.Proofs.Ytnalnhplcchdoaa.Nm Go.Proofs.Ytnalnhplcchdoaa.Rt

set_option maxHeartbeats 3200000 in
theorem tells_no (T : Tp) (v : Value) (a b : Int) (l : List L) (A : Option Addr) (c : Nat) (w : World) (hv : TpV w w.heap.size v T) (hs : bigN T ≤ 4000000000000000000) (hl : l.length ≤ 1048576) (hno : 3000 < bigN T ∨ isT T = false ∨ 20 < l.length) :
    Calls Try.prog 4 #[v, .int .i64 a, .int .i64 b, .slice A l.length c] w fun e w' => e = .returned (.bool true) ∧ Below w.heap.size w w' := by
  have hv' := hv
  obtain ⟨v1, v2, v3, rfl, ⟨A1, d1, rfl, hc1, r1⟩, ⟨A2, d2, rfl, hc2, r2⟩, ⟨A3, d3, rfl, hc3, r3⟩⟩ := hv'
  have hbb := (Below.refl w.heap.size w).alloc (Nat.le_refl _) (.cells #[.slice A1 T.R.length d1, .slice A2 T.K.length d2, .slice A3 T.P.length d3] 26)
  have HB := Lib.hid hbb
  have HK := Lib.hid (Blk.new w 26 #[.slice A1 T.R.length d1, .slice A2 T.K.length d2, .slice A3 T.P.length d3])
  have c1 := big_any T _ w.heap.size _ (hv.below hbb) hbb.size hs
  clear r1 r2 r3 hc1 hc2 hc3 hbb
  by_cases hg : 3000 < bigN T
  · rw [decide_eq_true hg] at c1
    clear hg hs hv hno
    go_enter Try.func4, Try.ntmps4
    go_wp2_with (go_at_call 12; refine Calls.mono c1 ?_; rintro e w1 ⟨rfl, hb⟩; clear c1; replace HB := Lib.hid (HB.out.trans (hb.mono HB.out.size)); clear hb)
    go_ret
    exact ⟨rfl, HB.out⟩
  · rw [decide_eq_false hg] at c1
    have hsm := big_sm (Nat.le_of_not_lt hg)
    have RIS := Lib.hid (fun w1 (h : Below w.heap.size w w1) => rist_any T _ w.heap.size w1 hsm (hv.below h) h.size)
    cases hx : isT T with
    | false =>
      rw [hx] at RIS
      clear hg hs hv hsm hno hx
      go_enter Try.func4, Try.ntmps4
      go_wp2_with (first
        | (go_at_call 12; refine Calls.mono c1 ?_; rintro e w1 ⟨rfl, hb⟩; clear c1; replace HK := Lib.hid (HK.out.below hb); replace HB := Lib.hid (HB.out.trans (hb.mono HB.out.size)); clear hb; have k0 := HK.out.cell 0; have k1 := HK.out.cell 1; have k2 := HK.out.cell 2; simp only [List.getElem?_toArray, List.getElem?_cons_zero, List.getElem?_cons_succ] at k0 k1 k2)
        | (go_at_call 14; refine Calls.mono (RIS.out _ HB.out) ?_; rintro e w1 ⟨rfl, hb⟩; clear k0 k1 k2; replace HB := Lib.hid (HB.out.trans (hb.mono HB.out.size)); clear hb))
      go_ret
      exact ⟨rfl, HB.out⟩
    | true =>
      rw [hx] at RIS
      have h20 : 20 < l.length := by exact hno.elim (fun h => absurd h hg) fun h => h.elim (fun h => absurd (hx.symm.trans h) (by simp)) id
      have t1 : decide ((20 : Int) < (l.length : Int)) = true := decide_eq_true (by omega)
      clear hg hs hv hsm hno hx
      go_enter Try.func4, Try.ntmps4
      go_wp2_with (first
        | (go_at_call 12; refine Calls.mono c1 ?_; rintro e w1 ⟨rfl, hb⟩; clear c1; replace HK := Lib.hid (HK.out.below hb); replace HB := Lib.hid (HB.out.trans (hb.mono HB.out.size)); clear hb; have k0 := HK.out.cell 0; have k1 := HK.out.cell 1; have k2 := HK.out.cell 2; simp only [List.getElem?_toArray, List.getElem?_cons_zero, List.getElem?_cons_succ] at k0 k1 k2)
        | (go_at_call 14; refine Calls.mono (RIS.out _ HB.out) ?_; rintro e w1 ⟨rfl, hb⟩; clear k0 k1 k2; replace HB := Lib.hid (HB.out.trans (hb.mono HB.out.size)); clear hb))
      go_ret
      exact ⟨rfl, HB.out⟩
set_option maxHeartbeats 6400000 in
set_option maxRecDepth 100000 in
theorem tells_yes (T : Tp) (v : Value) (a b : Int) (l : List L) (A : Option Addr) (c : Nat) (w : World) (hv : TpV w w.heap.size v T) (hg : bigN T ≤ 3000) (hx : isT T = true) (hl : l.length ≤ 20) (hr : Rd w w.heap.size A (strs l)) :
    Calls Try.prog 4 #[v, .int .i64 a, .int .i64 b, .slice A l.length c] w fun e w' => e = .returned (.bool true) ∧ Below w.heap.size w w' := by
  have hv' := hv
  obtain ⟨v1, v2, v3, rfl, ⟨A1, d1, rfl, hc1, r1⟩, ⟨A2, d2, rfl, hc2, r2⟩, ⟨A3, d3, rfl, hc3, r3⟩⟩ := hv'
  have hbb := (Below.refl w.heap.size w).alloc (Nat.le_refl _) (.cells #[.slice A1 T.R.length d1, .slice A2 T.K.length d2, .slice A3 T.P.length d3] 26)
  have HB := Lib.hid hbb
  have HK := Lib.hid (Blk.new w 26 #[.slice A1 T.R.length d1, .slice A2 T.K.length d2, .slice A3 T.P.length d3])
  have c1 := big_any T _ w.heap.size _ (hv.below hbb) hbb.size (by omega)
  rw [decide_eq_false (by omega)] at c1
  have hsm := big_sm hg
  have hln := ist_len hx
  have RIS := Lib.hid (fun w1 (h : Below w.heap.size w w1) => rist_any T _ w.heap.size w1 hsm (hv.below h) h.size)
  rw [hx] at RIS
  have PK := Lib.hid (fun k w1 (h : Below w.heap.size w w1) => pick_any T _ w.heap.size k w1 (hv.below h) h.size hln.1 (by omega))
  obtain ⟨x, ex⟩ : ∃ x, x = pl T.R (pickI T a) := ⟨_, rfl⟩
  obtain ⟨y, ey⟩ : ∃ y, y = pl T.R (pickI T b) := ⟨_, rfl⟩
  have hx3 := real_small hsm (pickI T a)
  have hy3 := real_small hsm (pickI T b)
  have P1 := Lib.hid (PK.out a); have P2 := Lib.hid (PK.out b)
  rw [← ex] at P1 hx3
  rw [← ey] at P2 hy3
  have NX := Lib.hid (fun w1 (h : Below w.heap.size w w1) => next_any T _ w.heap.size x y w1 hsm (hv.below h) h.size (by omega) (by omega))
  have RNX := Lib.hid (fun w1 (h : Below w.heap.size w w1) => rnext_any T _ w.heap.size x y w1 hsm (hv.below h) h.size (by omega) (by omega))
  have WK := Lib.hid (fun w1 (h : Below w.heap.size w w1) => walk_any T _ w.heap.size x y w1 hsm (hv.below h) h.size (by omega) (by omega))
  have RWK := Lib.hid (fun w1 (h : Below w.heap.size w w1) => rwalk_any T _ w.heap.size x y w1 hsm (hv.below h) h.size (by omega) (by omega))
  have LK := Lib.hid (fun w1 (h : Below w.heap.size w w1) => linked_any T _ w.heap.size x y w1 hsm (hv.below h) h.size)
  have RLK := Lib.hid (fun w1 (h : Below w.heap.size w w1) => rlinked_any T _ w.heap.size x y w1 hsm (hv.below h) h.size)
  have VI := Lib.hid (fun w1 (h : Below w.heap.size w w1) => vvia_any T _ w.heap.size x y w1 hsm (hv.below h) h.size (by omega) (by omega))
  have RVI := Lib.hid (fun w1 (h : Below w.heap.size w w1) => rvia_any T _ w.heap.size x y w1 hsm (hv.below h) h.size (by omega) (by omega))
  have AL := Lib.hid (fun w1 (h : Below w.heap.size w w1) => allowed_any T _ w.heap.size x y l A c w.heap.size w1 hsm (hv.below h) h.size (by omega) (by omega) (by omega) (hr.below h) h.size)
  have RAL := Lib.hid (fun w1 (h : Below w.heap.size w w1) => rallowed_any T _ w.heap.size x y l A c w.heap.size w1 hsm (hv.below h) h.size (by omega) (by omega) (by omega) (hr.below h) h.size)
  have CK := Lib.hid (fun w1 => known_any w1)
  have hvl := via_len (T := T) (a := x) (b := y) fun p hp => hsm.v p hp
  have hwl := wk_len T x y
  obtain ⟨q1, e1⟩ : ∃ q, q = linkL T x y := ⟨_, rfl⟩
  obtain ⟨q2, e2⟩ : ∃ q, q = nxB T x y := ⟨_, rfl⟩
  obtain ⟨q3, e3⟩ : ∃ q, q = wkB T x y := ⟨_, rfl⟩
  obtain ⟨q4, e4⟩ : ∃ q, q = allowB T x y l := ⟨_, rfl⟩
  obtain ⟨n, e5⟩ : ∃ q, q = nxS T x y := ⟨_, rfl⟩
  obtain ⟨V, e6⟩ : ∃ q, q = viaL T x y := ⟨_, rfl⟩
  obtain ⟨U, e7⟩ : ∃ q, q = wkL T x y := ⟨_, rfl⟩
  rw [← e1] at LK RLK
  rw [← e2, ← e5] at NX RNX
  rw [← e3, ← e7] at WK RWK
  rw [← e4] at AL RAL
  rw [← e6] at VI RVI hvl
  rw [← e7] at hwl
  have X1 := Lib.hid (fun A A2 c c2 B w1 => texts_same V A A2 V.length V.length c c2 B w1 rfl rfl (by omega))
  have X2 := Lib.hid (fun A A2 c c2 B w1 => texts_same U A A2 U.length U.length c c2 B w1 rfl rfl (by omega))
  have t1 : decide ((20 : Int) < (l.length : Int)) = false := decide_eq_false (by omega)
  have b1 : (q1 == q1) = true := by simp
  have b2 : (q2 == q2) = true := by simp
  have b3 : (q3 == q3) = true := by simp
  have b4 : (q4 == q4) = true := by simp
  have b5 : (n == n) = true := by simp
  clear r1 r2 r3 hc1 hc2 hc3 hbb hv hg hx hl hr hsm hln hx3 hy3 ex ey e1 e2 e3 e4 e5 e6 e7 hvl hwl PK
  go_enter Try.func4, Try.ntmps4
  go_wp2_with (first
    | (go_at_call 12; refine Calls.mono c1 ?_; rintro e w1 ⟨rfl, hb⟩; clear c1; replace HK := Lib.hid (HK.out.below hb); replace HB := Lib.hid (HB.out.trans (hb.mono HB.out.size)); clear hb; have k0 := HK.out.cell 0; have k1 := HK.out.cell 1; have k2 := HK.out.cell 2; simp only [List.getElem?_toArray, List.getElem?_cons_zero, List.getElem?_cons_succ] at k0 k1 k2)
    | (go_at_call 14; refine Calls.mono (RIS.out _ HB.out) ?_; rintro e w2 ⟨rfl, hb⟩; clear k0 k1 k2; replace HK := Lib.hid (HK.out.below hb); replace HB := Lib.hid (HB.out.trans (hb.mono HB.out.size)); clear hb))
  replace HK := Lib.hid (show Blk w2.drew _ _ _ from HK.out.drewN 1)
  replace HB := Lib.hid (show Below _ _ w2.drew from below_drewN HB.out 1)
  go_region_held3 (fun w' => w'.cell? ⟨w.heap.size, 0, none⟩ = some (.slice A1 T.R.length d1) ∧ w'.cell? ⟨w.heap.size, 1, none⟩ = some (.slice A2 T.K.length d2) ∧ w'.cell? ⟨w.heap.size, 2, none⟩ = some (.slice A3 T.P.length d3)) (exact ⟨HK.out.cell 0, HK.out.cell 1, HK.out.cell 2⟩) ((first
    | (go_at_call 16; with_reducible refine Calls.mono (P1.out _ HB.out) ?_; rintro e wx ⟨rfl, hb⟩; replace HK := Lib.hid (HK.out.below hb); replace HB := Lib.hid (HB.out.trans (hb.mono HB.out.size)); clear P1; clear hb)
    | (go_at_call 16; with_reducible refine Calls.mono (P2.out _ HB.out) ?_; rintro e wx ⟨rfl, hb⟩; replace HK := Lib.hid (HK.out.below hb); replace HB := Lib.hid (HB.out.trans (hb.mono HB.out.size)); clear P2; clear hb)))
  have k0 := HK.out.cell 0; have k1 := HK.out.cell 1; have k2 := HK.out.cell 2; simp only [List.getElem?_toArray, List.getElem?_cons_zero, List.getElem?_cons_succ] at k0 k1 k2
  go_wp2_with (first
    | (go_at_call 17; with_reducible refine Calls.mono (NX.out _ HB.out) ?_; rintro e wx ⟨rfl, hb⟩; clear k0 k1 k2; replace HK := Lib.hid (HK.out.below hb); replace HB := Lib.hid (HB.out.trans (hb.mono HB.out.size)); clear hb; have k0 := HK.out.cell 0; have k1 := HK.out.cell 1; have k2 := HK.out.cell 2; simp only [List.getElem?_toArray, List.getElem?_cons_zero, List.getElem?_cons_succ] at k0 k1 k2)
    | (go_at_call 18; with_reducible refine Calls.mono (RNX.out _ HB.out) ?_; rintro e wx ⟨rfl, hb⟩; clear k0 k1 k2; replace HK := Lib.hid (HK.out.below hb); replace HB := Lib.hid (HB.out.trans (hb.mono HB.out.size)); clear hb; have k0 := HK.out.cell 0; have k1 := HK.out.cell 1; have k2 := HK.out.cell 2; simp only [List.getElem?_toArray, List.getElem?_cons_zero, List.getElem?_cons_succ] at k0 k1 k2)
    | (go_at_call 19; with_reducible refine Calls.mono (WK.out _ HB.out) ?_; rintro e wx ⟨u1, rfl, ho, hb⟩; clear k0 k1 k2; replace HK := Lib.hid (HK.out.below hb); replace HB := Lib.hid (HB.out.trans (hb.mono HB.out.size)); have HO := Lib.hid ho; clear ho; clear hb; have k0 := HK.out.cell 0; have k1 := HK.out.cell 1; have k2 := HK.out.cell 2; simp only [List.getElem?_toArray, List.getElem?_cons_zero, List.getElem?_cons_succ] at k0 k1 k2)
    | (go_at_call 20; with_reducible refine Calls.mono (RWK.out _ HB.out) ?_; rintro e wx ⟨u2, rfl, ho2, hb⟩; clear k0 k1 k2; replace HK := Lib.hid (HK.out.below hb); replace HB := Lib.hid (HB.out.trans (hb.mono HB.out.size)); obtain ⟨A5, c5, e5, r5⟩ := (HO.out.below hb).slice; subst e5; obtain ⟨A6, c6, e6, r6⟩ := ho2.slice; subst e6; have HR5 := Lib.hid r5; have HR6 := Lib.hid r6; clear HO ho2 r5 r6; clear hb; have k0 := HK.out.cell 0; have k1 := HK.out.cell 1; have k2 := HK.out.cell 2; simp only [List.getElem?_toArray, List.getElem?_cons_zero, List.getElem?_cons_succ] at k0 k1 k2))
  clear k0 k1 k2
  replace HK := Lib.hid (show Blk wx.drew _ _ _ from HK.out.drewN 1)
  replace HB := Lib.hid (show Below _ _ wx.drew from below_drewN HB.out 1)
  replace HR5 := Lib.hid (show Rd wx.drew wx.drew.heap.size _ _ from HR5.out.drewN 1)
  replace HR6 := Lib.hid (show Rd wx.drew wx.drew.heap.size _ _ from HR6.out.drewN 1)
  go_region_held3 (fun w' => w'.cell? ⟨w.heap.size, 0, none⟩ = some (.slice A1 T.R.length d1) ∧ w'.cell? ⟨w.heap.size, 1, none⟩ = some (.slice A2 T.K.length d2) ∧ w'.cell? ⟨w.heap.size, 2, none⟩ = some (.slice A3 T.P.length d3)) (exact ⟨HK.out.cell 0, HK.out.cell 1, HK.out.cell 2⟩) ((first
    | (go_at_call 21; with_reducible refine Calls.mono (LK.out _ HB.out) ?_; rintro e wx ⟨rfl, hb⟩; replace HK := Lib.hid (HK.out.below hb); replace HB := Lib.hid (HB.out.trans (hb.mono HB.out.size)); replace HR5 := Lib.hid ((HR5.out.below hb).more hb.size); replace HR6 := Lib.hid ((HR6.out.below hb).more hb.size); clear hb)
    | (go_at_call 22; with_reducible refine Calls.mono (RLK.out _ HB.out) ?_; rintro e wx ⟨rfl, hb⟩; replace HK := Lib.hid (HK.out.below hb); replace HB := Lib.hid (HB.out.trans (hb.mono HB.out.size)); replace HR5 := Lib.hid ((HR5.out.below hb).more hb.size); replace HR6 := Lib.hid ((HR6.out.below hb).more hb.size); clear hb)
    | (go_at_call 24; with_reducible refine Calls.mono (VI.out _ HB.out) ?_; rintro e wx ⟨u1, rfl, ho, hb⟩; replace HK := Lib.hid (HK.out.below hb); replace HB := Lib.hid (HB.out.trans (hb.mono HB.out.size)); replace HR5 := Lib.hid ((HR5.out.below hb).more hb.size); replace HR6 := Lib.hid ((HR6.out.below hb).more hb.size); have HO := Lib.hid ho; clear ho; clear hb)
    | (go_at_call 25; with_reducible refine Calls.mono (RVI.out _ HB.out) ?_; rintro e wx ⟨u2, rfl, ho2, hb⟩; replace HK := Lib.hid (HK.out.below hb); replace HB := Lib.hid (HB.out.trans (hb.mono HB.out.size)); replace HR5 := Lib.hid ((HR5.out.below hb).more hb.size); replace HR6 := Lib.hid ((HR6.out.below hb).more hb.size); obtain ⟨A7, c7, e7, r7⟩ := (HO.out.below hb).slice; subst e7; obtain ⟨A8, c8, e8, _, r8⟩ := sl_out ho2; subst e8; have HR7 := Lib.hid (r7); have HR8 := Lib.hid r8; clear HO r7 r8; clear hb)
    | (go_at_call 23; with_reducible refine Calls.mono (X1.out _ _ _ _ _ _ HR7.out HR8.out) ?_; rintro e wx ⟨rfl, hd⟩; have hb := hd.below; clear hd X1; replace HK := Lib.hid (HK.out.below hb); replace HB := Lib.hid (HB.out.trans (hb.mono HB.out.size)); replace HR5 := Lib.hid ((HR5.out.below hb).more hb.size); replace HR6 := Lib.hid ((HR6.out.below hb).more hb.size); clear hb)
    | (go_at_call 23; with_reducible refine Calls.mono (X2.out _ _ _ _ _ _ HR5.out HR6.out) ?_; rintro e wx ⟨rfl, hd⟩; have hb := hd.below; clear hd X2; replace HK := Lib.hid (HK.out.below hb); replace HB := Lib.hid (HB.out.trans (hb.mono HB.out.size)); replace HR5 := Lib.hid ((HR5.out.below hb).more hb.size); replace HR6 := Lib.hid ((HR6.out.below hb).more hb.size); clear hb)
    | (go_at_call 26; with_reducible refine Calls.mono (AL.out _ HB.out) ?_; rintro e wx ⟨rfl, hb⟩; replace HK := Lib.hid (HK.out.below hb); replace HB := Lib.hid (HB.out.trans (hb.mono HB.out.size)); replace HR5 := Lib.hid ((HR5.out.below hb).more hb.size); replace HR6 := Lib.hid ((HR6.out.below hb).more hb.size); clear hb)
    | (go_at_call 27; with_reducible refine Calls.mono (RAL.out _ HB.out) ?_; rintro e wx ⟨rfl, hb⟩; replace HK := Lib.hid (HK.out.below hb); replace HB := Lib.hid (HB.out.trans (hb.mono HB.out.size)); replace HR5 := Lib.hid ((HR5.out.below hb).more hb.size); replace HR6 := Lib.hid ((HR6.out.below hb).more hb.size); clear hb)
    | (go_at_call 15; with_reducible refine Calls.mono (CK.out _) ?_; rintro e wx ⟨rfl, hb⟩; replace HK := Lib.hid (HK.out.below hb); replace HB := Lib.hid (HB.out.trans (hb.mono HB.out.size)); replace HR5 := Lib.hid ((HR5.out.below hb).more hb.size); replace HR6 := Lib.hid ((HR6.out.below hb).more hb.size); clear hb)))
  go_wp2
  go_ret
  exact ⟨rfl, HB.out⟩
theorem tells_ (T : Tp) (v : Value) (a b : Int) (A : Option Addr) (l : List L) (c : Nat) (w : World) (hv : TpV w w.heap.size v T) (hs : bigN T ≤ 4000000000000000000) (_ : (Lit.int .i64 a).wf = true) (_ : (Lit.int .i64 b).wf = true) (hr : Rd w w.heap.size A (strs l)) (hl : l.length ≤ 1048576 ∧ ∀ x ∈ l, x.length ≤ 1048576) :
    Calls Try.prog 4 #[v, .int .i64 a, .int .i64 b, .slice A l.length c] w fun e w' => e = .returned (.bool true) ∧ Below w.heap.size w w' := by
  by_cases h : 3000 < bigN T ∨ isT T = false ∨ 20 < l.length
  · exact tells_no T v a b l A c w hv hs hl.1 h
  · rw [not_or, not_or] at h
    exact tells_yes T v a b l A c w hv (by omega) (by simpa using h.2.1) (by omega) hr
end Go.Proofs.Ytnalnhplcchdoaa.RtW
