/-
  The code's Is: a topology.
-/
import Derived.Test.YtnalnhplcchdoaaRtIs2
set_option linter.unusedVariables false
namespace Go.Proofs.Ytnalnhplcchdoaa.Rt
open Go.RowKit Go.Proofs.Ytnalnhplcchdoaa.Mem Go.Proofs.Ytnalnhplcchdoaa.Nm

/-- no row and no text is longer than is looked at -/
structure Sm (T : Tp) : Prop where
  r : T.R.length ≤ 3000
  k : T.K.length ≤ 3000
  p : T.P.length ≤ 3000
  rt : ∀ x ∈ T.R, x.length ≤ 3000
  v : ∀ q ∈ T.P, q.v.length ≤ 3000
  vt : ∀ q ∈ T.P, ∀ x ∈ q.v, x.length ≤ 3000

theorem ist_a {T : Tp} (h : ¬ 1 ≤ T.R.length) : isT T = false := by rw [isT, decide_eq_false h]; rfl
theorem ist_b {T : Tp} (h : ¬ T.R.length ≤ 6) : isT T = false := by rw [isT, decide_eq_false h]; simp
theorem ist_c {T : Tp} (h : ¬ T.K.length ≤ 20) : isT T = false := by rw [isT, decide_eq_false h]; simp
theorem ist_d {T : Tp} (h : ¬ T.P.length ≤ 8) : isT T = false := by rw [isT, decide_eq_false h]; simp
theorem ist_e {T : Tp} (h : realmsB T.R = false) : isT T = false := by rw [isT, h]; simp
theorem ist_f {T : Tp} (h : pairsB T.K T.R = false) : isT T = false := by rw [isT, h]; simp
theorem ist_g {T : Tp} (h1 : 1 ≤ T.R.length) (h2 : T.R.length ≤ 6) (h3 : T.K.length ≤ 20) (h4 : T.P.length ≤ 8) (h5 : realmsB T.R = true) (h6 : pairsB T.K T.R = true) : isT T = pathsB T.P T.R := by
  rw [isT, decide_eq_true h1, decide_eq_true h2, decide_eq_true h3, decide_eq_true h4, h5, h6]; rfl

set_option maxHeartbeats 1600000 in
theorem ist_any (T : Tp) (v : Value) (B : Nat) (w : World) (hs : Sm T) (hv : TpV w B v T) (hB : B ≤ w.heap.size) :
    Calls Try.prog 13 #[v] w fun e w' => e = .returned (.bool (isT T)) ∧ Below w.heap.size w w' := by
  obtain ⟨v1, v2, v3, rfl, ⟨A1, c1, rfl, hc1, r1⟩, ⟨A2, c2, rfl, hc2, r2⟩, ⟨A3, c3, rfl, hc3, r3⟩⟩ := hv
  have H := Lib.hid ((Below.refl w.heap.size w).alloc (Nat.le_refl _) (.cells #[.slice A1 T.R.length c1, .slice A2 T.K.length c2, .slice A3 T.P.length c3] 26))
  have HK := Lib.hid (Blk.new w 26 #[.slice A1 T.R.length c1, .slice A2 T.K.length c2, .slice A3 T.P.length c3])
  obtain ⟨W, eW⟩ : ∃ W, W = w.alloc (.cells #[.slice A1 T.R.length c1, .slice A2 T.K.length c2, .slice A3 T.P.length c3] 26) := ⟨_, rfl⟩
  rw [← eW] at H HK
  have hb := H.out.mono hB
  have C1 := Lib.hid (realms_any T.R A1 c1 B W (by have := hs.r; omega) hc1 (r1.below hb) (fun i hi => by have := hs.rt _ (pl_mem hi); omega))
  have C2 := Lib.hid (fun w1 (hk : Below B W w1) hsz => pairs_any T.K T.R A2 A1 c2 c1 B w1 (by have := hs.k; omega) hc2 (by have := hs.r; omega) ((r2.below hb).below hk) ((r1.below hb).below hk) hsz)
  have C3 := Lib.hid (fun w1 (hk : Below B W w1) hsz => paths_any T.P T.R A3 A1 c3 c1 B w1 (by have := hs.p; omega) (by have := hs.r; omega) (fun q hq => by have := hs.v q hq; omega) ((r3.below hb).below hk) ((r1.below hb).below hk) hsz)
  have HSZ := Lib.hid (show B ≤ W.heap.size from Nat.le_trans hB H.out.size)
  clear hb r1 r2 r3 hB hc1 hc2 hc3
  have A5 := Lib.hid (@ist_a T); have B5 := Lib.hid (@ist_b T); have C5 := Lib.hid (@ist_c T); have D5 := Lib.hid (@ist_d T); have E5 := Lib.hid (@ist_e T); have F5 := Lib.hid (@ist_f T); have G5 := Lib.hid (@ist_g T)
  have s1 := hs.r; have s2 := hs.k; have s3 := hs.p
  obtain ⟨n, en⟩ : ∃ n, n = T.R.length := ⟨_, rfl⟩
  obtain ⟨m, em⟩ : ∃ m, m = T.K.length := ⟨_, rfl⟩
  obtain ⟨k, ek⟩ : ∃ k, k = T.P.length := ⟨_, rfl⟩
  rw [← en, ← em, ← ek] at eW HK
  rw [← en] at C1 C2 C3 s1 A5 B5 G5
  rw [← em] at C2 s2 C5 G5
  rw [← ek] at C3 s3 D5 G5
  rw [← en, ← em, ← ek]
  clear en em ek hs
  subst eW
  by_cases q1 : 1 ≤ n
  · have t1 : decide ((n : Int) < 1) = false := by simp; omega
    by_cases q2 : n ≤ 6
    · have t2 : decide (6 < (n : Int)) = false := by simp; omega
      by_cases q3 : m ≤ 20
      · have t3 : decide (20 < (m : Int)) = false := by simp; omega
        by_cases q4 : k ≤ 8
        · have t4 : decide (8 < (k : Int)) = false := by simp; omega
          cases q5 : realmsB T.R with
          | false =>
            have E := Lib.hid (E5.out q5)
            rw [q5] at C1
            have c4 := C1.out
            clear C1 C2 C3 q5
            go_enter Try.func13, Try.ntmps13
            go_wp2_with (go_at_call 32; refine Calls.mono c4 ?_; rintro e w1 ⟨rfl, hd⟩; clear c4; have H1 := Lib.hid (H.out.trans (hd.below.mono H.out.size)); clear hd)
            go_ret
            exact ⟨by rw [E.out]; rfl, H1.out⟩
          | true =>
            rw [q5] at C1
            have c4 := C1.out
            cases q6 : pairsB T.K T.R with
            | false =>
              have E := Lib.hid (F5.out q6)
              rw [q6] at C2
              clear C1 C3 q5 q6
              go_enter Try.func13, Try.ntmps13
              go_wp2_with (first
                | (go_at_call 32; refine Calls.mono c4 ?_; rintro e w1 ⟨rfl, hd⟩; clear c4; have H1 := Lib.hid (H.out.trans (hd.below.mono H.out.size)); replace HK := Lib.hid (HK.out.below hd.below); have k0 := HK.out.cell 0; have k1 := HK.out.cell 1; have k2 := HK.out.cell 2; simp only [List.getElem?_toArray, List.getElem?_cons_zero, List.getElem?_cons_succ] at k0 k1 k2; have c5 := C2.out w1 (hd.below.mono HSZ.out) (Nat.le_trans HSZ.out hd.below.size); clear hd)
                | (go_at_call 33; refine Calls.mono c5 ?_; rintro e w2 ⟨rfl, hb⟩; clear c5; replace H1 := Lib.hid (H1.out.trans (hb.mono H1.out.size)); clear hb))
              go_ret
              exact ⟨by rw [E.out]; rfl, H1.out⟩
            | true =>
              have E := Lib.hid (G5.out q1 q2 q3 q4 q5 q6)
              rw [q6] at C2
              clear C1 q5 q6
              go_enter Try.func13, Try.ntmps13
              go_wp2_with (first
                | (go_at_call 32; refine Calls.mono c4 ?_; rintro e w1 ⟨rfl, hd⟩; clear c4; have H1 := Lib.hid (H.out.trans (hd.below.mono H.out.size)); replace HK := Lib.hid (HK.out.below hd.below); have k0 := HK.out.cell 0; have k1 := HK.out.cell 1; have k2 := HK.out.cell 2; simp only [List.getElem?_toArray, List.getElem?_cons_zero, List.getElem?_cons_succ] at k0 k1 k2; have c5 := C2.out w1 (hd.below.mono HSZ.out) (Nat.le_trans HSZ.out hd.below.size); have HH := Lib.hid hd.below; clear hd)
                | (go_at_call 33; refine Calls.mono c5 ?_; rintro e w2 ⟨rfl, hb⟩; clear c5 k0 k1 k2; replace H1 := Lib.hid (H1.out.trans (hb.mono H1.out.size)); replace HK := Lib.hid (HK.out.below hb); have k0 := HK.out.cell 0; have k1 := HK.out.cell 1; have k2 := HK.out.cell 2; simp only [List.getElem?_toArray, List.getElem?_cons_zero, List.getElem?_cons_succ] at k0 k1 k2; replace HH := Lib.hid (HH.out.trans (hb.mono HH.out.size)); have c6 := C3.out w2 (HH.out.mono HSZ.out) (Nat.le_trans HSZ.out HH.out.size); clear hb)
                | (go_at_call 34; refine Calls.mono c6 ?_; rintro e w3 ⟨rfl, hb⟩; clear c6; replace H1 := Lib.hid (H1.out.trans (hb.mono H1.out.size)); clear hb))
              go_ret
              exact ⟨by rw [E.out]; rfl, H1.out⟩
        · have t4 : decide (8 < (k : Int)) = true := by simp; omega
          have E := Lib.hid (D5.out q4)
          go_enter Try.func13, Try.ntmps13
          go_wp2
          go_ret
          exact ⟨by rw [E.out]; rfl, H.out⟩
      · have t3 : decide (20 < (m : Int)) = true := by simp; omega
        have E := Lib.hid (C5.out q3)
        go_enter Try.func13, Try.ntmps13
        go_wp2
        go_ret
        exact ⟨by rw [E.out]; rfl, H.out⟩
    · have t2 : decide (6 < (n : Int)) = true := by simp; omega
      have E := Lib.hid (B5.out q2)
      go_enter Try.func13, Try.ntmps13
      go_wp2
      go_ret
      exact ⟨by rw [E.out]; rfl, H.out⟩
  · have t1 : decide ((n : Int) < 1) = true := by simp; omega
    have E := Lib.hid (A5.out q1)
    go_enter Try.func13, Try.ntmps13
    go_wp2
    go_ret
    exact ⟨by rw [E.out]; rfl, H.out⟩
end Go.Proofs.Ytnalnhplcchdoaa.Rt
