/-
  RouteTrees walked.
-/
import Derived.Test.YtnalnhplcchdoaaRtAux
import Derived.Test.YtnalnhplcchdoaaRtTree3
import Derived.Test.YtnalnhplcchdoaaRtMany
import Derived.Test.YtnalnhplcchdoaaRtRef7
import Derived.Test.YtnalnhplcchdoaaRtWalk
import Derived.Deep.RegionHeld3
set_option linter.unusedVariables false
namespace Go.Proofs.Ytnalnhplcchdoaa.RtW
open Go.RowKit Go.Proofs.Ytnalnhplcchdoaa.Mem Go.Proofs.Ytnalnhplcchdoaa.Nm Go.Proofs.Ytnalnhplcchdoaa.Rt

theorem own_set {w : World} {base g j : Nat} {v u : Value} {ls : List L} (h : Own w base v ls) (hg : g < base) : Own (w.setCell ⟨g, j, none⟩ u) base v ls :=
  owns_heap h fun b hb => Below.heap_setCell w _ u b (fun e => by have h1 := (h.lt b hb).1; simp only at e; omega)
theorem ownp_set {w : World} {base g j : Nat} {v u : Value} {K : List Pr} (h : OwnP w base v K) (hg : g < base) : OwnP (w.setCell ⟨g, j, none⟩ u) base v K :=
  owns_heap h fun b hb => Below.heap_setCell w _ u b (fun e => by have h1 := (h.lt b hb).1; simp only at e; omega)
theorem own_under {w w2 : World} {base M : Nat} {v : Value} {ls : List L} (h : Own w base v ls) (hb : Below M w w2) (hm : ∀ g, v.ownBlock = some g → g < M) : Own w2 base v ls :=
  owns_heap h fun g hg => hb.block g (hm g hg)
theorem below_set {w w2 : World} {g j : Nat} {u : Value} (h : Below w.heap.size w w2) (hg : w.heap.size ≤ g) : Below w.heap.size w (w2.setCell ⟨g, j, none⟩ u) :=
  below_of_g (g_set (g_of_below h none) (.inr hg) u)
set_option maxHeartbeats 6400000 in
set_option maxRecDepth 100000 in
theorem trees_few (A : Option Addr) (l : List L) (c : Nat) (a b : Int) (w : World) (hr : Rd w w.heap.size A (strs l)) (hcnt : l.length ≤ 60) (hl : l.length ≤ 9000000000000) :
    Calls Try.prog 6 #[.slice A l.length c, .int .i64 a, .int .i64 b] w fun e w' => e = .returned (.bool true) ∧ Below w.heap.size w w' := by
  obtain ⟨N, eN⟩ : ∃ N, N = w.heap.size := ⟨_, rfl⟩
  have HB0 := Lib.hid (show Below N w (w.alloc (.cells #[.slice none 0 0, .slice none 0 0, .slice none 0 0] 26)) by rw [eN]; exact (Below.refl _ _).alloc (Nat.le_refl _) _)
  have HK0 := Lib.hid (Blk.new w 26 #[.slice none 0 0, .slice none 0 0, .slice none 0 0])
  have EN0 := Lib.hid eN
  have HSZ := Lib.hid (show ∀ w1 : World, Below N w w1 → N ≤ w1.heap.size from fun w1 h => by have := h.size; have := EN0.out; omega)
  have HRL := Lib.hid (fun w1 (h : Below N w w1) => (by rw [← eN] at hr; exact hr.below h : Rd w1 N A (strs l)))
  have RIS := Lib.hid (fun (x : L) (hx : x.length ≤ 60) w1 => ris_any x w1 (by omega))
  have RUP := Lib.hid (fun (x : L) (hx : x.length ≤ 60) w1 => rup_any x w1 (by omega))
  have CK := Lib.hid (fun w1 => known_any w1)
  obtain ⟨n, en⟩ : ∃ n, n = l.length := ⟨_, rfl⟩
  rw [← en] at hl hcnt ⊢
  have EN := Lib.hid en
  clear en hr eN
  go_enter Try.func6, Try.ntmps6
  go_wp2
  go_loopw [8] (fun iv wr => ∃ (i : Nat) (R : List L) (vR : Value), i ≤ n ∧ i ≤ 60 ∧ iv = .int .i64 (i : Int) ∧ Blk wr w.heap.size 26 #[vR, .slice none 0 0, .slice none 0 0] ∧ Own wr (N + 1) vR R ∧ UpC R [] ∧ R.length ≤ 4 * i ∧ Below N w wr) (fun iv _ => 60 - (intOf iv).toNat)
  case atStart => exact ⟨0, [], _, Nat.zero_le _, by omega, rfl, HK0.out, Own.nil _ _, upc_nil, by simp, HB0.out⟩
  case round =>
    obtain ⟨i, R, vR, hin, hi60, rfl, hk, ho, hu, hrl, hb⟩ := hrel
    have HK := Lib.hid hk; have HO := Lib.hid ho; have HU := Lib.hid hu; have HL := Lib.hid hrl; have HB := Lib.hid hb; clear hk ho hu hrl hb HK0 HB0
    by_cases hlt : i < n ∧ i < 60
    · have e1 : decide ((i : Int) < (n : Int)) = true := decide_eq_true (by omega)
      have e1' : (i : Int) < (n : Int) := by omega
      have e2 : (0 : Int) ≤ (i : Int) := by omega
      have e3 : decide ((i : Int) < 60) = true := decide_eq_true (by omega)
      have him : i < l.length := by rw [← EN.out]; exact hlt.1
      have HC := Lib.hid (fun w1 h => rd_txt (HRL.out w1 h) him)
      obtain ⟨b1, o, rfl, _, h1⟩ := HC.out wr HB.out
      obtain ⟨x, ex⟩ : ∃ x, x = pl l i := ⟨_, rfl⟩
      rw [← ex] at h1 HC
      clear him ex
      by_cases h60 : 60 < x.length
      · have t1 : decide ((60 : Int) < (x.length : Int)) = true := decide_eq_true (by omega)
        go_wp2
        go_ret
        exact ⟨rfl, by rw [← EN0.out]; exact HB.out⟩
      · have t1 : decide ((60 : Int) < (x.length : Int)) = false := decide_eq_false (by omega)
        have hx60 : x.length ≤ 60 := by omega
        have c1 := RIS.out x hx60
        cases hx : isL x with
        | false =>
          rw [hx] at c1
          go_wp2_with (go_at_call 29; refine Calls.mono (c1 _) ?_; rintro e w1 ⟨rfl, hb⟩; clear c1; have H1 := Lib.hid (HB.out.trans (hb.mono (HSZ.out _ HB.out))); clear hb)
          go_ret
          exact ⟨rfl, by rw [← EN0.out]; exact H1.out⟩
        | true =>
          rw [hx] at c1
          have hkx : kindL x ≠ 0 := by have := hx; simp only [isL, decide_eq_true_eq] at this; omega
          go_wp2_with (go_at_call 29; refine Calls.mono (c1 _) ?_; rintro e w1 ⟨rfl, hb⟩; clear c1; have H1 := Lib.hid (HB.out.trans (hb.mono (HSZ.out _ HB.out))); have HK1 := Lib.hid (HK.out.below hb); have HO1 := Lib.hid (HO.out.below hb); clear hb; obtain ⟨b9, o9, e9, _, h9⟩ := HC.out w1 H1.out; injection e9 with e9; injection e9 with e9 e9'; subst e9; subst e9')
          have hx0 : pl (ch x) 0 = x := ch_zero (ne_of_kind hkx)
          have hch4 := ch_len x
          have HI6 := Lib.hid hlt
          clear h1 h9 hx h60 hlt t1
          go_loopg [9] (ch x).length (fun g sv wr => ∃ (j : Nat) (R : List L) (vR : Value), j + g = (ch x).length ∧ sv = .string ⟨(pl (ch x) j).toArray⟩ ∧ Blk wr w.heap.size 26 #[vR, .slice none 0 0, .slice none 0 0] ∧ Own wr (N + 1) vR R ∧ UpC R ((ch x).drop j) ∧ R.length ≤ 4 * i + j ∧ Below N w wr)
          case atStart => exact ⟨0, R, vR, Nat.zero_add _, by rw [hx0], HK1.out, HO1.out, upc_more HU.out, HL.out, H1.out⟩
          case round =>
            clear HK1 HO1 H1 HU HL HK HO HB
            obtain ⟨j, R, vR, hjg, rfl, hk, ho, hu, hrl, hb⟩ := hrel
            have HK := Lib.hid hk; have HO := Lib.hid ho; have HU := Lib.hid hu; have HL := Lib.hid hrl; have HB := Lib.hid hb; have HJ := Lib.hid hjg; clear hk ho hu hrl hb hjg
            by_cases hlj : j < (ch x).length
            · have hym := pl_mem hlj
              have hyl := Nat.le_trans (mem_len hym) hx60
              have t1 : (pl (ch x) j == []) = false := by have := mem_ne hym; simpa using this
              have c3 := RUP.out (pl (ch x) j) hyl
              rw [up_at x hlj] at c3
              have HLT := Lib.hid (fun R h => @upc_there R x j h hlj); have HLD := Lib.hid (fun R h => @upc_laid R x j h hlj hkx hx60)
              obtain ⟨y, ey⟩ : ∃ y, y = pl (ch x) j := ⟨_, rfl⟩
              rw [← ey] at t1 c3 HLT HLD ⊢
              clear hym hyl ey
              obtain ⟨A5, c5, e5, r5⟩ := HO.out.slice
              subst e5
              have c2 := place_any R A5 c5 wr.heap.size y wr (by have := HL.out; omega) r5
              have k0 : wr.cell? ⟨w.heap.size, 0, none⟩ = some (.slice A5 R.length c5) := HK.out.cell 0
              clear r5
              by_cases hm : y ∈ R
              · obtain ⟨z, ez, hz⟩ := place_in hm
                rw [← ez] at c2
                have z1 : decide (z < 0) = false := decide_eq_false (by omega)
                have E := Lib.hid (HLT.out R HU.out hm)
                clear ez hz hm
                go_wp2_with (first
                  | (go_at_call 28; refine Calls.mono c2 ?_; rintro e wp ⟨rfl, rfl⟩; clear c2)
                  | (go_at_call 30; refine Calls.mono (c3 _) ?_; rintro e w5 ⟨rfl, hb⟩; clear c3; have HK5 := Lib.hid (HK.out.below hb); have HO5 := Lib.hid (HO.out.below hb); have H5 := Lib.hid (HB.out.trans (hb.mono (HSZ.out _ HB.out))); clear hb))
                go_roundg ((ch x).length - (j + 1))
                case measure => have := HJ.out; omega
                case rel => exact ⟨j + 1, R, _, by have := HJ.out; omega, rfl, HK5.out, HO5.out, E.out, by have := HL.out; omega, H5.out⟩
              · obtain ⟨z, ez, hz⟩ := place_out hm
                rw [← ez] at c2
                have z1 : decide (z < 0) = true := decide_eq_true hz
                have E := Lib.hid (HLD.out R HU.out)
                clear ez hz hm
                go_wp2_with (first
                  | (go_at_call 28; refine Calls.mono c2 ?_; rintro e wp ⟨rfl, rfl⟩; clear c2)
                  | (at_builtin; refine app_one rfl (.tmp 58) (.tmp 60) rfl (N + 1) _ R rfl HO.out y rfl (by have := HL.out; omega) (by have := HK.out.lt; have := EN0.out; omega) ?_; intro v2 w2 ho2 hb2; have HK2 := Lib.hid (show Blk w2 w.heap.size 26 _ from (hb2.block _ (by have := EN0.out; omega)).trans HK.out); have H2 := Lib.hid (HB.out.trans (hb2.mono (by omega))); have HO2 := Lib.hid ho2; obtain ⟨A6, c6, e6, _⟩ := ho2.slice; subst e6; have f0 := HK2.out.frozen 0; have k9 := HK2.out.cell 0; simp only [List.getElem?_toArray, List.getElem?_cons_zero] at k9; have HK3 := Lib.hid (HK2.out.set 0 (.slice A6 (R ++ [y]).length c6)); have HO3 := Lib.hid (own_set (j := 0) (u := .slice A6 (R ++ [y]).length c6) HO2.out (show w.heap.size < N + 1 by have := EN0.out; omega)); have H3 := Lib.hid (below_set (j := 0) (u := .slice A6 (R ++ [y]).length c6) (EN0.out ▸ H2.out) (Nat.le_refl _)); clear hb2 ho2 k0)
                  | (go_at_call 30; refine Calls.mono (c3 _) ?_; rintro e w5 ⟨rfl, hb⟩; clear c3))
                rw [show R.length + 1 = (R ++ [y]).length by simp] at hb
                have HK5 := Lib.hid (HK3.out.below hb)
                have HO5 := Lib.hid (HO3.out.below hb)
                have H5 := Lib.hid (H3.out.trans (hb.mono H3.out.size))
                clear hb
                go_roundg ((ch x).length - (j + 1))
                case measure => have := HJ.out; omega
                case rel => exact ⟨j + 1, R ++ [y], _, by have := HJ.out; omega, rfl, HK5.out, HO5.out, E.out, by have := HL.out; simp; omega, by rw [EN0.out]; exact H5.out⟩
            · have t0 : pl (ch x) j = [] := pl_ge (by omega)
              have E := Lib.hid (upc_end HU.out (by omega))
              rw [t0]
              clear t0
              go_wp2
              go_roundw
              case rel => exact ⟨i + 1, R, vR, by have := HI6.out; omega, by have := HI6.out; omega, by go_num, HK.out, HO.out, E.out, by have := HL.out; have := HJ.out; omega, HB.out⟩
              case measure => have := HI6.out; simp [intOf]; omega
    · have e1 : decide ((i : Int) < (n : Int)) = false := decide_eq_false (by omega)
      have e1' : ¬ (i : Int) < (n : Int) := by omega
      have hr4 : R.length ≤ 240 := by have := HL.out; omega
      clear hlt
      obtain ⟨A5, c5, e5, r5⟩ := HO.out.slice
      subst e5
      obtain ⟨M, eM⟩ : ∃ M, M = wr.heap.size := ⟨_, rfl⟩
      have HM := Lib.hid (show N + 1 ≤ M by rw [eM]; have := HK.out.lt; have := EN0.out; omega)
      have HMS := Lib.hid (show M ≤ wr.heap.size by omega)
      have HOM := Lib.hid (show ∀ g, (Value.slice A5 R.length c5).ownBlock = some g → g < M from fun g hg => by rw [eM]; exact (HO.out.lt g hg).2)
      clear r5 eM
      go_wp2
      go_loopw [10] (fun iv wr => ∃ (i : Nat) (K : List Pr) (vK : Value), i ≤ R.length ∧ iv = .int .i64 (i : Int) ∧ Blk wr w.heap.size 26 #[.slice A5 R.length c5, vK, .slice none 0 0] ∧ Own wr (N + 1) (.slice A5 R.length c5) R ∧ OwnP wr M vK K ∧ KC R i 0 K ∧ K.length ≤ i * R.length ∧ M ≤ wr.heap.size ∧ Below N w wr) (fun iv _ => R.length - (intOf iv).toNat)
      case atStart => exact ⟨0, [], _, Nat.zero_le _, rfl, HK.out, HO.out, OwnP.nil _ _, kc_zero R, Nat.zero_le _, HMS.out, HB.out⟩
      case round =>
        clear HK HO HB HMS HL e1 e1' hin hi60
        obtain ⟨i, K, vK, hin, rfl, hk, ho, hp, hkc, hkl, hms, hb⟩ := hrel
        have HK := Lib.hid hk; have HO := Lib.hid ho; have HP := Lib.hid hp; have HC := Lib.hid hkc; have HL := Lib.hid hkl; have HMS := Lib.hid hms; have HB := Lib.hid hb; clear hk ho hp hkc hkl hms hb
        have k0 : wr.cell? ⟨w.heap.size, 0, none⟩ = some (.slice A5 R.length c5) := HK.out.cell 0
        by_cases hlt : i < R.length
        · have e1 : decide ((i : Int) < (R.length : Int)) = true := decide_eq_true (by omega)
          go_wp2
          go_loopw [11] (fun iv wr => ∃ (k : Nat) (K : List Pr) (vK : Value), k ≤ R.length ∧ iv = .int .i64 (k : Int) ∧ Blk wr w.heap.size 26 #[.slice A5 R.length c5, vK, .slice none 0 0] ∧ Own wr (N + 1) (.slice A5 R.length c5) R ∧ OwnP wr M vK K ∧ KC R i k K ∧ K.length ≤ i * R.length + k ∧ M ≤ wr.heap.size ∧ Below N w wr) (fun iv _ => R.length - (intOf iv).toNat)
          case atStart => exact ⟨0, K, _, Nat.zero_le _, rfl, HK.out, HO.out, HP.out, HC.out, HL.out, HMS.out, HB.out⟩
          case round =>
            clear HK HO HP HC HL HMS HB k0
            obtain ⟨k, K, vK, hkn, rfl, hk, ho, hp, hkc, hkl, hms, hb⟩ := hrel
            have HK := Lib.hid hk; have HO := Lib.hid ho; have HP := Lib.hid hp; have HC := Lib.hid hkc; have HL := Lib.hid hkl; have HMS := Lib.hid hms; have HB := Lib.hid hb; clear hk ho hp hkc hkl hms hb
            have k0 : wr.cell? ⟨w.heap.size, 0, none⟩ = some (.slice A5 R.length c5) := HK.out.cell 0
            by_cases hlk : k < R.length
            · have e2 : decide ((k : Int) < (R.length : Int)) = true := decide_eq_true (by omega)
              have e3 : (0 : Int) ≤ (i : Int) := by omega
              have e4 : (i : Int) < (R.length : Int) := by omega
              have e5 : (0 : Int) ≤ (k : Int) := by omega
              have e6 : (k : Int) < (R.length : Int) := by omega
              obtain ⟨A9, c9, e9, r5⟩ := HO.out.slice
              cases e9
              obtain ⟨b1, o, e9, _, h1⟩ := rd_txt r5 hlt
              subst e9
              obtain ⟨b2, o2, e9, _, h2⟩ := rd_txt r5 hlk
              cases e9
              obtain ⟨x, ex⟩ : ∃ x, x = pl R i := ⟨_, rfl⟩
              obtain ⟨y, ey⟩ : ∃ y, y = pl R k := ⟨_, rfl⟩
              rw [← ex] at h1
              rw [← ey] at h2
              have hx60 : x.length ≤ 60 := by rw [ex]; exact HU.out.len _ (pl_mem hlt)
              have hy60 : y.length ≤ 60 := by rw [ey]; exact HU.out.len _ (pl_mem hlk)
              have HCN := Lib.hid (show Cond R i k ↔ (upL x = y ∨ upL y = x ∨ (i ≠ k ∧ upL x = [] ∧ upL y = [])) by rw [ex, ey]; exact Iff.rfl)
              have HKL := Lib.hid (show K.length ≤ 60000 by have h1 := HL.out; have h2 : i * R.length ≤ 240 * 240 := Nat.mul_le_mul (by omega) hr4; omega)
              have HYES := Lib.hid (show Cond R i k → KC R i (k + 1) (K ++ [(x, y)]) by rw [ex, ey]; exact kc_yes HC.out)
              have HNO := Lib.hid (show ¬ Cond R i k → KC R i (k + 1) K from kc_no HC.out)
              have HNX := Lib.hid (show x ≠ [] by rw [ex]; exact ne_of_kind (HU.out.real _ (pl_mem hlt)))
              have HNY := Lib.hid (show y ≠ [] by rw [ey]; exact ne_of_kind (HU.out.real _ (pl_mem hlk)))
              clear ex ey r5
              go_wp2
              go_quiet (fail)
              clear h1 h2 k0
              by_cases q1 : upL x = y
              · have t1 : (upL x == y) = true := by simpa using q1
                have E := Lib.hid (HYES.out (HCN.out.2 (.inl q1)))
                go_wp2_with (first
                  | (go_at_call 30; refine Calls.mono (RUP.out _ (by assumption) _) ?_; rintro e w5 ⟨rfl, hb⟩; first | (replace HK := Lib.hid (HK.out.below hb); replace HO := Lib.hid (HO.out.below hb); replace HP := Lib.hid (HP.out.below hb); replace HMS := Lib.hid (Nat.le_trans HMS.out hb.size); replace HB := Lib.hid (HB.out.trans (hb.mono (HSZ.out _ HB.out))); clear hb; (try clear k1); have k1 : w5.cell? ⟨w.heap.size, 1, none⟩ = some vK := HK.out.cell 1) | (replace hb := (below_drewN (Below.refl wr.heap.size wr) _).trans hb; replace HK := Lib.hid (HK.out.below hb); replace HO := Lib.hid (HO.out.below hb); replace HP := Lib.hid (HP.out.below hb); replace HMS := Lib.hid (Nat.le_trans HMS.out hb.size); replace HB := Lib.hid (HB.out.trans (hb.mono (HSZ.out _ HB.out))); clear hb; (try clear k1); have k1 : w5.cell? ⟨w.heap.size, 1, none⟩ = some vK := HK.out.cell 1))
                  | (at_builtin; refine papp_one rfl (.tmp 113) (.tmp 117) rfl M _ K rfl HP.out (x, y) rfl (by have := HKL.out; omega) HMS.out ?_; intro v2 w2 hp2 hb2; have HK2 := Lib.hid (show Blk w2 w.heap.size 26 _ from (hb2.block _ (by have := EN0.out; have := HM.out; omega)).trans HK.out); have HO2 := Lib.hid (own_under HO.out hb2 HOM.out); have H2 := Lib.hid (HB.out.trans (hb2.mono (by have := HM.out; omega))); have HP2 := Lib.hid hp2; have HMS2 := Lib.hid (Nat.le_trans HMS.out hb2.size); obtain ⟨A6, c6, e6, _⟩ := hp2.slice; subst e6; have f0 := HK2.out.frozen 1; have k9 := HK2.out.cell 1; simp only [List.getElem?_toArray, List.getElem?_cons_zero, List.getElem?_cons_succ] at k9; clear hb2 hp2 k1))
                have HK3 := Lib.hid (HK2.out.set 1 (.slice A6 (K.length + 1) c6))
                have HO3 := Lib.hid (own_set (j := 1) (u := .slice A6 (K.length + 1) c6) HO2.out (show w.heap.size < N + 1 by have := EN0.out; omega))
                have HP3 := Lib.hid (ownp_set (j := 1) (u := .slice A6 (K.length + 1) c6) HP2.out (show w.heap.size < M by have := EN0.out; have := HM.out; omega))
                have H3 := Lib.hid (below_set (j := 1) (u := .slice A6 (K.length + 1) c6) (EN0.out ▸ H2.out) (Nat.le_refl _))
                have HMS3 := Lib.hid (Nat.le_trans HMS2.out (g_set (p := ⟨w.heap.size, 1, none⟩) (g_of_below (Below.refl w2.heap.size w2) (some w.heap.size)) (.inl rfl) (.slice A6 (K.length + 1) c6)).size)
                go_roundw
                case rel => exact ⟨k + 1, K ++ [(x, y)], .slice A6 (K.length + 1) c6, by omega, by go_num, HK3.out, HO3.out, (by rw [show K.length + 1 = (K ++ [(x, y)]).length by simp]; rw [show K.length + 1 = (K ++ [(x, y)]).length by simp] at HP3; exact HP3.out), E.out, by have := HL.out; simp; omega, HMS3.out, by rw [EN0.out]; exact H3.out⟩
                case measure => simp [intOf]; omega
              · have t1 : (upL x == y) = false := by simpa using q1
                by_cases q2 : upL y = x
                · have t2 : (upL y == x) = true := by simpa using q2
                  have E := Lib.hid (HYES.out (HCN.out.2 (.inr (.inl q2))))
                  go_wp2_with (first
                    | (go_at_call 30; refine Calls.mono (RUP.out _ (by assumption) _) ?_; rintro e w5 ⟨rfl, hb⟩; first | (replace HK := Lib.hid (HK.out.below hb); replace HO := Lib.hid (HO.out.below hb); replace HP := Lib.hid (HP.out.below hb); replace HMS := Lib.hid (Nat.le_trans HMS.out hb.size); replace HB := Lib.hid (HB.out.trans (hb.mono (HSZ.out _ HB.out))); clear hb; (try clear k1); have k1 : w5.cell? ⟨w.heap.size, 1, none⟩ = some vK := HK.out.cell 1) | (replace hb := (below_drewN (Below.refl wr.heap.size wr) _).trans hb; replace HK := Lib.hid (HK.out.below hb); replace HO := Lib.hid (HO.out.below hb); replace HP := Lib.hid (HP.out.below hb); replace HMS := Lib.hid (Nat.le_trans HMS.out hb.size); replace HB := Lib.hid (HB.out.trans (hb.mono (HSZ.out _ HB.out))); clear hb; (try clear k1); have k1 : w5.cell? ⟨w.heap.size, 1, none⟩ = some vK := HK.out.cell 1))
                    | (at_builtin; refine papp_one rfl (.tmp 113) (.tmp 117) rfl M _ K rfl HP.out (x, y) rfl (by have := HKL.out; omega) HMS.out ?_; intro v2 w2 hp2 hb2; have HK2 := Lib.hid (show Blk w2 w.heap.size 26 _ from (hb2.block _ (by have := EN0.out; have := HM.out; omega)).trans HK.out); have HO2 := Lib.hid (own_under HO.out hb2 HOM.out); have H2 := Lib.hid (HB.out.trans (hb2.mono (by have := HM.out; omega))); have HP2 := Lib.hid hp2; have HMS2 := Lib.hid (Nat.le_trans HMS.out hb2.size); obtain ⟨A6, c6, e6, _⟩ := hp2.slice; subst e6; have f0 := HK2.out.frozen 1; have k9 := HK2.out.cell 1; simp only [List.getElem?_toArray, List.getElem?_cons_zero, List.getElem?_cons_succ] at k9; clear hb2 hp2 k1))
                  have HK3 := Lib.hid (HK2.out.set 1 (.slice A6 (K.length + 1) c6))
                  have HO3 := Lib.hid (own_set (j := 1) (u := .slice A6 (K.length + 1) c6) HO2.out (show w.heap.size < N + 1 by have := EN0.out; omega))
                  have HP3 := Lib.hid (ownp_set (j := 1) (u := .slice A6 (K.length + 1) c6) HP2.out (show w.heap.size < M by have := EN0.out; have := HM.out; omega))
                  have H3 := Lib.hid (below_set (j := 1) (u := .slice A6 (K.length + 1) c6) (EN0.out ▸ H2.out) (Nat.le_refl _))
                  have HMS3 := Lib.hid (Nat.le_trans HMS2.out (g_set (p := ⟨w.heap.size, 1, none⟩) (g_of_below (Below.refl w2.heap.size w2) (some w.heap.size)) (.inl rfl) (.slice A6 (K.length + 1) c6)).size)
                  go_roundw
                  case rel => exact ⟨k + 1, K ++ [(x, y)], .slice A6 (K.length + 1) c6, by omega, by go_num, HK3.out, HO3.out, (by rw [show K.length + 1 = (K ++ [(x, y)]).length by simp]; rw [show K.length + 1 = (K ++ [(x, y)]).length by simp] at HP3; exact HP3.out), E.out, by have := HL.out; simp; omega, HMS3.out, by rw [EN0.out]; exact H3.out⟩
                  case measure => simp [intOf]; omega
                · have t2 : (upL y == x) = false := by simpa using q2
                  by_cases q3 : i = k
                  · have E := Lib.hid (HNO.out (fun h => (HCN.out.1 h).elim q1 fun h => h.elim q2 fun h => h.1 q3))
                    have t3 : ((i : Int) != (k : Int)) = false := by rw [q3]; simp
                    clear q3
                    go_wp2_with (first
                      | (go_at_call 30; refine Calls.mono (RUP.out _ (by assumption) _) ?_; rintro e w5 ⟨rfl, hb⟩; first | (replace HK := Lib.hid (HK.out.below hb); replace HO := Lib.hid (HO.out.below hb); replace HP := Lib.hid (HP.out.below hb); replace HMS := Lib.hid (Nat.le_trans HMS.out hb.size); replace HB := Lib.hid (HB.out.trans (hb.mono (HSZ.out _ HB.out))); clear hb) | (replace hb := (below_drewN (Below.refl wr.heap.size wr) _).trans hb; replace HK := Lib.hid (HK.out.below hb); replace HO := Lib.hid (HO.out.below hb); replace HP := Lib.hid (HP.out.below hb); replace HMS := Lib.hid (Nat.le_trans HMS.out hb.size); replace HB := Lib.hid (HB.out.trans (hb.mono (HSZ.out _ HB.out))); clear hb)))
                    go_roundw
                    case rel => exact ⟨k + 1, K, vK, by omega, by go_num, HK.out, HO.out, HP.out, E.out, by have := HL.out; omega, HMS.out, HB.out⟩
                    case measure => simp [intOf]; omega
                  · have t3 : ((i : Int) != (k : Int)) = true := by simp; omega
                    by_cases q4 : upL x = []
                    · have t4 : (upL x == []) = true := by simpa using q4
                      by_cases q5 : upL y = []
                      · have t5 : (upL y == []) = true := by simpa using q5
                        have E := Lib.hid (HYES.out (HCN.out.2 (.inr (.inr ⟨q3, q4, q5⟩))))
                        clear q1 q2 q3 q4 q5
                        have n1 : ¬ x = [] := HNX.out
                        have n2 : ¬ y = [] := HNY.out
                        have n3 : ¬ [] = x := fun g => HNX.out g.symm
                        have n4 : ¬ [] = y := fun g => HNY.out g.symm
                        have n5 : (x == []) = false := by simpa using n1
                        have n6 : (y == []) = false := by simpa using n2
                        have n7 : (([] : L) == x) = false := by simpa using n3
                        have n8 : (([] : L) == y) = false := by simpa using n4
                        go_wp2_with (first
                          | (go_at_call 30; refine Calls.mono (RUP.out _ (by assumption) _) ?_; rintro e w5 ⟨rfl, hb⟩; first | (replace HK := Lib.hid (HK.out.below hb); replace HO := Lib.hid (HO.out.below hb); replace HP := Lib.hid (HP.out.below hb); replace HMS := Lib.hid (Nat.le_trans HMS.out hb.size); replace HB := Lib.hid (HB.out.trans (hb.mono (HSZ.out _ HB.out))); clear hb; (try clear k1); have k1 : w5.cell? ⟨w.heap.size, 1, none⟩ = some vK := HK.out.cell 1) | (replace hb := (below_drewN (Below.refl wr.heap.size wr) _).trans hb; replace HK := Lib.hid (HK.out.below hb); replace HO := Lib.hid (HO.out.below hb); replace HP := Lib.hid (HP.out.below hb); replace HMS := Lib.hid (Nat.le_trans HMS.out hb.size); replace HB := Lib.hid (HB.out.trans (hb.mono (HSZ.out _ HB.out))); clear hb; (try clear k1); have k1 : w5.cell? ⟨w.heap.size, 1, none⟩ = some vK := HK.out.cell 1))
                          | (at_builtin; refine papp_one rfl (.tmp 113) (.tmp 117) rfl M _ K rfl HP.out (x, y) rfl (by have := HKL.out; omega) HMS.out ?_; intro v2 w2 hp2 hb2; have HK2 := Lib.hid (show Blk w2 w.heap.size 26 _ from (hb2.block _ (by have := EN0.out; have := HM.out; omega)).trans HK.out); have HO2 := Lib.hid (own_under HO.out hb2 HOM.out); have H2 := Lib.hid (HB.out.trans (hb2.mono (by have := HM.out; omega))); have HP2 := Lib.hid hp2; have HMS2 := Lib.hid (Nat.le_trans HMS.out hb2.size); obtain ⟨A6, c6, e6, _⟩ := hp2.slice; subst e6; have f0 := HK2.out.frozen 1; have k9 := HK2.out.cell 1; simp only [List.getElem?_toArray, List.getElem?_cons_zero, List.getElem?_cons_succ] at k9; clear hb2 hp2 k1))
                        have HK3 := Lib.hid (HK2.out.set 1 (.slice A6 (K.length + 1) c6))
                        have HO3 := Lib.hid (own_set (j := 1) (u := .slice A6 (K.length + 1) c6) HO2.out (show w.heap.size < N + 1 by have := EN0.out; omega))
                        have HP3 := Lib.hid (ownp_set (j := 1) (u := .slice A6 (K.length + 1) c6) HP2.out (show w.heap.size < M by have := EN0.out; have := HM.out; omega))
                        have H3 := Lib.hid (below_set (j := 1) (u := .slice A6 (K.length + 1) c6) (EN0.out ▸ H2.out) (Nat.le_refl _))
                        have HMS3 := Lib.hid (Nat.le_trans HMS2.out (g_set (p := ⟨w.heap.size, 1, none⟩) (g_of_below (Below.refl w2.heap.size w2) (some w.heap.size)) (.inl rfl) (.slice A6 (K.length + 1) c6)).size)
                        go_roundw
                        case rel => exact ⟨k + 1, K ++ [(x, y)], .slice A6 (K.length + 1) c6, by omega, by go_num, HK3.out, HO3.out, (by rw [show K.length + 1 = (K ++ [(x, y)]).length by simp]; rw [show K.length + 1 = (K ++ [(x, y)]).length by simp] at HP3; exact HP3.out), E.out, by have := HL.out; simp; omega, HMS3.out, by rw [EN0.out]; exact H3.out⟩
                        case measure => simp [intOf]; omega
                      · have t5 : (upL y == []) = false := by simpa using q5
                        have E := Lib.hid (HNO.out (fun h => (HCN.out.1 h).elim q1 fun h => h.elim q2 fun h => q5 h.2.2))
                        clear q1 q2 q3 q4 q5
                        have n1 : ¬ x = [] := HNX.out
                        have n2 : ¬ y = [] := HNY.out
                        have n3 : ¬ [] = x := fun g => HNX.out g.symm
                        have n4 : ¬ [] = y := fun g => HNY.out g.symm
                        have n5 : (x == []) = false := by simpa using n1
                        have n6 : (y == []) = false := by simpa using n2
                        have n7 : (([] : L) == x) = false := by simpa using n3
                        have n8 : (([] : L) == y) = false := by simpa using n4
                        go_wp2_with (first
                          | (go_at_call 30; refine Calls.mono (RUP.out _ (by assumption) _) ?_; rintro e w5 ⟨rfl, hb⟩; first | (replace HK := Lib.hid (HK.out.below hb); replace HO := Lib.hid (HO.out.below hb); replace HP := Lib.hid (HP.out.below hb); replace HMS := Lib.hid (Nat.le_trans HMS.out hb.size); replace HB := Lib.hid (HB.out.trans (hb.mono (HSZ.out _ HB.out))); clear hb) | (replace hb := (below_drewN (Below.refl wr.heap.size wr) _).trans hb; replace HK := Lib.hid (HK.out.below hb); replace HO := Lib.hid (HO.out.below hb); replace HP := Lib.hid (HP.out.below hb); replace HMS := Lib.hid (Nat.le_trans HMS.out hb.size); replace HB := Lib.hid (HB.out.trans (hb.mono (HSZ.out _ HB.out))); clear hb)))
                        go_roundw
                        case rel => exact ⟨k + 1, K, vK, by omega, by go_num, HK.out, HO.out, HP.out, E.out, by have := HL.out; omega, HMS.out, HB.out⟩
                        case measure => simp [intOf]; omega
                    · have t4 : (upL x == []) = false := by simpa using q4
                      have E := Lib.hid (HNO.out (fun h => (HCN.out.1 h).elim q1 fun h => h.elim q2 fun h => q4 h.2.1))
                      go_wp2_with (first
                        | (go_at_call 30; refine Calls.mono (RUP.out _ (by assumption) _) ?_; rintro e w5 ⟨rfl, hb⟩; first | (replace HK := Lib.hid (HK.out.below hb); replace HO := Lib.hid (HO.out.below hb); replace HP := Lib.hid (HP.out.below hb); replace HMS := Lib.hid (Nat.le_trans HMS.out hb.size); replace HB := Lib.hid (HB.out.trans (hb.mono (HSZ.out _ HB.out))); clear hb) | (replace hb := (below_drewN (Below.refl wr.heap.size wr) _).trans hb; replace HK := Lib.hid (HK.out.below hb); replace HO := Lib.hid (HO.out.below hb); replace HP := Lib.hid (HP.out.below hb); replace HMS := Lib.hid (Nat.le_trans HMS.out hb.size); replace HB := Lib.hid (HB.out.trans (hb.mono (HSZ.out _ HB.out))); clear hb)))
                      go_roundw
                      case rel => exact ⟨k + 1, K, vK, by omega, by go_num, HK.out, HO.out, HP.out, E.out, by have := HL.out; omega, HMS.out, HB.out⟩
                      case measure => simp [intOf]; omega
            · have e2 : decide ((k : Int) < (R.length : Int)) = false := decide_eq_false (by omega)
              go_wp2
              go_roundw
              case rel => exact ⟨i + 1, K, vK, by omega, by go_num, HK.out, HO.out, HP.out, kc_row HC.out (by omega), by have := HL.out; rw [Nat.succ_mul]; omega, HMS.out, HB.out⟩
              case measure => simp [intOf]; omega
        · have e1 : decide ((i : Int) < (R.length : Int)) = false := decide_eq_false (by omega)
          have ei : i = R.length := by omega
          subst ei
          clear e1 hlt hin
          obtain ⟨A8, c8, e8, _⟩ := HP.out.slice
          subst e8
          obtain ⟨T, eT⟩ : ∃ T, T = (⟨R, K, []⟩ : Tp) := ⟨_, rfl⟩
          have hv : TpV wr wr.heap.size (.agg #[.slice A5 R.length c5, .slice A8 K.length c8, .slice none 0 0]) T := by rw [eT]; exact ⟨_, _, _, rfl, own_sl HO.out, HP.out.slice, sla_nil _ _⟩
          have k1 : wr.cell? ⟨w.heap.size, 1, none⟩ = some (.slice A8 K.length c8) := HK.out.cell 1
          have k2 : wr.cell? ⟨w.heap.size, 2, none⟩ = some (.slice none 0 0) := HK.out.cell 2
          have HW := Lib.hid (Below.refl wr.heap.size wr)
          by_cases h6 : 6 < R.length
          · have c1 := (rist_many T _ wr.heap.size wr (by rw [eT]; exact h6) (by rw [eT]; show R.length ≤ _; omega) (by rw [eT]; exact fun x hx => by have := HU.out.len x hx; omega) hv (Nat.le_refl _)).2
            clear hv eT h6
            go_wp2_with (go_at_call 14; refine Calls.mono c1 ?_; rintro e w1 ⟨rfl, hb⟩; clear c1; replace HB := Lib.hid (HB.out.trans (hb.mono (HSZ.out _ HB.out))); clear hb)
            go_ret
            exact ⟨rfl, by rw [← EN0.out]; exact HB.out⟩
          · have hkl : K.length ≤ 36 := Nat.le_trans HL.out (Nat.mul_le_mul (show R.length ≤ 6 by omega) (show R.length ≤ 6 by omega))
            have hsm : Sm T := by rw [eT]; exact ⟨by show R.length ≤ 3000; omega, by show K.length ≤ 3000; omega, by simp, fun x hx => by have := HU.out.len x hx; omega, fun q hq => by simp at hq, fun q hq => by simp at hq⟩
            have RT := Lib.hid (fun w1 (h : Below wr.heap.size wr w1) => rist_any T _ wr.heap.size w1 hsm (hv.below h) h.size)
            cases hx : isT T with
            | false =>
              rw [hx] at RT
              clear hv eT h6 hsm hx hkl
              go_wp2_with (go_at_call 14; refine Calls.mono (RT.out _ HW.out) ?_; rintro e w1 ⟨rfl, hb⟩; replace HB := Lib.hid (HB.out.trans (hb.mono (HSZ.out _ HB.out))); clear hb)
              go_ret
              exact ⟨rfl, by rw [← EN0.out]; exact HB.out⟩
            | true =>
              rw [hx] at RT
              have hln := ist_len hx
              have PK := Lib.hid (fun k w1 (h : Below wr.heap.size wr w1) => pick_any T _ wr.heap.size k w1 (hv.below h) h.size hln.1 (by omega))
              have ht : Tree T := by rw [eT]; exact kc_tree HU.out (by have := ist_nodup hx; rw [eT] at this; exact this) HC.out
              have tw := tree_walk ht (pl_mem (pick_lt a hln.1)) (pl_mem (pick_lt b hln.1))
              obtain ⟨x, ex⟩ : ∃ x, x = pl T.R (pickI T a) := ⟨_, rfl⟩
              obtain ⟨y, ey⟩ : ∃ y, y = pl T.R (pickI T b) := ⟨_, rfl⟩
              have hx3 := real_small hsm (pickI T a)
              have hy3 := real_small hsm (pickI T b)
              have P1 := Lib.hid (PK.out a); have P2 := Lib.hid (PK.out b)
              rw [← ex] at P1 hx3 tw
              rw [← ey] at P2 hy3 tw
              have WK := Lib.hid (fun w1 (h : Below wr.heap.size wr w1) => walk_any T _ wr.heap.size x y w1 hsm (hv.below h) h.size (by omega) (by omega))
              have BT := Lib.hid (fun w1 => rbetween_any x y w1 (by omega) (by omega))
              have hbl := between_len x y
              have hwl := wk_len T x y
              obtain ⟨Q, eQ⟩ : ∃ Q, Q = wkL T x y := ⟨_, rfl⟩
              obtain ⟨B, eB⟩ : ∃ B, B = betweenL x y := ⟨_, rfl⟩
              rw [← eB] at BT hbl tw
              rw [← eQ] at WK tw hwl
              rw [tw.1] at WK
              have HBL := Lib.hid hbl
              have HTW := Lib.hid tw.2
              have HEND := Lib.hid (show ∀ w1 : World, Below wr.heap.size wr w1 → Below w.heap.size w w1 from fun w1 h => by rw [← EN0.out]; exact HB.out.trans (h.mono (HSZ.out _ HB.out)))
              clear hv eT h6 hsm hx hkl ht ex ey PK hln hx3 hy3 eQ eB tw HU HO HP HC HL HB hbl
              go_wp2_with (go_at_call 14; refine Calls.mono (RT.out _ HW.out) ?_; rintro e w2 ⟨rfl, hb⟩; clear k0 k1 k2; replace HK := Lib.hid (HK.out.below hb); replace HW := Lib.hid (HW.out.trans (hb.mono HW.out.size)); clear hb)
              replace HK := Lib.hid (show Blk w2.drew _ _ _ from HK.out.drewN 1)
              replace HW := Lib.hid (show Below _ _ w2.drew from below_drewN HW.out 1)
              go_region_held3 (fun w' => w'.cell? ⟨w.heap.size, 0, none⟩ = some (.slice A5 R.length c5) ∧ w'.cell? ⟨w.heap.size, 1, none⟩ = some (.slice A8 K.length c8) ∧ w'.cell? ⟨w.heap.size, 2, none⟩ = some (.slice none 0 0)) (exact ⟨HK.out.cell 0, HK.out.cell 1, HK.out.cell 2⟩) ((first
                | (go_at_call 16; with_reducible refine Calls.mono (P1.out _ HW.out) ?_; rintro e wx ⟨rfl, hb⟩; replace HK := Lib.hid (HK.out.below hb); replace HW := Lib.hid (HW.out.trans (hb.mono HW.out.size)); clear P1; clear hb)
                | (go_at_call 16; with_reducible refine Calls.mono (P2.out _ HW.out) ?_; rintro e wx ⟨rfl, hb⟩; replace HK := Lib.hid (HK.out.below hb); replace HW := Lib.hid (HW.out.trans (hb.mono HW.out.size)); clear P2; clear hb)))
              have k0 := HK.out.cell 0; have k1 := HK.out.cell 1; have k2 := HK.out.cell 2; simp only [List.getElem?_toArray, List.getElem?_cons_zero, List.getElem?_cons_succ] at k0 k1 k2
              by_cases h5 : B.length ≤ 5
              · have t5 : decide ((B.length : Int) ≤ 5) = true := decide_eq_true (by omega)
                have eQ := HTW.out h5
                rw [decide_eq_true h5] at WK
                rw [eQ] at WK
                clear eQ HTW h5 hwl
                go_wp2_with (first
                  | (go_at_call 19; with_reducible refine Calls.mono (WK.out _ HW.out) ?_; rintro e wy ⟨u1, rfl, ho, hb⟩; clear k0 k1 k2; replace HW := Lib.hid (HW.out.trans (hb.mono HW.out.size)); obtain ⟨A6, c6, e6, r6⟩ := ho.slice; subst e6; have HR6 := Lib.hid r6; clear ho r6 hb HK)
                  | (go_at_call 31; refine Calls.mono (BT.out _) ?_; rintro e w3 ⟨v3, rfl, ho, hb⟩; obtain ⟨A9, c9, e9, r9⟩ := ho.slice; subst e9; have c3 := texts_same B A6 A9 B.length B.length c6 c9 w3.heap.size w3 rfl rfl (by have := HBL.out; omega) ((HR6.out.below hb).more hb.size) r9; replace HW := Lib.hid (HW.out.trans (hb.mono HW.out.size)); clear ho r9 hb HR6)
                  | (go_at_call 23; refine Calls.mono c3 ?_; rintro e w4 ⟨rfl, hd⟩; clear c3; replace HW := Lib.hid (HW.out.trans (hd.below.mono HW.out.size)); clear hd)
                  | (go_at_call 15; with_reducible refine Calls.mono (CK.out _) ?_; rintro e w5 ⟨rfl, hb⟩; replace HW := Lib.hid (HW.out.trans (hb.mono HW.out.size)); clear hb))
                go_ret
                exact ⟨rfl, HEND.out _ HW.out⟩
              · have t5 : decide ((B.length : Int) ≤ 5) = false := decide_eq_false (by omega)
                rw [decide_eq_false h5] at WK
                clear HTW h5
                go_wp2_with (first
                  | (go_at_call 19; with_reducible refine Calls.mono (WK.out _ HW.out) ?_; rintro e wy ⟨u1, rfl, ho, hb⟩; clear k0 k1 k2; replace HW := Lib.hid (HW.out.trans (hb.mono HW.out.size)); obtain ⟨A6, c6, e6, r6⟩ := ho.slice; subst e6; clear ho r6 hb HK)
                  | (go_at_call 31; refine Calls.mono (BT.out _) ?_; rintro e w3 ⟨v3, rfl, ho, hb⟩; obtain ⟨A9, c9, e9, r9⟩ := ho.slice; subst e9; replace HW := Lib.hid (HW.out.trans (hb.mono HW.out.size)); clear ho r9 hb)
                  | (go_at_call 15; with_reducible refine Calls.mono (CK.out _) ?_; rintro e w5 ⟨rfl, hb⟩; replace HW := Lib.hid (HW.out.trans (hb.mono HW.out.size)); clear hb))
                go_ret
                exact ⟨rfl, HEND.out _ HW.out⟩
set_option maxHeartbeats 6400000 in
set_option maxRecDepth 100000 in
theorem trees_many (A : Option Addr) (l : List L) (c : Nat) (a b : Int) (w : World) (hr : Rd w w.heap.size A (strs l)) (hcnt : 60 < l.length) (hl : l.length ≤ 9000000000000) :
    Calls Try.prog 6 #[.slice A l.length c, .int .i64 a, .int .i64 b] w fun e w' => e = .returned (.bool true) ∧ Below w.heap.size w w' := by
  obtain ⟨N, eN⟩ : ∃ N, N = w.heap.size := ⟨_, rfl⟩
  have HB0 := Lib.hid (show Below N w (w.alloc (.cells #[.slice none 0 0, .slice none 0 0, .slice none 0 0] 26)) by rw [eN]; exact (Below.refl _ _).alloc (Nat.le_refl _) _)
  have HK0 := Lib.hid (Blk.new w 26 #[.slice none 0 0, .slice none 0 0, .slice none 0 0])
  have EN0 := Lib.hid eN
  have HSZ := Lib.hid (show ∀ w1 : World, Below N w w1 → N ≤ w1.heap.size from fun w1 h => by have := h.size; have := EN0.out; omega)
  have HRL := Lib.hid (fun w1 (h : Below N w w1) => (by rw [← eN] at hr; exact hr.below h : Rd w1 N A (strs l)))
  have RIS := Lib.hid (fun (x : L) (hx : x.length ≤ 60) w1 => ris_any x w1 (by omega))
  have RUP := Lib.hid (fun (x : L) (hx : x.length ≤ 60) w1 => rup_any x w1 (by omega))
  have CK := Lib.hid (fun w1 => known_any w1)
  obtain ⟨n, en⟩ : ∃ n, n = l.length := ⟨_, rfl⟩
  rw [← en] at hl hcnt ⊢
  have EN := Lib.hid en
  clear en hr eN
  go_enter Try.func6, Try.ntmps6
  go_wp2
  go_loopw [8] (fun iv wr => ∃ (i : Nat) (R : List L) (vR : Value), i ≤ n ∧ i ≤ 60 ∧ iv = .int .i64 (i : Int) ∧ Blk wr w.heap.size 26 #[vR, .slice none 0 0, .slice none 0 0] ∧ Own wr (N + 1) vR R ∧ UpC R [] ∧ R.length ≤ 4 * i ∧ Below N w wr) (fun iv _ => 60 - (intOf iv).toNat)
  case atStart => exact ⟨0, [], _, Nat.zero_le _, by omega, rfl, HK0.out, Own.nil _ _, upc_nil, by simp, HB0.out⟩
  case round =>
    obtain ⟨i, R, vR, hin, hi60, rfl, hk, ho, hu, hrl, hb⟩ := hrel
    have HK := Lib.hid hk; have HO := Lib.hid ho; have HU := Lib.hid hu; have HL := Lib.hid hrl; have HB := Lib.hid hb; clear hk ho hu hrl hb HK0 HB0
    by_cases hlt : i < n ∧ i < 60
    · have e1 : decide ((i : Int) < (n : Int)) = true := decide_eq_true (by omega)
      have e1' : (i : Int) < (n : Int) := by omega
      have e2 : (0 : Int) ≤ (i : Int) := by omega
      have e3 : decide ((i : Int) < 60) = true := decide_eq_true (by omega)
      have him : i < l.length := by rw [← EN.out]; exact hlt.1
      have HC := Lib.hid (fun w1 h => rd_txt (HRL.out w1 h) him)
      obtain ⟨b1, o, rfl, _, h1⟩ := HC.out wr HB.out
      obtain ⟨x, ex⟩ : ∃ x, x = pl l i := ⟨_, rfl⟩
      rw [← ex] at h1 HC
      clear him ex
      by_cases h60 : 60 < x.length
      · have t1 : decide ((60 : Int) < (x.length : Int)) = true := decide_eq_true (by omega)
        go_wp2
        go_ret
        exact ⟨rfl, by rw [← EN0.out]; exact HB.out⟩
      · have t1 : decide ((60 : Int) < (x.length : Int)) = false := decide_eq_false (by omega)
        have hx60 : x.length ≤ 60 := by omega
        have c1 := RIS.out x hx60
        cases hx : isL x with
        | false =>
          rw [hx] at c1
          go_wp2_with (go_at_call 29; refine Calls.mono (c1 _) ?_; rintro e w1 ⟨rfl, hb⟩; clear c1; have H1 := Lib.hid (HB.out.trans (hb.mono (HSZ.out _ HB.out))); clear hb)
          go_ret
          exact ⟨rfl, by rw [← EN0.out]; exact H1.out⟩
        | true =>
          rw [hx] at c1
          have hkx : kindL x ≠ 0 := by have := hx; simp only [isL, decide_eq_true_eq] at this; omega
          go_wp2_with (go_at_call 29; refine Calls.mono (c1 _) ?_; rintro e w1 ⟨rfl, hb⟩; clear c1; have H1 := Lib.hid (HB.out.trans (hb.mono (HSZ.out _ HB.out))); have HK1 := Lib.hid (HK.out.below hb); have HO1 := Lib.hid (HO.out.below hb); clear hb; obtain ⟨b9, o9, e9, _, h9⟩ := HC.out w1 H1.out; injection e9 with e9; injection e9 with e9 e9'; subst e9; subst e9')
          have hx0 : pl (ch x) 0 = x := ch_zero (ne_of_kind hkx)
          have hch4 := ch_len x
          have HI6 := Lib.hid hlt
          clear h1 h9 hx h60 hlt t1
          go_loopg [9] (ch x).length (fun g sv wr => ∃ (j : Nat) (R : List L) (vR : Value), j + g = (ch x).length ∧ sv = .string ⟨(pl (ch x) j).toArray⟩ ∧ Blk wr w.heap.size 26 #[vR, .slice none 0 0, .slice none 0 0] ∧ Own wr (N + 1) vR R ∧ UpC R ((ch x).drop j) ∧ R.length ≤ 4 * i + j ∧ Below N w wr)
          case atStart => exact ⟨0, R, vR, Nat.zero_add _, by rw [hx0], HK1.out, HO1.out, upc_more HU.out, HL.out, H1.out⟩
          case round =>
            clear HK1 HO1 H1 HU HL HK HO HB
            obtain ⟨j, R, vR, hjg, rfl, hk, ho, hu, hrl, hb⟩ := hrel
            have HK := Lib.hid hk; have HO := Lib.hid ho; have HU := Lib.hid hu; have HL := Lib.hid hrl; have HB := Lib.hid hb; have HJ := Lib.hid hjg; clear hk ho hu hrl hb hjg
            by_cases hlj : j < (ch x).length
            · have hym := pl_mem hlj
              have hyl := Nat.le_trans (mem_len hym) hx60
              have t1 : (pl (ch x) j == []) = false := by have := mem_ne hym; simpa using this
              have c3 := RUP.out (pl (ch x) j) hyl
              rw [up_at x hlj] at c3
              have HLT := Lib.hid (fun R h => @upc_there R x j h hlj); have HLD := Lib.hid (fun R h => @upc_laid R x j h hlj hkx hx60)
              obtain ⟨y, ey⟩ : ∃ y, y = pl (ch x) j := ⟨_, rfl⟩
              rw [← ey] at t1 c3 HLT HLD ⊢
              clear hym hyl ey
              obtain ⟨A5, c5, e5, r5⟩ := HO.out.slice
              subst e5
              have c2 := place_any R A5 c5 wr.heap.size y wr (by have := HL.out; omega) r5
              have k0 : wr.cell? ⟨w.heap.size, 0, none⟩ = some (.slice A5 R.length c5) := HK.out.cell 0
              clear r5
              by_cases hm : y ∈ R
              · obtain ⟨z, ez, hz⟩ := place_in hm
                rw [← ez] at c2
                have z1 : decide (z < 0) = false := decide_eq_false (by omega)
                have E := Lib.hid (HLT.out R HU.out hm)
                clear ez hz hm
                go_wp2_with (first
                  | (go_at_call 28; refine Calls.mono c2 ?_; rintro e wp ⟨rfl, rfl⟩; clear c2)
                  | (go_at_call 30; refine Calls.mono (c3 _) ?_; rintro e w5 ⟨rfl, hb⟩; clear c3; have HK5 := Lib.hid (HK.out.below hb); have HO5 := Lib.hid (HO.out.below hb); have H5 := Lib.hid (HB.out.trans (hb.mono (HSZ.out _ HB.out))); clear hb))
                go_roundg ((ch x).length - (j + 1))
                case measure => have := HJ.out; omega
                case rel => exact ⟨j + 1, R, _, by have := HJ.out; omega, rfl, HK5.out, HO5.out, E.out, by have := HL.out; omega, H5.out⟩
              · obtain ⟨z, ez, hz⟩ := place_out hm
                rw [← ez] at c2
                have z1 : decide (z < 0) = true := decide_eq_true hz
                have E := Lib.hid (HLD.out R HU.out)
                clear ez hz hm
                go_wp2_with (first
                  | (go_at_call 28; refine Calls.mono c2 ?_; rintro e wp ⟨rfl, rfl⟩; clear c2)
                  | (at_builtin; refine app_one rfl (.tmp 58) (.tmp 60) rfl (N + 1) _ R rfl HO.out y rfl (by have := HL.out; omega) (by have := HK.out.lt; have := EN0.out; omega) ?_; intro v2 w2 ho2 hb2; have HK2 := Lib.hid (show Blk w2 w.heap.size 26 _ from (hb2.block _ (by have := EN0.out; omega)).trans HK.out); have H2 := Lib.hid (HB.out.trans (hb2.mono (by omega))); have HO2 := Lib.hid ho2; obtain ⟨A6, c6, e6, _⟩ := ho2.slice; subst e6; have f0 := HK2.out.frozen 0; have k9 := HK2.out.cell 0; simp only [List.getElem?_toArray, List.getElem?_cons_zero] at k9; have HK3 := Lib.hid (HK2.out.set 0 (.slice A6 (R ++ [y]).length c6)); have HO3 := Lib.hid (own_set (j := 0) (u := .slice A6 (R ++ [y]).length c6) HO2.out (show w.heap.size < N + 1 by have := EN0.out; omega)); have H3 := Lib.hid (below_set (j := 0) (u := .slice A6 (R ++ [y]).length c6) (EN0.out ▸ H2.out) (Nat.le_refl _)); clear hb2 ho2 k0)
                  | (go_at_call 30; refine Calls.mono (c3 _) ?_; rintro e w5 ⟨rfl, hb⟩; clear c3))
                rw [show R.length + 1 = (R ++ [y]).length by simp] at hb
                have HK5 := Lib.hid (HK3.out.below hb)
                have HO5 := Lib.hid (HO3.out.below hb)
                have H5 := Lib.hid (H3.out.trans (hb.mono H3.out.size))
                clear hb
                go_roundg ((ch x).length - (j + 1))
                case measure => have := HJ.out; omega
                case rel => exact ⟨j + 1, R ++ [y], _, by have := HJ.out; omega, rfl, HK5.out, HO5.out, E.out, by have := HL.out; simp; omega, by rw [EN0.out]; exact H5.out⟩
            · have t0 : pl (ch x) j = [] := pl_ge (by omega)
              have E := Lib.hid (upc_end HU.out (by omega))
              rw [t0]
              clear t0
              go_wp2
              go_roundw
              case rel => exact ⟨i + 1, R, vR, by have := HI6.out; omega, by have := HI6.out; omega, by go_num, HK.out, HO.out, E.out, by have := HL.out; have := HJ.out; omega, HB.out⟩
              case measure => have := HI6.out; simp [intOf]; omega
    · have e1 : decide ((i : Int) < (n : Int)) = true := decide_eq_true (by omega)
      have e1' : decide ((i : Int) < 60) = false := decide_eq_false (by omega)
      have hr4 : R.length ≤ 240 := by have := HL.out; omega
      clear hlt
      obtain ⟨A5, c5, e5, r5⟩ := HO.out.slice
      subst e5
      obtain ⟨M, eM⟩ : ∃ M, M = wr.heap.size := ⟨_, rfl⟩
      have HM := Lib.hid (show N + 1 ≤ M by rw [eM]; have := HK.out.lt; have := EN0.out; omega)
      have HMS := Lib.hid (show M ≤ wr.heap.size by omega)
      have HOM := Lib.hid (show ∀ g, (Value.slice A5 R.length c5).ownBlock = some g → g < M from fun g hg => by rw [eM]; exact (HO.out.lt g hg).2)
      clear r5 eM
      go_wp2
      go_loopw [10] (fun iv wr => ∃ (i : Nat) (K : List Pr) (vK : Value), i ≤ R.length ∧ iv = .int .i64 (i : Int) ∧ Blk wr w.heap.size 26 #[.slice A5 R.length c5, vK, .slice none 0 0] ∧ Own wr (N + 1) (.slice A5 R.length c5) R ∧ OwnP wr M vK K ∧ KC R i 0 K ∧ K.length ≤ i * R.length ∧ M ≤ wr.heap.size ∧ Below N w wr) (fun iv _ => R.length - (intOf iv).toNat)
      case atStart => exact ⟨0, [], _, Nat.zero_le _, rfl, HK.out, HO.out, OwnP.nil _ _, kc_zero R, Nat.zero_le _, HMS.out, HB.out⟩
      case round =>
        clear HK HO HB HMS HL e1 e1' hin hi60
        obtain ⟨i, K, vK, hin, rfl, hk, ho, hp, hkc, hkl, hms, hb⟩ := hrel
        have HK := Lib.hid hk; have HO := Lib.hid ho; have HP := Lib.hid hp; have HC := Lib.hid hkc; have HL := Lib.hid hkl; have HMS := Lib.hid hms; have HB := Lib.hid hb; clear hk ho hp hkc hkl hms hb
        have k0 : wr.cell? ⟨w.heap.size, 0, none⟩ = some (.slice A5 R.length c5) := HK.out.cell 0
        by_cases hlt : i < R.length
        · have e1 : decide ((i : Int) < (R.length : Int)) = true := decide_eq_true (by omega)
          go_wp2
          go_loopw [11] (fun iv wr => ∃ (k : Nat) (K : List Pr) (vK : Value), k ≤ R.length ∧ iv = .int .i64 (k : Int) ∧ Blk wr w.heap.size 26 #[.slice A5 R.length c5, vK, .slice none 0 0] ∧ Own wr (N + 1) (.slice A5 R.length c5) R ∧ OwnP wr M vK K ∧ KC R i k K ∧ K.length ≤ i * R.length + k ∧ M ≤ wr.heap.size ∧ Below N w wr) (fun iv _ => R.length - (intOf iv).toNat)
          case atStart => exact ⟨0, K, _, Nat.zero_le _, rfl, HK.out, HO.out, HP.out, HC.out, HL.out, HMS.out, HB.out⟩
          case round =>
            clear HK HO HP HC HL HMS HB k0
            obtain ⟨k, K, vK, hkn, rfl, hk, ho, hp, hkc, hkl, hms, hb⟩ := hrel
            have HK := Lib.hid hk; have HO := Lib.hid ho; have HP := Lib.hid hp; have HC := Lib.hid hkc; have HL := Lib.hid hkl; have HMS := Lib.hid hms; have HB := Lib.hid hb; clear hk ho hp hkc hkl hms hb
            have k0 : wr.cell? ⟨w.heap.size, 0, none⟩ = some (.slice A5 R.length c5) := HK.out.cell 0
            by_cases hlk : k < R.length
            · have e2 : decide ((k : Int) < (R.length : Int)) = true := decide_eq_true (by omega)
              have e3 : (0 : Int) ≤ (i : Int) := by omega
              have e4 : (i : Int) < (R.length : Int) := by omega
              have e5 : (0 : Int) ≤ (k : Int) := by omega
              have e6 : (k : Int) < (R.length : Int) := by omega
              obtain ⟨A9, c9, e9, r5⟩ := HO.out.slice
              cases e9
              obtain ⟨b1, o, e9, _, h1⟩ := rd_txt r5 hlt
              subst e9
              obtain ⟨b2, o2, e9, _, h2⟩ := rd_txt r5 hlk
              cases e9
              obtain ⟨x, ex⟩ : ∃ x, x = pl R i := ⟨_, rfl⟩
              obtain ⟨y, ey⟩ : ∃ y, y = pl R k := ⟨_, rfl⟩
              rw [← ex] at h1
              rw [← ey] at h2
              have hx60 : x.length ≤ 60 := by rw [ex]; exact HU.out.len _ (pl_mem hlt)
              have hy60 : y.length ≤ 60 := by rw [ey]; exact HU.out.len _ (pl_mem hlk)
              have HCN := Lib.hid (show Cond R i k ↔ (upL x = y ∨ upL y = x ∨ (i ≠ k ∧ upL x = [] ∧ upL y = [])) by rw [ex, ey]; exact Iff.rfl)
              have HKL := Lib.hid (show K.length ≤ 60000 by have h1 := HL.out; have h2 : i * R.length ≤ 240 * 240 := Nat.mul_le_mul (by omega) hr4; omega)
              have HYES := Lib.hid (show Cond R i k → KC R i (k + 1) (K ++ [(x, y)]) by rw [ex, ey]; exact kc_yes HC.out)
              have HNO := Lib.hid (show ¬ Cond R i k → KC R i (k + 1) K from kc_no HC.out)
              have HNX := Lib.hid (show x ≠ [] by rw [ex]; exact ne_of_kind (HU.out.real _ (pl_mem hlt)))
              have HNY := Lib.hid (show y ≠ [] by rw [ey]; exact ne_of_kind (HU.out.real _ (pl_mem hlk)))
              clear ex ey r5
              go_wp2
              go_quiet (fail)
              clear h1 h2 k0
              by_cases q1 : upL x = y
              · have t1 : (upL x == y) = true := by simpa using q1
                have E := Lib.hid (HYES.out (HCN.out.2 (.inl q1)))
                go_wp2_with (first
                  | (go_at_call 30; refine Calls.mono (RUP.out _ (by assumption) _) ?_; rintro e w5 ⟨rfl, hb⟩; first | (replace HK := Lib.hid (HK.out.below hb); replace HO := Lib.hid (HO.out.below hb); replace HP := Lib.hid (HP.out.below hb); replace HMS := Lib.hid (Nat.le_trans HMS.out hb.size); replace HB := Lib.hid (HB.out.trans (hb.mono (HSZ.out _ HB.out))); clear hb; (try clear k1); have k1 : w5.cell? ⟨w.heap.size, 1, none⟩ = some vK := HK.out.cell 1) | (replace hb := (below_drewN (Below.refl wr.heap.size wr) _).trans hb; replace HK := Lib.hid (HK.out.below hb); replace HO := Lib.hid (HO.out.below hb); replace HP := Lib.hid (HP.out.below hb); replace HMS := Lib.hid (Nat.le_trans HMS.out hb.size); replace HB := Lib.hid (HB.out.trans (hb.mono (HSZ.out _ HB.out))); clear hb; (try clear k1); have k1 : w5.cell? ⟨w.heap.size, 1, none⟩ = some vK := HK.out.cell 1))
                  | (at_builtin; refine papp_one rfl (.tmp 113) (.tmp 117) rfl M _ K rfl HP.out (x, y) rfl (by have := HKL.out; omega) HMS.out ?_; intro v2 w2 hp2 hb2; have HK2 := Lib.hid (show Blk w2 w.heap.size 26 _ from (hb2.block _ (by have := EN0.out; have := HM.out; omega)).trans HK.out); have HO2 := Lib.hid (own_under HO.out hb2 HOM.out); have H2 := Lib.hid (HB.out.trans (hb2.mono (by have := HM.out; omega))); have HP2 := Lib.hid hp2; have HMS2 := Lib.hid (Nat.le_trans HMS.out hb2.size); obtain ⟨A6, c6, e6, _⟩ := hp2.slice; subst e6; have f0 := HK2.out.frozen 1; have k9 := HK2.out.cell 1; simp only [List.getElem?_toArray, List.getElem?_cons_zero, List.getElem?_cons_succ] at k9; clear hb2 hp2 k1))
                have HK3 := Lib.hid (HK2.out.set 1 (.slice A6 (K.length + 1) c6))
                have HO3 := Lib.hid (own_set (j := 1) (u := .slice A6 (K.length + 1) c6) HO2.out (show w.heap.size < N + 1 by have := EN0.out; omega))
                have HP3 := Lib.hid (ownp_set (j := 1) (u := .slice A6 (K.length + 1) c6) HP2.out (show w.heap.size < M by have := EN0.out; have := HM.out; omega))
                have H3 := Lib.hid (below_set (j := 1) (u := .slice A6 (K.length + 1) c6) (EN0.out ▸ H2.out) (Nat.le_refl _))
                have HMS3 := Lib.hid (Nat.le_trans HMS2.out (g_set (p := ⟨w.heap.size, 1, none⟩) (g_of_below (Below.refl w2.heap.size w2) (some w.heap.size)) (.inl rfl) (.slice A6 (K.length + 1) c6)).size)
                go_roundw
                case rel => exact ⟨k + 1, K ++ [(x, y)], .slice A6 (K.length + 1) c6, by omega, by go_num, HK3.out, HO3.out, (by rw [show K.length + 1 = (K ++ [(x, y)]).length by simp]; rw [show K.length + 1 = (K ++ [(x, y)]).length by simp] at HP3; exact HP3.out), E.out, by have := HL.out; simp; omega, HMS3.out, by rw [EN0.out]; exact H3.out⟩
                case measure => simp [intOf]; omega
              · have t1 : (upL x == y) = false := by simpa using q1
                by_cases q2 : upL y = x
                · have t2 : (upL y == x) = true := by simpa using q2
                  have E := Lib.hid (HYES.out (HCN.out.2 (.inr (.inl q2))))
                  go_wp2_with (first
                    | (go_at_call 30; refine Calls.mono (RUP.out _ (by assumption) _) ?_; rintro e w5 ⟨rfl, hb⟩; first | (replace HK := Lib.hid (HK.out.below hb); replace HO := Lib.hid (HO.out.below hb); replace HP := Lib.hid (HP.out.below hb); replace HMS := Lib.hid (Nat.le_trans HMS.out hb.size); replace HB := Lib.hid (HB.out.trans (hb.mono (HSZ.out _ HB.out))); clear hb; (try clear k1); have k1 : w5.cell? ⟨w.heap.size, 1, none⟩ = some vK := HK.out.cell 1) | (replace hb := (below_drewN (Below.refl wr.heap.size wr) _).trans hb; replace HK := Lib.hid (HK.out.below hb); replace HO := Lib.hid (HO.out.below hb); replace HP := Lib.hid (HP.out.below hb); replace HMS := Lib.hid (Nat.le_trans HMS.out hb.size); replace HB := Lib.hid (HB.out.trans (hb.mono (HSZ.out _ HB.out))); clear hb; (try clear k1); have k1 : w5.cell? ⟨w.heap.size, 1, none⟩ = some vK := HK.out.cell 1))
                    | (at_builtin; refine papp_one rfl (.tmp 113) (.tmp 117) rfl M _ K rfl HP.out (x, y) rfl (by have := HKL.out; omega) HMS.out ?_; intro v2 w2 hp2 hb2; have HK2 := Lib.hid (show Blk w2 w.heap.size 26 _ from (hb2.block _ (by have := EN0.out; have := HM.out; omega)).trans HK.out); have HO2 := Lib.hid (own_under HO.out hb2 HOM.out); have H2 := Lib.hid (HB.out.trans (hb2.mono (by have := HM.out; omega))); have HP2 := Lib.hid hp2; have HMS2 := Lib.hid (Nat.le_trans HMS.out hb2.size); obtain ⟨A6, c6, e6, _⟩ := hp2.slice; subst e6; have f0 := HK2.out.frozen 1; have k9 := HK2.out.cell 1; simp only [List.getElem?_toArray, List.getElem?_cons_zero, List.getElem?_cons_succ] at k9; clear hb2 hp2 k1))
                  have HK3 := Lib.hid (HK2.out.set 1 (.slice A6 (K.length + 1) c6))
                  have HO3 := Lib.hid (own_set (j := 1) (u := .slice A6 (K.length + 1) c6) HO2.out (show w.heap.size < N + 1 by have := EN0.out; omega))
                  have HP3 := Lib.hid (ownp_set (j := 1) (u := .slice A6 (K.length + 1) c6) HP2.out (show w.heap.size < M by have := EN0.out; have := HM.out; omega))
                  have H3 := Lib.hid (below_set (j := 1) (u := .slice A6 (K.length + 1) c6) (EN0.out ▸ H2.out) (Nat.le_refl _))
                  have HMS3 := Lib.hid (Nat.le_trans HMS2.out (g_set (p := ⟨w.heap.size, 1, none⟩) (g_of_below (Below.refl w2.heap.size w2) (some w.heap.size)) (.inl rfl) (.slice A6 (K.length + 1) c6)).size)
                  go_roundw
                  case rel => exact ⟨k + 1, K ++ [(x, y)], .slice A6 (K.length + 1) c6, by omega, by go_num, HK3.out, HO3.out, (by rw [show K.length + 1 = (K ++ [(x, y)]).length by simp]; rw [show K.length + 1 = (K ++ [(x, y)]).length by simp] at HP3; exact HP3.out), E.out, by have := HL.out; simp; omega, HMS3.out, by rw [EN0.out]; exact H3.out⟩
                  case measure => simp [intOf]; omega
                · have t2 : (upL y == x) = false := by simpa using q2
                  by_cases q3 : i = k
                  · have E := Lib.hid (HNO.out (fun h => (HCN.out.1 h).elim q1 fun h => h.elim q2 fun h => h.1 q3))
                    have t3 : ((i : Int) != (k : Int)) = false := by rw [q3]; simp
                    clear q3
                    go_wp2_with (first
                      | (go_at_call 30; refine Calls.mono (RUP.out _ (by assumption) _) ?_; rintro e w5 ⟨rfl, hb⟩; first | (replace HK := Lib.hid (HK.out.below hb); replace HO := Lib.hid (HO.out.below hb); replace HP := Lib.hid (HP.out.below hb); replace HMS := Lib.hid (Nat.le_trans HMS.out hb.size); replace HB := Lib.hid (HB.out.trans (hb.mono (HSZ.out _ HB.out))); clear hb) | (replace hb := (below_drewN (Below.refl wr.heap.size wr) _).trans hb; replace HK := Lib.hid (HK.out.below hb); replace HO := Lib.hid (HO.out.below hb); replace HP := Lib.hid (HP.out.below hb); replace HMS := Lib.hid (Nat.le_trans HMS.out hb.size); replace HB := Lib.hid (HB.out.trans (hb.mono (HSZ.out _ HB.out))); clear hb)))
                    go_roundw
                    case rel => exact ⟨k + 1, K, vK, by omega, by go_num, HK.out, HO.out, HP.out, E.out, by have := HL.out; omega, HMS.out, HB.out⟩
                    case measure => simp [intOf]; omega
                  · have t3 : ((i : Int) != (k : Int)) = true := by simp; omega
                    by_cases q4 : upL x = []
                    · have t4 : (upL x == []) = true := by simpa using q4
                      by_cases q5 : upL y = []
                      · have t5 : (upL y == []) = true := by simpa using q5
                        have E := Lib.hid (HYES.out (HCN.out.2 (.inr (.inr ⟨q3, q4, q5⟩))))
                        clear q1 q2 q3 q4 q5
                        have n1 : ¬ x = [] := HNX.out
                        have n2 : ¬ y = [] := HNY.out
                        have n3 : ¬ [] = x := fun g => HNX.out g.symm
                        have n4 : ¬ [] = y := fun g => HNY.out g.symm
                        have n5 : (x == []) = false := by simpa using n1
                        have n6 : (y == []) = false := by simpa using n2
                        have n7 : (([] : L) == x) = false := by simpa using n3
                        have n8 : (([] : L) == y) = false := by simpa using n4
                        go_wp2_with (first
                          | (go_at_call 30; refine Calls.mono (RUP.out _ (by assumption) _) ?_; rintro e w5 ⟨rfl, hb⟩; first | (replace HK := Lib.hid (HK.out.below hb); replace HO := Lib.hid (HO.out.below hb); replace HP := Lib.hid (HP.out.below hb); replace HMS := Lib.hid (Nat.le_trans HMS.out hb.size); replace HB := Lib.hid (HB.out.trans (hb.mono (HSZ.out _ HB.out))); clear hb; (try clear k1); have k1 : w5.cell? ⟨w.heap.size, 1, none⟩ = some vK := HK.out.cell 1) | (replace hb := (below_drewN (Below.refl wr.heap.size wr) _).trans hb; replace HK := Lib.hid (HK.out.below hb); replace HO := Lib.hid (HO.out.below hb); replace HP := Lib.hid (HP.out.below hb); replace HMS := Lib.hid (Nat.le_trans HMS.out hb.size); replace HB := Lib.hid (HB.out.trans (hb.mono (HSZ.out _ HB.out))); clear hb; (try clear k1); have k1 : w5.cell? ⟨w.heap.size, 1, none⟩ = some vK := HK.out.cell 1))
                          | (at_builtin; refine papp_one rfl (.tmp 113) (.tmp 117) rfl M _ K rfl HP.out (x, y) rfl (by have := HKL.out; omega) HMS.out ?_; intro v2 w2 hp2 hb2; have HK2 := Lib.hid (show Blk w2 w.heap.size 26 _ from (hb2.block _ (by have := EN0.out; have := HM.out; omega)).trans HK.out); have HO2 := Lib.hid (own_under HO.out hb2 HOM.out); have H2 := Lib.hid (HB.out.trans (hb2.mono (by have := HM.out; omega))); have HP2 := Lib.hid hp2; have HMS2 := Lib.hid (Nat.le_trans HMS.out hb2.size); obtain ⟨A6, c6, e6, _⟩ := hp2.slice; subst e6; have f0 := HK2.out.frozen 1; have k9 := HK2.out.cell 1; simp only [List.getElem?_toArray, List.getElem?_cons_zero, List.getElem?_cons_succ] at k9; clear hb2 hp2 k1))
                        have HK3 := Lib.hid (HK2.out.set 1 (.slice A6 (K.length + 1) c6))
                        have HO3 := Lib.hid (own_set (j := 1) (u := .slice A6 (K.length + 1) c6) HO2.out (show w.heap.size < N + 1 by have := EN0.out; omega))
                        have HP3 := Lib.hid (ownp_set (j := 1) (u := .slice A6 (K.length + 1) c6) HP2.out (show w.heap.size < M by have := EN0.out; have := HM.out; omega))
                        have H3 := Lib.hid (below_set (j := 1) (u := .slice A6 (K.length + 1) c6) (EN0.out ▸ H2.out) (Nat.le_refl _))
                        have HMS3 := Lib.hid (Nat.le_trans HMS2.out (g_set (p := ⟨w.heap.size, 1, none⟩) (g_of_below (Below.refl w2.heap.size w2) (some w.heap.size)) (.inl rfl) (.slice A6 (K.length + 1) c6)).size)
                        go_roundw
                        case rel => exact ⟨k + 1, K ++ [(x, y)], .slice A6 (K.length + 1) c6, by omega, by go_num, HK3.out, HO3.out, (by rw [show K.length + 1 = (K ++ [(x, y)]).length by simp]; rw [show K.length + 1 = (K ++ [(x, y)]).length by simp] at HP3; exact HP3.out), E.out, by have := HL.out; simp; omega, HMS3.out, by rw [EN0.out]; exact H3.out⟩
                        case measure => simp [intOf]; omega
                      · have t5 : (upL y == []) = false := by simpa using q5
                        have E := Lib.hid (HNO.out (fun h => (HCN.out.1 h).elim q1 fun h => h.elim q2 fun h => q5 h.2.2))
                        clear q1 q2 q3 q4 q5
                        have n1 : ¬ x = [] := HNX.out
                        have n2 : ¬ y = [] := HNY.out
                        have n3 : ¬ [] = x := fun g => HNX.out g.symm
                        have n4 : ¬ [] = y := fun g => HNY.out g.symm
                        have n5 : (x == []) = false := by simpa using n1
                        have n6 : (y == []) = false := by simpa using n2
                        have n7 : (([] : L) == x) = false := by simpa using n3
                        have n8 : (([] : L) == y) = false := by simpa using n4
                        go_wp2_with (first
                          | (go_at_call 30; refine Calls.mono (RUP.out _ (by assumption) _) ?_; rintro e w5 ⟨rfl, hb⟩; first | (replace HK := Lib.hid (HK.out.below hb); replace HO := Lib.hid (HO.out.below hb); replace HP := Lib.hid (HP.out.below hb); replace HMS := Lib.hid (Nat.le_trans HMS.out hb.size); replace HB := Lib.hid (HB.out.trans (hb.mono (HSZ.out _ HB.out))); clear hb) | (replace hb := (below_drewN (Below.refl wr.heap.size wr) _).trans hb; replace HK := Lib.hid (HK.out.below hb); replace HO := Lib.hid (HO.out.below hb); replace HP := Lib.hid (HP.out.below hb); replace HMS := Lib.hid (Nat.le_trans HMS.out hb.size); replace HB := Lib.hid (HB.out.trans (hb.mono (HSZ.out _ HB.out))); clear hb)))
                        go_roundw
                        case rel => exact ⟨k + 1, K, vK, by omega, by go_num, HK.out, HO.out, HP.out, E.out, by have := HL.out; omega, HMS.out, HB.out⟩
                        case measure => simp [intOf]; omega
                    · have t4 : (upL x == []) = false := by simpa using q4
                      have E := Lib.hid (HNO.out (fun h => (HCN.out.1 h).elim q1 fun h => h.elim q2 fun h => q4 h.2.1))
                      go_wp2_with (first
                        | (go_at_call 30; refine Calls.mono (RUP.out _ (by assumption) _) ?_; rintro e w5 ⟨rfl, hb⟩; first | (replace HK := Lib.hid (HK.out.below hb); replace HO := Lib.hid (HO.out.below hb); replace HP := Lib.hid (HP.out.below hb); replace HMS := Lib.hid (Nat.le_trans HMS.out hb.size); replace HB := Lib.hid (HB.out.trans (hb.mono (HSZ.out _ HB.out))); clear hb) | (replace hb := (below_drewN (Below.refl wr.heap.size wr) _).trans hb; replace HK := Lib.hid (HK.out.below hb); replace HO := Lib.hid (HO.out.below hb); replace HP := Lib.hid (HP.out.below hb); replace HMS := Lib.hid (Nat.le_trans HMS.out hb.size); replace HB := Lib.hid (HB.out.trans (hb.mono (HSZ.out _ HB.out))); clear hb)))
                      go_roundw
                      case rel => exact ⟨k + 1, K, vK, by omega, by go_num, HK.out, HO.out, HP.out, E.out, by have := HL.out; omega, HMS.out, HB.out⟩
                      case measure => simp [intOf]; omega
            · have e2 : decide ((k : Int) < (R.length : Int)) = false := decide_eq_false (by omega)
              go_wp2
              go_roundw
              case rel => exact ⟨i + 1, K, vK, by omega, by go_num, HK.out, HO.out, HP.out, kc_row HC.out (by omega), by have := HL.out; rw [Nat.succ_mul]; omega, HMS.out, HB.out⟩
              case measure => simp [intOf]; omega
        · have e1 : decide ((i : Int) < (R.length : Int)) = false := decide_eq_false (by omega)
          have ei : i = R.length := by omega
          subst ei
          clear e1 hlt hin
          obtain ⟨A8, c8, e8, _⟩ := HP.out.slice
          subst e8
          obtain ⟨T, eT⟩ : ∃ T, T = (⟨R, K, []⟩ : Tp) := ⟨_, rfl⟩
          have hv : TpV wr wr.heap.size (.agg #[.slice A5 R.length c5, .slice A8 K.length c8, .slice none 0 0]) T := by rw [eT]; exact ⟨_, _, _, rfl, own_sl HO.out, HP.out.slice, sla_nil _ _⟩
          have k1 : wr.cell? ⟨w.heap.size, 1, none⟩ = some (.slice A8 K.length c8) := HK.out.cell 1
          have k2 : wr.cell? ⟨w.heap.size, 2, none⟩ = some (.slice none 0 0) := HK.out.cell 2
          have HW := Lib.hid (Below.refl wr.heap.size wr)
          by_cases h6 : 6 < R.length
          · have c1 := (rist_many T _ wr.heap.size wr (by rw [eT]; exact h6) (by rw [eT]; show R.length ≤ _; omega) (by rw [eT]; exact fun x hx => by have := HU.out.len x hx; omega) hv (Nat.le_refl _)).2
            clear hv eT h6
            go_wp2_with (go_at_call 14; refine Calls.mono c1 ?_; rintro e w1 ⟨rfl, hb⟩; clear c1; replace HB := Lib.hid (HB.out.trans (hb.mono (HSZ.out _ HB.out))); clear hb)
            go_ret
            exact ⟨rfl, by rw [← EN0.out]; exact HB.out⟩
          · have hkl : K.length ≤ 36 := Nat.le_trans HL.out (Nat.mul_le_mul (show R.length ≤ 6 by omega) (show R.length ≤ 6 by omega))
            have hsm : Sm T := by rw [eT]; exact ⟨by show R.length ≤ 3000; omega, by show K.length ≤ 3000; omega, by simp, fun x hx => by have := HU.out.len x hx; omega, fun q hq => by simp at hq, fun q hq => by simp at hq⟩
            have RT := Lib.hid (fun w1 (h : Below wr.heap.size wr w1) => rist_any T _ wr.heap.size w1 hsm (hv.below h) h.size)
            cases hx : isT T with
            | false =>
              rw [hx] at RT
              clear hv eT h6 hsm hx hkl
              go_wp2_with (go_at_call 14; refine Calls.mono (RT.out _ HW.out) ?_; rintro e w1 ⟨rfl, hb⟩; replace HB := Lib.hid (HB.out.trans (hb.mono (HSZ.out _ HB.out))); clear hb)
              go_ret
              exact ⟨rfl, by rw [← EN0.out]; exact HB.out⟩
            | true =>
              rw [hx] at RT
              have hln := ist_len hx
              have PK := Lib.hid (fun k w1 (h : Below wr.heap.size wr w1) => pick_any T _ wr.heap.size k w1 (hv.below h) h.size hln.1 (by omega))
              have ht : Tree T := by rw [eT]; exact kc_tree HU.out (by have := ist_nodup hx; rw [eT] at this; exact this) HC.out
              have tw := tree_walk ht (pl_mem (pick_lt a hln.1)) (pl_mem (pick_lt b hln.1))
              obtain ⟨x, ex⟩ : ∃ x, x = pl T.R (pickI T a) := ⟨_, rfl⟩
              obtain ⟨y, ey⟩ : ∃ y, y = pl T.R (pickI T b) := ⟨_, rfl⟩
              have hx3 := real_small hsm (pickI T a)
              have hy3 := real_small hsm (pickI T b)
              have P1 := Lib.hid (PK.out a); have P2 := Lib.hid (PK.out b)
              rw [← ex] at P1 hx3 tw
              rw [← ey] at P2 hy3 tw
              have WK := Lib.hid (fun w1 (h : Below wr.heap.size wr w1) => walk_any T _ wr.heap.size x y w1 hsm (hv.below h) h.size (by omega) (by omega))
              have BT := Lib.hid (fun w1 => rbetween_any x y w1 (by omega) (by omega))
              have hbl := between_len x y
              have hwl := wk_len T x y
              obtain ⟨Q, eQ⟩ : ∃ Q, Q = wkL T x y := ⟨_, rfl⟩
              obtain ⟨B, eB⟩ : ∃ B, B = betweenL x y := ⟨_, rfl⟩
              rw [← eB] at BT hbl tw
              rw [← eQ] at WK tw hwl
              rw [tw.1] at WK
              have HBL := Lib.hid hbl
              have HTW := Lib.hid tw.2
              have HEND := Lib.hid (show ∀ w1 : World, Below wr.heap.size wr w1 → Below w.heap.size w w1 from fun w1 h => by rw [← EN0.out]; exact HB.out.trans (h.mono (HSZ.out _ HB.out)))
              clear hv eT h6 hsm hx hkl ht ex ey PK hln hx3 hy3 eQ eB tw HU HO HP HC HL HB hbl
              go_wp2_with (go_at_call 14; refine Calls.mono (RT.out _ HW.out) ?_; rintro e w2 ⟨rfl, hb⟩; clear k0 k1 k2; replace HK := Lib.hid (HK.out.below hb); replace HW := Lib.hid (HW.out.trans (hb.mono HW.out.size)); clear hb)
              replace HK := Lib.hid (show Blk w2.drew _ _ _ from HK.out.drewN 1)
              replace HW := Lib.hid (show Below _ _ w2.drew from below_drewN HW.out 1)
              go_region_held3 (fun w' => w'.cell? ⟨w.heap.size, 0, none⟩ = some (.slice A5 R.length c5) ∧ w'.cell? ⟨w.heap.size, 1, none⟩ = some (.slice A8 K.length c8) ∧ w'.cell? ⟨w.heap.size, 2, none⟩ = some (.slice none 0 0)) (exact ⟨HK.out.cell 0, HK.out.cell 1, HK.out.cell 2⟩) ((first
                | (go_at_call 16; with_reducible refine Calls.mono (P1.out _ HW.out) ?_; rintro e wx ⟨rfl, hb⟩; replace HK := Lib.hid (HK.out.below hb); replace HW := Lib.hid (HW.out.trans (hb.mono HW.out.size)); clear P1; clear hb)
                | (go_at_call 16; with_reducible refine Calls.mono (P2.out _ HW.out) ?_; rintro e wx ⟨rfl, hb⟩; replace HK := Lib.hid (HK.out.below hb); replace HW := Lib.hid (HW.out.trans (hb.mono HW.out.size)); clear P2; clear hb)))
              have k0 := HK.out.cell 0; have k1 := HK.out.cell 1; have k2 := HK.out.cell 2; simp only [List.getElem?_toArray, List.getElem?_cons_zero, List.getElem?_cons_succ] at k0 k1 k2
              by_cases h5 : B.length ≤ 5
              · have t5 : decide ((B.length : Int) ≤ 5) = true := decide_eq_true (by omega)
                have eQ := HTW.out h5
                rw [decide_eq_true h5] at WK
                rw [eQ] at WK
                clear eQ HTW h5 hwl
                go_wp2_with (first
                  | (go_at_call 19; with_reducible refine Calls.mono (WK.out _ HW.out) ?_; rintro e wy ⟨u1, rfl, ho, hb⟩; clear k0 k1 k2; replace HW := Lib.hid (HW.out.trans (hb.mono HW.out.size)); obtain ⟨A6, c6, e6, r6⟩ := ho.slice; subst e6; have HR6 := Lib.hid r6; clear ho r6 hb HK)
                  | (go_at_call 31; refine Calls.mono (BT.out _) ?_; rintro e w3 ⟨v3, rfl, ho, hb⟩; obtain ⟨A9, c9, e9, r9⟩ := ho.slice; subst e9; have c3 := texts_same B A6 A9 B.length B.length c6 c9 w3.heap.size w3 rfl rfl (by have := HBL.out; omega) ((HR6.out.below hb).more hb.size) r9; replace HW := Lib.hid (HW.out.trans (hb.mono HW.out.size)); clear ho r9 hb HR6)
                  | (go_at_call 23; refine Calls.mono c3 ?_; rintro e w4 ⟨rfl, hd⟩; clear c3; replace HW := Lib.hid (HW.out.trans (hd.below.mono HW.out.size)); clear hd)
                  | (go_at_call 15; with_reducible refine Calls.mono (CK.out _) ?_; rintro e w5 ⟨rfl, hb⟩; replace HW := Lib.hid (HW.out.trans (hb.mono HW.out.size)); clear hb))
                go_ret
                exact ⟨rfl, HEND.out _ HW.out⟩
              · have t5 : decide ((B.length : Int) ≤ 5) = false := decide_eq_false (by omega)
                rw [decide_eq_false h5] at WK
                clear HTW h5
                go_wp2_with (first
                  | (go_at_call 19; with_reducible refine Calls.mono (WK.out _ HW.out) ?_; rintro e wy ⟨u1, rfl, ho, hb⟩; clear k0 k1 k2; replace HW := Lib.hid (HW.out.trans (hb.mono HW.out.size)); obtain ⟨A6, c6, e6, r6⟩ := ho.slice; subst e6; clear ho r6 hb HK)
                  | (go_at_call 31; refine Calls.mono (BT.out _) ?_; rintro e w3 ⟨v3, rfl, ho, hb⟩; obtain ⟨A9, c9, e9, r9⟩ := ho.slice; subst e9; replace HW := Lib.hid (HW.out.trans (hb.mono HW.out.size)); clear ho r9 hb)
                  | (go_at_call 15; with_reducible refine Calls.mono (CK.out _) ?_; rintro e w5 ⟨rfl, hb⟩; replace HW := Lib.hid (HW.out.trans (hb.mono HW.out.size)); clear hb))
                go_ret
                exact ⟨rfl, HEND.out _ HW.out⟩
theorem trees_ (A : Option Addr) (l : List L) (c : Nat) (a b : Int) (w : World) (hr : Rd w w.heap.size A (strs l)) (_ : ∀ x ∈ l, x.length ≤ 140737488351232) (hl : l.length * 16 ≤ 140737488351232) (_ : (Lit.int .i64 a).wf = true) (_ : (Lit.int .i64 b).wf = true) :
    Calls Try.prog 6 #[.slice A l.length c, .int .i64 a, .int .i64 b] w fun e w' => e = .returned (.bool true) ∧ Below w.heap.size w w' := by
  by_cases h : l.length ≤ 60
  · exact trees_few A l c a b w hr h (by omega)
  · exact trees_many A l c a b w hr (by omega) (by omega)
end Go.Proofs.Ytnalnhplcchdoaa.RtW
