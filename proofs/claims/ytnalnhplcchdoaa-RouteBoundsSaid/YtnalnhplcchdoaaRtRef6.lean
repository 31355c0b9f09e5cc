/-
  The document's own of chapter 7: Next.
-/
import Derived.Test.YtnalnhplcchdoaaRtRef5
import Derived.Test.YtnalnhplcchdoaaRtWalk
set_option linter.unusedVariables false
namespace Go.Proofs.Ytnalnhplcchdoaa.Rt
open Go.RowKit Go.Proofs.Ytnalnhplcchdoaa.Mem Go.Proofs.Ytnalnhplcchdoaa.Nm

theorem steps_rev {T : Tp} {a b : L} (h : laidB T a b = false) : stepsL T a b = (viaL T a b ++ [b]).reverse := by rw [steps_no h, via_no h]; simp
theorem steps_head {T : Tp} {a b : L} (h : laidB T a b = true) : stepsL T a b = [pl (viaL T a b ++ [b]) 0] := by
  rw [steps_of h, via_of h]
  cases vL T a b <;> rfl
/-- place i of the document's row is place j of the steps -/
theorem rev_pl {V : List L} {b : L} {i j : Nat} (h : i + j = V.length) : pl (V ++ [b]).reverse j = pl (V ++ [b]) i := pl_reverse (by simp; omega)
theorem rnext_at {T : Tp} {a b : L} {i : Nat} (hx : laidB T a b = false) (hab : a ≠ b) (hi : i ≤ (viaL T a b).length) (h : linkL T a (pl (viaL T a b ++ [b]) i) = true) (hn : ∀ k, i < k → k ≤ (viaL T a b).length → linkL T a (pl (viaL T a b ++ [b]) k) = false) : nxS T a b = pl (viaL T a b ++ [b]) i ∧ nxB T a b = true := by
  have hj : i + ((viaL T a b).length - i) = (viaL T a b).length := by omega
  have e := rev_pl (b := b) hj
  rw [← e, ← steps_rev hx]
  refine next_at hab (by rw [steps_rev hx]; simp; omega) (by rw [steps_rev hx, e]; exact h) fun k hk => ?_
  have hj2 : ((viaL T a b).length - k) + k = (viaL T a b).length := by omega
  rw [steps_rev hx, rev_pl hj2]
  exact hn _ (by omega) (by omega)
theorem rnext_none {T : Tp} {a b : L} (hx : laidB T a b = false) (hab : a ≠ b) (hn : ∀ k, k ≤ (viaL T a b).length → linkL T a (pl (viaL T a b ++ [b]) k) = false) : nxS T a b = [] ∧ nxB T a b = false := by
  refine next_none hab fun k hk => ?_
  rw [steps_rev hx] at hk ⊢
  simp only [List.length_reverse, List.length_append, List.length_cons, List.length_nil] at hk
  rw [rev_pl (i := (viaL T a b).length - k) (by omega)]
  exact hn _ (by omega)
theorem rnext_yes {T : Tp} {a b : L} (hx : laidB T a b = true) (hab : a ≠ b) (h : linkL T a (pl (viaL T a b ++ [b]) 0) = true) : nxS T a b = pl (viaL T a b ++ [b]) 0 ∧ nxB T a b = true := by
  rw [nxS, nxB, nextO, if_neg hab, steps_head hx, List.find?_cons, h]; exact ⟨rfl, rfl⟩
theorem rnext_no {T : Tp} {a b : L} (hx : laidB T a b = true) (hab : a ≠ b) (h : linkL T a (pl (viaL T a b ++ [b]) 0) = false) : nxS T a b = [] ∧ nxB T a b = false := by
  rw [nxS, nxB, nextO, if_neg hab, steps_head hx, List.find?_cons, h]; exact ⟨rfl, rfl⟩

theorem own_none (w : World) (base : Nat) (hb : base ≤ w.heap.size) : Own (w.alloc (.cells #[] 9)) base (.slice (some ⟨w.heap.size, 0, none⟩) 0 0) [] := World.ownsRow_lit w #[] 0 hb (by decide) rfl
set_option maxHeartbeats 3200000 in
theorem rnext_any (T : Tp) (v : Value) (B : Nat) (a b : L) (w : World) (hs : Sm T) (hv : TpV w B v T) (hB : B ≤ w.heap.size) (ha : a.length ≤ 1000000) (hb : b.length ≤ 1000000) :
    Calls Try.prog 18 #[v, .string ⟨a.toArray⟩, .string ⟨b.toArray⟩] w fun e w' => e = .returned (.tuple #[.string ⟨(nxS T a b).toArray⟩, .bool (nxB T a b)]) ∧ Below w.heap.size w w' := by
  have hv' := hv
  obtain ⟨v1, v2, v3, rfl, ⟨A1, d1, rfl, hc1, r1⟩, ⟨A2, d2, rfl, hc2, r2⟩, ⟨A3, d3, rfl, hc3, r3⟩⟩ := hv'
  obtain ⟨N, eN⟩ : ∃ N, N = w.heap.size := ⟨_, rfl⟩
  have hbb := (Below.refl w.heap.size w).alloc (Nat.le_refl _) (.cells #[.slice A1 T.R.length d1, .slice A2 T.K.length d2, .slice A3 T.P.length d3] 26)
  have HB := Lib.hid hbb; clear hbb
  have HK := Lib.hid (Blk.new w 26 #[.slice A1 T.R.length d1, .slice A2 T.K.length d2, .slice A3 T.P.length d3])
  have VI := Lib.hid (fun w1 (hb1 : Below N w w1) => rvia_any T _ B a b w1 hs (hv.below (hb1.mono (by omega))) (Nat.le_trans hB (by have := hb1.size; omega)) (by omega) (by omega))
  have LA := Lib.hid (fun w1 (hb1 : Below N w w1) => rlaid_any T _ B a b w1 hs (hv.below (hb1.mono (by omega))) (Nat.le_trans hB (by have := hb1.size; omega)))
  have LK := Lib.hid (fun r w1 (hb1 : Below N w w1) => rlinked_any T _ B a r w1 hs (hv.below (hb1.mono (by omega))) (Nat.le_trans hB (by have := hb1.size; omega)))
  have HL := Lib.hid (via_len (T := T) (a := a) (b := b) fun p hp => hs.v p hp)
  have hg := laidz_ge T a b
  have N1 := Lib.hid (fun i => @rnext_at T a b i); have N2 := Lib.hid (@rnext_none T a b); have N3 := Lib.hid (@rnext_yes T a b); have N4 := Lib.hid (@rnext_no T a b)
  rw [← eN] at HB
  have EN0 := Lib.hid eN
  rw [← eN]
  have HSZ := Lib.hid (show ∀ w1 : World, Below N w w1 → N ≤ w1.heap.size from fun w1 h => by have := h.size; have := EN0.out; omega)
  clear r1 r2 r3 hc1 hc2 hc3 hs hv ha hb eN hB
  by_cases hab : a = b
  · have E := Lib.hid (next_self T a)
    have t1 : (a == b) = true := by simpa using hab
    rw [← hab] at t1 ⊢
    clear hab
    go_enter Try.func18, Try.ntmps18
    go_wp2
    go_ret2
    exact ⟨by rw [E.out.1, E.out.2]; rfl, HB.out⟩
  · have t1 : (a == b) = false := by simpa using hab
    have HAB := Lib.hid hab; clear hab
    obtain ⟨z, ez⟩ : ∃ z, z = laidZ T a b := ⟨_, rfl⟩
    obtain ⟨V, eV⟩ : ∃ V, V = viaL T a b := ⟨_, rfl⟩
    rw [← ez] at LA hg
    rw [← eV] at VI HL N1 N2 N3 N4
    clear ez eV
    have HM0 := Lib.hid (show (w.alloc (.cells #[.slice A1 T.R.length d1, .slice A2 T.K.length d2, .slice A3 T.P.length d3] 26)).heap.size = N + 1 by rw [EN0.out]; simp)
    obtain ⟨W, eW⟩ : ∃ W, W = w.alloc (.cells #[.slice A1 T.R.length d1, .slice A2 T.K.length d2, .slice A3 T.P.length d3] 26) := ⟨_, rfl⟩
    rw [← eW] at HB HK HM0
    have ho := own_none W (N + 1) (by rw [HM0.out]; exact Nat.le_refl _)
    rw [show W.heap.size = w.heap.size + 1 by rw [eW]; simp] at ho
    have HO := Lib.hid ho; clear ho
    have H := Lib.hid (show Below (N + 1) W (W.alloc (.cells #[] 9)) from (Below.refl _ _).alloc (by rw [HM0.out]; exact Nat.le_refl _) _)
    have HMZ := Lib.hid (show ∀ w1 : World, Below (N + 1) W w1 → N + 1 ≤ w1.heap.size from fun w1 h => by have := h.size; have := HM0.out; omega)
    have HWN := Lib.hid (show ∀ w1 : World, Below (N + 1) W w1 → Below N w w1 from fun w1 h => HB.out.trans (h.mono (by omega)))
    have HKW := Lib.hid (show ∀ w1 : World, Below (N + 1) W w1 → Blk w1 w.heap.size 26 #[.slice A1 T.R.length d1, .slice A2 T.K.length d2, .slice A3 T.P.length d3] from fun w1 h => HK.out.below (h.mono (by rw [HM0.out]; exact Nat.le_refl _)))
    clear HK
    subst eW
    have HVL := HL.out
    have z0 := (HKW.out _ H.out).cell 0; have z1 := (HKW.out _ H.out).cell 1; have z2 := (HKW.out _ H.out).cell 2
    simp only [List.getElem?_toArray, List.getElem?_cons_zero, List.getElem?_cons_succ] at z0 z1 z2
    cases hx : laidB T a b with
    | true =>
      rw [hx] at hg
      go_enter Try.func18, Try.ntmps18
      go_wp2_with (first
        | (go_at_call 25; refine Calls.mono (VI.out _ (HWN.out _ H.out)) ?_; rintro e w1 ⟨u, rfl, ⟨A5, d5, rfl, _, r5⟩, hb⟩; have HR5 := Lib.hid r5; have HO1 := Lib.hid (HO.out.below hb); have H1 := Lib.hid (H.out.trans (hb.mono (HMZ.out _ H.out))); clear hb r5 H z0 z1 z2)
        | (at_builtin; refine app_rd rfl (.tmp 13) (.tmp 17) rfl (N + 1) _ [] rfl HO1.out w1.heap.size A5 d5 V rfl HR5.out (by simp; omega) (HMZ.out _ H1.out) ?_; intro v2 w2 ho2 hb2; have HO2 := Lib.hid ho2; have H2 := Lib.hid (H1.out.trans hb2); clear ho2 hb2 HR5 HO1 H1)
        | (at_builtin; refine app_one rfl (.tmp 18) (.tmp 20) rfl (N + 1) _ ([] ++ V) rfl HO2.out b rfl (by simp; omega) (HMZ.out _ H2.out) ?_; intro v3 w3 ho3 hb3; have HO3 := Lib.hid ho3; have H3 := Lib.hid (H2.out.trans hb3); clear ho3 hb3 HO2 H2; have k0 := (HKW.out _ H3.out).cell 0; have k1 := (HKW.out _ H3.out).cell 1; have k2 := (HKW.out _ H3.out).cell 2; simp only [List.getElem?_toArray, List.getElem?_cons_zero, List.getElem?_cons_succ] at k0 k1 k2)
        | (go_at_call 39; refine Calls.mono (LA.out _ (HWN.out _ H3.out)) ?_; rintro e w4 ⟨rfl, hb⟩; clear k0 k1 k2; have HO4 := Lib.hid (HO3.out.below hb); have H4 := Lib.hid (H3.out.trans (hb.mono (HMZ.out _ H3.out))); clear hb HO3 H3))
      obtain ⟨A6, d6, rfl, r6⟩ := HO4.out.slice
      have HR6 := Lib.hid r6
      obtain ⟨b6, o6, eA6, _, _⟩ := rd_txt r6 (i := 0) (by simp)
      subst eA6
      have hlen : ([] ++ V ++ [b] : List L).length = V.length + 1 := by simp
      have eap : ([] ++ V ++ [b] : List L) = V ++ [b] := by simp
      rw [eap] at HR6
      clear r6
      replace HR6 := Lib.hid (HR6.out.drewN 1)
      replace H4 := Lib.hid (below_drewN H4.out 1)
      have c5 := LK.out (pl (V ++ [b]) 0) w4.drew (HWN.out _ H4.out)
      have HP := Lib.hid (fun w1 (h : Rd w1 w1.heap.size (some ⟨b6, o6, none⟩) (strs (V ++ [b]))) => show w1.cell? ⟨b6, o6, none⟩ = _ from rd_cell h (i := 0) (by simp))
      have e0 : (0 : Int) < (V.length : Int) + 1 := by omega
      cases hk : linkL T a (pl (V ++ [b]) 0) with
      | true =>
        rw [hk] at c5
        have E := Lib.hid (N3.out hx HAB.out hk)
        clear hk
        rw [hlen]
        clear hlen eap
        go_region_held3 (fun w' => w'.cell? ⟨w.heap.size, 0, none⟩ = some (.slice A1 T.R.length d1) ∧ w'.cell? ⟨w.heap.size, 1, none⟩ = some (.slice A2 T.K.length d2) ∧ w'.cell? ⟨w.heap.size, 2, none⟩ = some (.slice A3 T.P.length d3) ∧ w'.cell? ⟨b6, o6, none⟩ = some (.string ⟨(pl (V ++ [b]) 0).toArray⟩)) (exact ⟨HKW.out _ H4.out |>.cell 0, HKW.out _ H4.out |>.cell 1, HKW.out _ H4.out |>.cell 2, HP.out _ HR6.out⟩) ((go_at_call 22; refine Calls.mono c5 ?_; rintro e w9 ⟨rfl, hb⟩; clear c5; replace HR6 := Lib.hid ((HR6.out.below hb).more hb.size); replace H4 := Lib.hid (H4.out.trans (hb.mono (HMZ.out _ H4.out))); clear hb))
        have h6 := HP.out _ HR6.out
        go_wp2
        go_ret2
        exact ⟨by rw [E.out.1, E.out.2]; rfl, HWN.out _ H4.out⟩
      | false =>
        rw [hk] at c5
        have E := Lib.hid (N4.out hx HAB.out hk)
        clear hk
        rw [hlen]
        clear hlen eap
        go_region_held3 (fun w' => w'.cell? ⟨w.heap.size, 0, none⟩ = some (.slice A1 T.R.length d1) ∧ w'.cell? ⟨w.heap.size, 1, none⟩ = some (.slice A2 T.K.length d2) ∧ w'.cell? ⟨w.heap.size, 2, none⟩ = some (.slice A3 T.P.length d3) ∧ w'.cell? ⟨b6, o6, none⟩ = some (.string ⟨(pl (V ++ [b]) 0).toArray⟩)) (exact ⟨HKW.out _ H4.out |>.cell 0, HKW.out _ H4.out |>.cell 1, HKW.out _ H4.out |>.cell 2, HP.out _ HR6.out⟩) ((go_at_call 22; refine Calls.mono c5 ?_; rintro e w9 ⟨rfl, hb⟩; clear c5; replace HR6 := Lib.hid ((HR6.out.below hb).more hb.size); replace H4 := Lib.hid (H4.out.trans (hb.mono (HMZ.out _ H4.out))); clear hb))
        go_wp2
        go_ret2
        exact ⟨by rw [E.out.1, E.out.2]; rfl, HWN.out _ H4.out⟩
    | false =>
      rw [hx] at hg
      go_enter Try.func18, Try.ntmps18
      go_wp2_with (first
        | (go_at_call 25; refine Calls.mono (VI.out _ (HWN.out _ H.out)) ?_; rintro e w1 ⟨u, rfl, ⟨A5, d5, rfl, _, r5⟩, hb⟩; have HR5 := Lib.hid r5; have HO1 := Lib.hid (HO.out.below hb); have H1 := Lib.hid (H.out.trans (hb.mono (HMZ.out _ H.out))); clear hb r5 H z0 z1 z2)
        | (at_builtin; refine app_rd rfl (.tmp 13) (.tmp 17) rfl (N + 1) _ [] rfl HO1.out w1.heap.size A5 d5 V rfl HR5.out (by simp; omega) (HMZ.out _ H1.out) ?_; intro v2 w2 ho2 hb2; have HO2 := Lib.hid ho2; have H2 := Lib.hid (H1.out.trans hb2); clear ho2 hb2 HR5 HO1 H1)
        | (at_builtin; refine app_one rfl (.tmp 18) (.tmp 20) rfl (N + 1) _ ([] ++ V) rfl HO2.out b rfl (by simp; omega) (HMZ.out _ H2.out) ?_; intro v3 w3 ho3 hb3; have HO3 := Lib.hid ho3; have H3 := Lib.hid (H2.out.trans hb3); clear ho3 hb3 HO2 H2; have k0 := (HKW.out _ H3.out).cell 0; have k1 := (HKW.out _ H3.out).cell 1; have k2 := (HKW.out _ H3.out).cell 2; simp only [List.getElem?_toArray, List.getElem?_cons_zero, List.getElem?_cons_succ] at k0 k1 k2)
        | (go_at_call 39; refine Calls.mono (LA.out _ (HWN.out _ H3.out)) ?_; rintro e w4 ⟨rfl, hb⟩; clear k0 k1 k2; have ho4 := HO3.out.below hb; have H4 := Lib.hid (H3.out.trans (hb.mono (HMZ.out _ H3.out))); clear hb HO3 H3; obtain ⟨A6, d6, e6, r6⟩ := ho4.slice; subst e6; obtain ⟨b6, o6, eA6, _, _⟩ := rd_txt r6 (i := 0) (by simp); subst eA6; have HR6 := Lib.hid r6; clear r6 ho4))
      have eap : ([] ++ V ++ [b] : List L) = V ++ [b] := by simp
      rw [eap] at HR6
      clear eap
      have HP := Lib.hid (fun i (hi : i < V.length + 1) w1 (h : Rd w1 w1.heap.size (some ⟨b6, o6, none⟩) (strs (V ++ [b]))) => rd_cell h (i := i) (by simp; omega))
      obtain ⟨n, en⟩ : ∃ n, n = V.length := ⟨_, rfl⟩
      rw [← en] at HP HL N1 N2 HVL
      rw [← en]
      have N11 := Lib.hid (fun i => N1.out i hx HAB.out); have N22 := Lib.hid (N2.out hx HAB.out)
      clear en N1 N2 N3 N4
      go_loopw [9] (fun iv wr => ∃ q : Int, -1 ≤ q ∧ q ≤ (n : Int) ∧ iv = .int .i64 q ∧ (∀ k : Nat, q < (k : Int) → k ≤ n → linkL T a (pl (V ++ [b]) k) = false) ∧ Rd wr wr.heap.size (some ⟨b6, o6, none⟩) (strs (V ++ [b])) ∧ Below (N + 1) _ wr) (fun iv _ => (intOf iv + 1).toNat)
      case atStart => exact ⟨(n : Int), by omega, by omega, by go_num, fun k h1 h2 => absurd h1 (by omega), HR6.out, H4.out⟩
      case round =>
        obtain ⟨q, hq1, hq2, rfl, hn, hr, hb⟩ := hrel
        have HN := Lib.hid hn; clear hn
        have HR6 := Lib.hid hr; have H4 := Lib.hid hb; clear hr hb
        by_cases hq : 0 ≤ q
        · obtain ⟨i, rfl⟩ : ∃ i : Nat, q = (i : Int) := ⟨q.toNat, by omega⟩
          have e1 : (i : Int) < (n : Int) + 1 := by omega
          have him : i < n + 1 := by omega
          replace HR6 := Lib.hid (HR6.out.drewN 1)
          replace H4 := Lib.hid (below_drewN H4.out 1)
          have c5 := LK.out (pl (V ++ [b]) i) wr.drew (HWN.out _ H4.out)
          have HPI := Lib.hid (HP.out i him)
          cases hk : linkL T a (pl (V ++ [b]) i) with
          | true =>
            rw [hk] at c5
            have E := Lib.hid (N11.out i (by omega) hk fun k h1 h2 => HN.out k (by omega) h2)
            clear hk
            go_wp2
            go_region_held3 (fun w' => w'.cell? ⟨w.heap.size, 0, none⟩ = some (.slice A1 T.R.length d1) ∧ w'.cell? ⟨w.heap.size, 1, none⟩ = some (.slice A2 T.K.length d2) ∧ w'.cell? ⟨w.heap.size, 2, none⟩ = some (.slice A3 T.P.length d3) ∧ w'.cell? ⟨b6, o6 + i, none⟩ = some (.string ⟨(pl (V ++ [b]) i).toArray⟩)) (exact ⟨HKW.out _ H4.out |>.cell 0, HKW.out _ H4.out |>.cell 1, HKW.out _ H4.out |>.cell 2, HPI.out _ HR6.out⟩) ((go_at_call 22; refine Calls.mono c5 ?_; rintro e w9 ⟨rfl, hb⟩; clear c5; replace HR6 := Lib.hid ((HR6.out.below hb).more hb.size); replace H4 := Lib.hid (H4.out.trans (hb.mono (HMZ.out _ H4.out))); clear hb))
            have h6 := HPI.out _ HR6.out
            go_wp2
            go_ret2
            exact ⟨by rw [E.out.1, E.out.2]; rfl, HWN.out _ H4.out⟩
          | false =>
            rw [hk] at c5
            have E := Lib.hid hk
            clear hk
            go_wp2
            go_region_held3 (fun w' => w'.cell? ⟨w.heap.size, 0, none⟩ = some (.slice A1 T.R.length d1) ∧ w'.cell? ⟨w.heap.size, 1, none⟩ = some (.slice A2 T.K.length d2) ∧ w'.cell? ⟨w.heap.size, 2, none⟩ = some (.slice A3 T.P.length d3) ∧ w'.cell? ⟨b6, o6 + i, none⟩ = some (.string ⟨(pl (V ++ [b]) i).toArray⟩)) (exact ⟨HKW.out _ H4.out |>.cell 0, HKW.out _ H4.out |>.cell 1, HKW.out _ H4.out |>.cell 2, HPI.out _ HR6.out⟩) ((go_at_call 22; refine Calls.mono c5 ?_; rintro e w9 ⟨rfl, hb⟩; clear c5; replace HR6 := Lib.hid ((HR6.out.below hb).more hb.size); replace H4 := Lib.hid (H4.out.trans (hb.mono (HMZ.out _ H4.out))); clear hb))
            go_wp2
            go_roundw
            case rel => exact ⟨(i : Int) - 1, by omega, by omega, by go_num, fun k h1 h2 => by
              by_cases e : k = i
              · rw [e]; exact E.out
              · exact HN.out k (by omega) h2, HR6.out, H4.out⟩
            case measure => simp [intOf]
        · have hq' : ¬ 0 ≤ q := hq
          have E := Lib.hid (N22.out fun k hk => HN.out k (by omega) hk)
          go_wp2
          go_ret2
          exact ⟨by rw [E.out.1, E.out.2]; rfl, HWN.out _ H4.out⟩
end Go.Proofs.Ytnalnhplcchdoaa.Rt
