/-
  The document's own of chapter 7: Walk, Allowed.
-/
import Derived.Test.YtnalnhplcchdoaaRtRef6
set_option linter.unusedVariables false
namespace Go.Proofs.Ytnalnhplcchdoaa.Rt
open Go.RowKit Go.Proofs.Ytnalnhplcchdoaa.Mem Go.Proofs.Ytnalnhplcchdoaa.Nm

theorem owns_heap {w w' : World} {base n size : Nat} {t : TypeId} {v : Value} {xs : List Value} (h : w.ownsRow base t size v n xs) (hk : ∀ g, v.ownBlock = some g → w'.heap[g]? = w.heap[g]?) : w'.ownsRow base t size v n xs := by
  refine ⟨h.1, ?_⟩
  rcases h.2 with h2 | ⟨g, cap, cur, h1, h2, h3, h4⟩
  · exact .inl h2
  · refine .inr ⟨g, cap, cur, h1, h2, ?_, h4⟩
    subst h1
    rw [hk g rfl]; exact h3
/-- no block in common -/
def Apart (v u : Value) : Prop := ∀ g, u.ownBlock = some g → v.ownBlock ≠ some g
theorem own_far {w w' : World} {v v' u : Value} {base : Nat} {ms : List L} (h : Own w base u ms) (hf : Tr.Far w w' v v') (ha : Apart v u) : Own w' base u ms ∧ Apart v' u := by
  refine ⟨owns_heap h fun g hg => (hf.2 g (h.lt g hg).2 (ha g hg)).1, fun g hg => (hf.2 g (h.lt g hg).2 (ha g hg)).2⟩
theorem Apart.symm {v u : Value} (h : Apart v u) : Apart u v := fun g h1 h2 => h g h2 h1
theorem apart_nil (v : Value) : Apart v (.slice none 0 0) := by intro g h; cases h
theorem seen_ge {x a : L} {l : List L} : decide (0 ≤ Tr.ixL x (a :: l)) = decide (x = a ∨ x ∈ l) := by
  rw [Tr.ix_ge]; simp

set_option maxHeartbeats 3200000 in
theorem rwalk_any (T : Tp) (v : Value) (B : Nat) (a b : L) (w : World) (hs : Sm T) (hv : TpV w B v T) (hB : B ≤ w.heap.size) (ha : a.length ≤ 1000000) (hb : b.length ≤ 1000000) :
    Calls Try.prog 20 #[v, .string ⟨a.toArray⟩, .string ⟨b.toArray⟩] w fun e w' => ∃ u, e = .returned (.tuple #[u, .bool (wkB T a b)]) ∧ Own w' w.heap.size u (wkL T a b) ∧ Below w.heap.size w w' := by
  have hv' := hv
  obtain ⟨v1, v2, v3, rfl, ⟨A1, d1, rfl, hc1, r1⟩, ⟨A2, d2, rfl, hc2, r2⟩, ⟨A3, d3, rfl, hc3, r3⟩⟩ := hv'
  obtain ⟨N, eN⟩ : ∃ N, N = w.heap.size := ⟨_, rfl⟩
  have hbb := (Below.refl w.heap.size w).alloc (Nat.le_refl _) (.cells #[.slice A1 T.R.length d1, .slice A2 T.K.length d2, .slice A3 T.P.length d3] 26)
  have HB := Lib.hid hbb; clear hbb
  have HK := Lib.hid (Blk.new w 26 #[.slice A1 T.R.length d1, .slice A2 T.K.length d2, .slice A3 T.P.length d3])
  have NX := Lib.hid (fun (x : L) (hx : x.length ≤ 1000000) w1 (hb1 : Below N w w1) => rnext_any T _ B x b w1 hs (hv.below (hb1.mono (by omega))) (Nat.le_trans hB (by have := hb1.size; omega)) hx hb)
  have NS := Lib.hid (fun (x : L) (hx : x.length ≤ 1000000) => nx_small (T := T) (b := b) hs hx hb)
  rw [← eN] at HB
  have EN0 := Lib.hid eN
  rw [← eN]
  have HSZ := Lib.hid (show ∀ w1 : World, Below N w w1 → N ≤ w1.heap.size from fun w1 h => by have := h.size; have := EN0.out; omega)
  have HA := Lib.hid ha
  clear r1 r2 r3 hc1 hc2 hc3 hs hv ha hb eN hB
  have HM0 := Lib.hid (show (w.alloc (.cells #[.slice A1 T.R.length d1, .slice A2 T.K.length d2, .slice A3 T.P.length d3] 26)).heap.size = N + 1 by rw [EN0.out]; simp)
  go_enter Try.func20, Try.ntmps20
  go_wp2
  obtain ⟨W, eW⟩ : ∃ W, W = w.alloc (.cells #[.slice A1 T.R.length d1, .slice A2 T.K.length d2, .slice A3 T.P.length d3] 26) := ⟨_, rfl⟩
  rw [← eW] at HB HK HM0 ⊢
  have hwz : W.heap.size = w.heap.size + 1 := by rw [eW]; simp
  clear eW
  have ho := own_lit W (N + 1) a (by rw [HM0.out]; exact Nat.le_refl _)
  rw [hwz] at ho
  have HO0 := Lib.hid ho; clear ho hwz
  have H0 := Lib.hid (show Below (N + 1) W (W.alloc (.cells #[.string ⟨a.toArray⟩] 9)) from (Below.refl _ _).alloc (by rw [HM0.out]; exact Nat.le_refl _) _)
  have HMZ := Lib.hid (show ∀ w1 : World, Below (N + 1) W w1 → N + 1 ≤ w1.heap.size from fun w1 h => by have := h.size; have := HM0.out; omega)
  have HWN := Lib.hid (show ∀ w1 : World, Below (N + 1) W w1 → Below N w w1 from fun w1 h => HB.out.trans (h.mono (by omega)))
  have HKW := Lib.hid (show ∀ w1 : World, Below (N + 1) W w1 → Blk w1 w.heap.size 26 #[.slice A1 T.R.length d1, .slice A2 T.K.length d2, .slice A3 T.P.length d3] from fun w1 h => HK.out.below (h.mono (by rw [HM0.out]; exact Nat.le_refl _)))
  clear HK
  go_loopg [8, 9, 10] 7 (fun g0 lv sv xv wr => ∃ (g : Nat) (x : L) (l s : List L), g = g0 ∧ xv = .string ⟨x.toArray⟩ ∧ Own wr (N + 1) lv l ∧ Own wr (N + 1) sv s ∧ Apart sv lv ∧ l.length ≤ 5 ∧ (x ≠ b → l.length + g = 7 ∧ s = a :: l) ∧ 1 ≤ g ∧ walkF T a b g x l = walkO T a b ∧ x.length ≤ 1000000 ∧ Below (N + 1) W wr)
  case atStart => exact ⟨7, a, [], [a], rfl, rfl, Own.nil _ _, HO0.out, apart_nil _, by simp, fun _ => ⟨rfl, rfl⟩, by omega, rfl, HA.out, H0.out⟩
  case round =>
    obtain ⟨g, x, l, s, eg, rfl, ho, hos, hap, hl5, hlg, hg, hw, hx, hbw⟩ := hrel
    have EG := Lib.hid eg; clear eg
    have HO := Lib.hid ho; have HOS := Lib.hid hos; have HAP := Lib.hid hap; clear ho hos hap
    have HBW := Lib.hid hbw; clear hbw
    have HL5 := Lib.hid hl5; have HLG := Lib.hid hlg; have HG := Lib.hid hg
    obtain ⟨g1, rfl⟩ : ∃ g1, g = g1 + 1 := ⟨g - 1, by have := HG.out; omega⟩
    have HW := Lib.hid hw; clear hw hl5 hlg hg
    have k0 := (HKW.out _ HBW.out).cell 0; have k1 := (HKW.out _ HBW.out).cell 1; have k2 := (HKW.out _ HBW.out).cell 2
    simp only [List.getElem?_toArray, List.getElem?_cons_zero, List.getElem?_cons_succ] at k0 k1 k2
    by_cases hxb : x = b
    · have t1 : (x == b) = true := by simpa using hxb
      have E := Lib.hid (wk_some HW.out (walk_end hxb))
      clear hxb
      go_wp2
      go_ret2
      exact ⟨_, by rw [E.out.2]; rfl, by rw [E.out.1]; exact HO.out.from_ (by omega), HWN.out _ HBW.out⟩
    · have t1 : (x == b) = false := by simpa using hxb
      have c1 := NX.out x hx wr (HWN.out _ HBW.out)
      have HSM := Lib.hid (NS.out x hx)
      cases q1 : nxB T x b with
      | false =>
        rw [q1] at c1
        have E := Lib.hid (wk_none HW.out (walk_none hxb q1))
        clear hxb q1 HSM
        go_wp2_with (go_at_call 18; refine Calls.mono c1 ?_; rintro e w3 ⟨rfl, hb⟩; clear c1; have H3 := Lib.hid (HBW.out.trans (hb.mono (HMZ.out _ HBW.out))); clear hb)
        go_ret2
        exact ⟨_, by rw [E.out.2]; rfl, by rw [E.out.1]; exact Own.nil _ _, HWN.out _ H3.out⟩
      | true =>
        rw [q1] at c1
        have Q1 := Lib.hid q1
        obtain ⟨y, ey⟩ : ∃ y, y = nxS T x b := ⟨_, rfl⟩
        rw [← ey] at c1 HSM
        have EY := Lib.hid ey; clear ey q1
        have hsl := (HLG.out hxb).2
        subst hsl
        have HG2 := Lib.hid (HLG.out hxb).1
        obtain ⟨A5, d5, el, hr5⟩ := HOS.out.slice
        subst el
        have HR5 := Lib.hid hr5; clear hr5
        have C2 := Lib.hid (fun w1 h => place_any (a :: l) A5 d5 wr.heap.size y w1 (by have := HL5.out; simp; omega) h)
        by_cases q2 : y = a ∨ y ∈ l
        · obtain ⟨z, ez, hz⟩ := place_in (ls := a :: l) (r := y) (by simpa using q2)
          rw [← ez] at C2
          have z1 : decide (0 ≤ z) = true := decide_eq_true hz
          have E := Lib.hid (show wkL T a b = [] ∧ wkB T a b = false from q2.elim (fun h => wk_none HW.out (walk_from hxb Q1.out (by rw [← EY.out]; exact h))) (fun h => wk_none HW.out (walk_twice hxb Q1.out (by rw [← EY.out]; exact h))))
          clear hxb q2 ez hz
          go_wp2_with (first
            | (go_at_call 18; refine Calls.mono c1 ?_; rintro e w3 ⟨rfl, hb⟩; clear c1; have H3 := Lib.hid (HBW.out.trans (hb.mono (HMZ.out _ HBW.out))); have c2 := C2.out w3 (HR5.out.below hb); clear hb)
            | (go_at_call 28; refine Calls.mono c2 ?_; rintro e w4 ⟨rfl, rfl⟩; clear c2))
          go_ret2
          exact ⟨_, by rw [E.out.2]; rfl, by rw [E.out.1]; exact Own.nil _ _, HWN.out _ H3.out⟩
        · obtain ⟨z, ez, hz⟩ := place_out (ls := a :: l) (r := y) (by simpa using q2)
          rw [← ez] at C2
          have z1 : decide (0 ≤ z) = false := decide_eq_false (by omega)
          have Q2 := Lib.hid (show y ≠ a from fun h => q2 (.inl h)); have Q3 := Lib.hid (show y ∉ l from fun h => q2 (.inr h))
          have HLS := Lib.hid (show (a :: l).length ≤ 6 by have := HL5.out; simp; omega)
          obtain ⟨S, eS⟩ : ∃ S, S = a :: l := ⟨_, rfl⟩
          have HES := Lib.hid eS
          rw [← eS] at C2 HOS HAP HLS HR5
          clear eS
          by_cases q4 : y = b
          · have t4 : (y == b) = true := by simpa using q4
            have E := Lib.hid (walk_last (g := g1) hxb Q1.out (by rw [← EY.out]; exact Q2.out) (by rw [← EY.out]; exact Q3.out) (by rw [← EY.out]; exact q4) HL5.out)
            rw [← EY.out] at E
            have Q4 := Lib.hid q4
            have t5 : ¬ ((5 : Int) < (l.length : Int)) := by have := HL5.out; omega
            clear hxb q2 q4 ez hz
            rw [show (a :: l).length = S.length by rw [HES.out]]
            go_wp2_with (first
              | (go_at_call 18; refine Calls.mono c1 ?_; rintro e w3 ⟨rfl, hb⟩; clear c1; have H3 := Lib.hid (HBW.out.trans (hb.mono (HMZ.out _ HBW.out))); have c2 := C2.out w3 (HR5.out.below hb); have HO3 := Lib.hid (HO.out.below hb); have HOS3 := Lib.hid (HOS.out.below hb); clear hb)
              | (go_at_call 28; refine Calls.mono c2 ?_; rintro e w4 ⟨rfl, rfl⟩; clear c2)
              | (at_builtin; refine Tr.app_keep rfl (.tmp 34) (.tmp 36) rfl (N + 1) _ S rfl HOS3.out y rfl (by have := HLS.out; omega) (HMZ.out _ H3.out) ?_; intro v5 w5 ho5 _ hf5 hb5; have HOS5 := Lib.hid ho5; have HF5 := Lib.hid (own_far HO3.out hf5 HAP.out); have H5 := Lib.hid (H3.out.trans hb5); clear ho5 hb5 hf5; obtain ⟨A7, d7, e7, _⟩ := HF5.out.1.slice; subst e7))
            go_roundg g1
            case measure => have := EG.out; omega
            case rel => exact ⟨g1, y, l, S ++ [y], rfl, rfl, HF5.out.1, HOS5.out, HF5.out.2, HL5.out, fun h => absurd Q4.out h, by have := HG2.out; have := HL5.out; omega, by rw [← E.out]; exact HW.out, HSM.out, H5.out⟩
          · have t4 : (y == b) = false := by simpa using q4
            have HAPP := Lib.hid (show (l ++ [y]).length = l.length + 1 by simp)
            by_cases q5 : l.length + 1 ≤ 5
            · have E := Lib.hid (walk_more (g := g1) hxb Q1.out (by rw [← EY.out]; exact Q2.out) (by rw [← EY.out]; exact Q3.out) (by rw [← EY.out]; exact q4) q5)
              rw [← EY.out] at E
              have Q5 := Lib.hid q5
              have t5 : ¬ ((5 : Int) < (l.length : Int) + 1) := by omega
              clear hxb q2 q4 q5 ez hz
              rw [show (a :: l).length = S.length by rw [HES.out]]
              go_wp2_with (first
                | (go_at_call 18; refine Calls.mono c1 ?_; rintro e w3 ⟨rfl, hb⟩; clear c1; have H3 := Lib.hid (HBW.out.trans (hb.mono (HMZ.out _ HBW.out))); have c2 := C2.out w3 (HR5.out.below hb); have HO3 := Lib.hid (HO.out.below hb); have HOS3 := Lib.hid (HOS.out.below hb); clear hb)
                | (go_at_call 28; refine Calls.mono c2 ?_; rintro e w4 ⟨rfl, rfl⟩; clear c2)
                | (at_builtin; refine Tr.app_keep rfl (.tmp 34) (.tmp 36) rfl (N + 1) _ S rfl HOS3.out y rfl (by have := HLS.out; omega) (HMZ.out _ H3.out) ?_; intro v5 w5 ho5 _ hf5 hb5; have HOS5 := Lib.hid ho5; have HF5 := Lib.hid (own_far HO3.out hf5 HAP.out); have H5 := Lib.hid (H3.out.trans hb5); clear ho5 hb5 hf5)
                | (at_builtin; refine Tr.app_keep rfl (.tmp 42) (.tmp 44) rfl (N + 1) _ l rfl HF5.out.1 y rfl (by have := HL5.out; omega) (HMZ.out _ H5.out) ?_; intro v6 w6 ho6 _ hf6 hb6; have HO6 := Lib.hid ho6; have HF6 := Lib.hid (own_far HOS5.out hf6 HF5.out.2.symm); have H6 := Lib.hid (H5.out.trans hb6); obtain ⟨A7, d7, e7, _⟩ := ho6.slice; subst e7; clear ho6 hb6 hf6))
              go_roundg g1
              case measure => have := EG.out; omega
              case rel => exact ⟨g1, y, l ++ [y], S ++ [y], rfl, rfl, by (have h := HO6.out; rw [HAPP.out] at h; exact h), HF6.out.1, by (have h := HF6.out.2.symm; rw [HAPP.out] at h; exact h), by rw [HAPP.out]; exact Q5.out, fun _ => ⟨by rw [HAPP.out]; have := HG2.out; omega, by rw [HES.out]; rfl⟩, by have := HG2.out; have := HL5.out; omega, by rw [← E.out]; exact HW.out, HSM.out, H6.out⟩
            · have E := Lib.hid (wk_none HW.out (walk_many (g := g1) hxb Q1.out (by rw [← EY.out]; exact q4) (by omega)))
              have t5 : ((5 : Int) < (l.length : Int) + 1) := by omega
              clear hxb q2 q4 q5 ez hz
              rw [show (a :: l).length = S.length by rw [HES.out]]
              go_wp2_with (first
                | (go_at_call 18; refine Calls.mono c1 ?_; rintro e w3 ⟨rfl, hb⟩; clear c1; have H3 := Lib.hid (HBW.out.trans (hb.mono (HMZ.out _ HBW.out))); have c2 := C2.out w3 (HR5.out.below hb); have HO3 := Lib.hid (HO.out.below hb); have HOS3 := Lib.hid (HOS.out.below hb); clear hb)
                | (go_at_call 28; refine Calls.mono c2 ?_; rintro e w4 ⟨rfl, rfl⟩; clear c2)
                | (at_builtin; refine Tr.app_keep rfl (.tmp 34) (.tmp 36) rfl (N + 1) _ S rfl HOS3.out y rfl (by have := HLS.out; omega) (HMZ.out _ H3.out) ?_; intro v5 w5 ho5 _ hf5 hb5; have HOS5 := Lib.hid ho5; have HF5 := Lib.hid (own_far HO3.out hf5 HAP.out); have H5 := Lib.hid (H3.out.trans hb5); clear ho5 hb5 hf5)
                | (at_builtin; refine Tr.app_keep rfl (.tmp 42) (.tmp 44) rfl (N + 1) _ l rfl HF5.out.1 y rfl (by have := HL5.out; omega) (HMZ.out _ H5.out) ?_; intro v6 w6 ho6 _ hf6 hb6; have HO6 := Lib.hid ho6; have HF6 := Lib.hid (own_far HOS5.out hf6 HF5.out.2.symm); have H6 := Lib.hid (H5.out.trans hb6); obtain ⟨A7, d7, e7, _⟩ := ho6.slice; subst e7; clear ho6 hb6 hf6))
              go_ret2
              exact ⟨_, by rw [E.out.2]; rfl, by rw [E.out.1]; exact Own.nil _ _, HWN.out _ H6.out⟩

set_option maxHeartbeats 800000 in
theorem rallowed_any (T : Tp) (v : Value) (B : Nat) (a b : L) (ls : List L) (A : Option Addr) (c B2 : Nat) (w : World) (hs : Sm T) (hv : TpV w B v T) (hB : B ≤ w.heap.size) (ha : a.length ≤ 1000000) (hb : b.length ≤ 1000000) (hl : ls.length ≤ 1000000) (hr : Rd w B2 A (strs ls)) (hB2 : B2 ≤ w.heap.size) :
    Calls Try.prog 27 #[v, .string ⟨a.toArray⟩, .string ⟨b.toArray⟩, .slice A ls.length c] w fun e w' => e = .returned (.bool (allowB T a b ls)) ∧ Below w.heap.size w w' := by
  have hv' := hv
  obtain ⟨v1, v2, v3, rfl, ⟨A1, d1, rfl, hc1, r1⟩, ⟨A2, d2, rfl, hc2, r2⟩, ⟨A3, d3, rfl, hc3, r3⟩⟩ := hv'
  have hbb := (Below.refl w.heap.size w).alloc (Nat.le_refl _) (.cells #[.slice A1 T.R.length d1, .slice A2 T.K.length d2, .slice A3 T.P.length d3] 26)
  have c1 := rvia_any T _ B a b _ hs (hv.below (hbb.mono hB)) (Nat.le_trans hB hbb.size) (by omega) (by omega)
  have HL := Lib.hid (via_len (T := T) (a := a) (b := b) fun p hp => hs.v p hp)
  have HB := Lib.hid hbb; clear hbb
  have HR := Lib.hid hr
  have HB2 := Lib.hid hB2
  have EA := Lib.hid (show allowB T a b ls = ls.all fun r => decide (r ∈ viaL T a b) from rfl)
  obtain ⟨V, eV⟩ : ∃ V, V = viaL T a b := ⟨_, rfl⟩
  rw [← eV] at c1 HL EA
  rw [EA.out]
  clear EA
  have HFA := Lib.hid (fun i (h : i < ls.length) => all_false (p := fun r => decide (r ∈ V)) h)
  have HSU := Lib.hid (fun i (h : i < ls.length) => all_succ (p := fun r => decide (r ∈ V)) h)
  have HTK := Lib.hid (fun i => all_take (l := ls) (p := fun r => decide (r ∈ V)) (i := i))
  obtain ⟨n, en⟩ : ∃ n, n = ls.length := ⟨_, rfl⟩
  rw [← en] at hl ⊢
  have EN := Lib.hid en
  clear r1 r2 r3 hc1 hc2 hc3 hs hv ha hb hB hB2 hr eV en
  go_enter Try.func27, Try.ntmps27
  go_wp2_with (go_at_call 25; refine Calls.mono c1 ?_; rintro e w1 ⟨u, rfl, ⟨A5, d5, rfl, _, hr5⟩, hb⟩; clear c1; have HR5 := Lib.hid hr5; replace HR := Lib.hid (HR.out.below ((HB.out.trans (hb.mono HB.out.size)).mono HB2.out)); replace HB := Lib.hid (HB.out.trans (hb.mono HB.out.size)); clear hr5 hb)
  obtain ⟨m, em⟩ : ∃ m, m = V.length := ⟨_, rfl⟩
  have C2 := Lib.hid (fun y => place_any V A5 d5 w1.heap.size y w1 (by have := HL.out; omega) HR5.out)
  rw [← em] at C2 ⊢
  clear em
  go_loop [10] (fun iv => ∃ i : Nat, i ≤ n ∧ iv = .int .i64 (i : Int) ∧ ((ls.take i).all fun r => decide (r ∈ V)) = true) (fun iv => n - (intOf iv).toNat)
  case atStart => exact ⟨0, Nat.zero_le _, rfl, by simp⟩
  case round =>
    obtain ⟨i, hi, rfl, hn⟩ := hrel
    have HN := Lib.hid hn; clear hn
    by_cases hlt : i < n
    · have e1 : (i : Int) < (n : Int) := by omega
      have e2 : (0 : Int) ≤ (i : Int) := by omega
      have him : i < ls.length := by rw [← EN.out]; exact hlt
      have hal := HSU.out i him
      have haf := HFA.out i him
      rw [HN.out, Bool.true_and, ← pl_lt him] at hal
      rw [← pl_lt him] at haf
      obtain ⟨b1, o, rfl, _, h1⟩ := rd_txt HR.out him
      obtain ⟨y, ey⟩ : ∃ y, y = pl ls i := ⟨_, rfl⟩
      rw [← ey] at hal haf h1
      clear ey him
      have c2 := C2.out y
      by_cases hx : y ∈ V
      · obtain ⟨z, ez, hz⟩ := place_in hx
        rw [← ez] at c2
        have z1 : decide (z < 0) = false := decide_eq_false (by omega)
        rw [decide_eq_true hx] at hal
        have E := Lib.hid hal
        clear hx hal haf ez hz
        go_wp2_with (go_at_call 28; refine Calls.mono c2 ?_; rintro e w4 ⟨rfl, rfl⟩; clear c2)
        go_round
        case rel => exact ⟨i + 1, by omega, by go_num, E.out⟩
        case measure => simp [intOf]; omega
      · obtain ⟨z, ez, hz⟩ := place_out hx
        rw [← ez] at c2
        have z1 : decide (z < 0) = true := decide_eq_true hz
        rw [decide_eq_false hx] at haf
        have E := Lib.hid (haf rfl)
        clear hx hal haf ez hz
        go_wp2_with (go_at_call 28; refine Calls.mono c2 ?_; rintro e w4 ⟨rfl, rfl⟩; clear c2)
        go_ret
        exact ⟨by rw [E.out]; rfl, HB.out⟩
    · have e1 : ¬ (i : Int) < (n : Int) := by omega
      have E := Lib.hid (HTK.out i (by have := EN.out; omega) HN.out)
      go_wp2
      go_ret
      exact ⟨by rw [E.out]; rfl, HB.out⟩
end Go.Proofs.Ytnalnhplcchdoaa.Rt
