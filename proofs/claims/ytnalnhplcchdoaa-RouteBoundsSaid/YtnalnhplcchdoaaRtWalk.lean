/-
  The code's Walk and Allowed.
-/
import Derived.Test.YtnalnhplcchdoaaRtNext
set_option linter.unusedVariables false
namespace Go.Proofs.Ytnalnhplcchdoaa.Rt
open Go.RowKit Go.Proofs.Ytnalnhplcchdoaa.Mem Go.Proofs.Ytnalnhplcchdoaa.Nm

theorem nexto_yes {T : Tp} {a b : L} (h : nxB T a b = true) : nextO T a b = some (nxS T a b) := by
  rw [nxB] at h
  rw [nxS]
  cases q : nextO T a b with
  | none => rw [q] at h; cases h
  | some n => rfl
theorem nexto_no {T : Tp} {a b : L} (h : nxB T a b = false) : nextO T a b = none := by
  rw [nxB] at h
  cases q : nextO T a b with
  | none => rfl
  | some n => rw [q] at h; cases h
theorem nx_small {T : Tp} {a b : L} (hs : Sm T) (ha : a.length ≤ 1000000) (hb : b.length ≤ 1000000) : (nxS T a b).length ≤ 1000000 := by
  cases h : nxB T a b with
  | false => rw [nxS, nexto_no h]; simp
  | true =>
    have h1 := nexto_yes h
    rw [nextO] at h1
    split at h1
    · cases h1
    · exact steps_small hs ha hb (List.mem_of_find?_eq_some h1)
section
variable {T : Tp} {a b x : L} {g : Nat} {l : List L}
theorem walk_end (h : x = b) : walkF T a b (g + 1) x l = some l := by rw [walkF, if_pos h]
theorem walk_none (h : x ≠ b) (h2 : nxB T x b = false) : walkF T a b (g + 1) x l = none := by rw [walkF, if_neg h, nexto_no h2]
theorem walk_from (h : x ≠ b) (h2 : nxB T x b = true) (h3 : nxS T x b = a) : walkF T a b (g + 1) x l = none := by
  rw [walkF, if_neg h, nexto_yes h2]
  simp only
  rw [if_pos (.inl h3)]
theorem walk_twice (h : x ≠ b) (h2 : nxB T x b = true) (h3 : nxS T x b ∈ l) : walkF T a b (g + 1) x l = none := by
  rw [walkF, if_neg h, nexto_yes h2]
  simp only
  rw [if_pos (.inr h3)]
theorem walk_last (h : x ≠ b) (h2 : nxB T x b = true) (h3 : nxS T x b ≠ a) (h4 : nxS T x b ∉ l) (h5 : nxS T x b = b) (h6 : l.length ≤ 5) : walkF T a b (g + 1) x l = walkF T a b g (nxS T x b) l := by
  rw [walkF, if_neg h, nexto_yes h2]
  simp only
  rw [if_neg (fun q => q.elim h3 h4), if_pos h5, if_neg (by omega)]
theorem walk_many (h : x ≠ b) (h2 : nxB T x b = true) (h5 : nxS T x b ≠ b) (h6 : 5 < l.length + 1) : walkF T a b (g + 1) x l = none := by
  rw [walkF, if_neg h, nexto_yes h2]
  simp only
  split
  · rfl
  · rw [if_pos (by simp; omega)]
theorem walk_more (h : x ≠ b) (h2 : nxB T x b = true) (h3 : nxS T x b ≠ a) (h4 : nxS T x b ∉ l) (h5 : nxS T x b ≠ b) (h6 : l.length + 1 ≤ 5) : walkF T a b (g + 1) x l = walkF T a b g (nxS T x b) (l ++ [nxS T x b]) := by
  rw [walkF, if_neg h, nexto_yes h2]
  simp only
  rw [if_neg (fun q => q.elim h3 h4), if_neg h5, if_neg (by simp; omega)]
theorem wk_some {o : Option (List L)} (h : o = walkO T a b) (h2 : o = some l) : wkL T a b = l ∧ wkB T a b = true := by rw [wkL, wkB, ← h, h2]; exact ⟨rfl, rfl⟩
theorem wk_none {o : Option (List L)} (h : o = walkO T a b) (h2 : o = none) : wkL T a b = [] ∧ wkB T a b = false := by rw [wkL, wkB, ← h, h2]; exact ⟨rfl, rfl⟩
end

set_option maxHeartbeats 3200000 in
theorem walk_any (T : Tp) (v : Value) (B : Nat) (a b : L) (w : World) (hs : Sm T) (hv : TpV w B v T) (hB : B ≤ w.heap.size) (ha : a.length ≤ 1000000) (hb : b.length ≤ 1000000) :
    Calls Try.prog 19 #[v, .string ⟨a.toArray⟩, .string ⟨b.toArray⟩] w fun e w' => ∃ u, e = .returned (.tuple #[u, .bool (wkB T a b)]) ∧ Own w' w.heap.size u (wkL T a b) ∧ Below w.heap.size w w' := by
  have hv' := hv
  obtain ⟨v1, v2, v3, rfl, ⟨A1, d1, rfl, hc1, r1⟩, ⟨A2, d2, rfl, hc2, r2⟩, ⟨A3, d3, rfl, hc3, r3⟩⟩ := hv'
  obtain ⟨N, eN⟩ : ∃ N, N = w.heap.size := ⟨_, rfl⟩
  have hbb := (Below.refl w.heap.size w).alloc (Nat.le_refl _) (.cells #[.slice A1 T.R.length d1, .slice A2 T.K.length d2, .slice A3 T.P.length d3] 26)
  have HB := Lib.hid hbb; clear hbb
  have HK := Lib.hid (Blk.new w 26 #[.slice A1 T.R.length d1, .slice A2 T.K.length d2, .slice A3 T.P.length d3])
  have NX := Lib.hid (fun (x : L) (hx : x.length ≤ 1000000) w1 (hb1 : Below N w w1) => next_any T _ B x b w1 hs (hv.below (hb1.mono (by omega))) (Nat.le_trans hB (by have := hb1.size; omega)) hx hb)
  have NS := Lib.hid (fun (x : L) (hx : x.length ≤ 1000000) => nx_small (T := T) (b := b) hs hx hb)
  rw [← eN] at HB
  have EN0 := Lib.hid eN
  rw [← eN]
  have HSZ := Lib.hid (show ∀ w1 : World, Below N w w1 → N ≤ w1.heap.size from fun w1 h => by have := h.size; have := EN0.out; omega)
  have HA := Lib.hid ha
  clear r1 r2 r3 hc1 hc2 hc3 hs hv ha hb eN hB
  go_enter Try.func19, Try.ntmps19
  go_wp2
  obtain ⟨W, eW⟩ : ∃ W, W = w.alloc (.cells #[.slice A1 T.R.length d1, .slice A2 T.K.length d2, .slice A3 T.P.length d3] 26) := ⟨_, rfl⟩
  rw [← eW] at HB HK ⊢
  clear eW
  have HSN := Lib.hid (show N ≤ W.heap.size from HSZ.out _ HB.out)
  go_loopg [8, 9] 7 (fun g0 lv xv wr => ∃ (g : Nat) (x : L) (l : List L), g = g0 ∧ xv = .string ⟨x.toArray⟩ ∧ Own wr W.heap.size lv l ∧ l.length ≤ 5 ∧ (x ≠ b → l.length + g = 7) ∧ 1 ≤ g ∧ walkF T a b g x l = walkO T a b ∧ x.length ≤ 1000000 ∧ Below W.heap.size W wr)
  case atStart => exact ⟨7, a, [], rfl, rfl, Own.nil _ _, by simp, fun _ => rfl, by omega, rfl, HA.out, Below.refl _ _⟩
  case round =>
    obtain ⟨g, x, l, eg, rfl, ho, hl5, hlg, hg, hw, hx, hbw⟩ := hrel
    have EG := Lib.hid eg; clear eg
    have HO := Lib.hid ho; clear ho
    have HBW := Lib.hid hbw; clear hbw
    have HB2 := Lib.hid (HB.out.trans (HBW.out.mono (HSZ.out _ HB.out)))
    have HL5 := Lib.hid hl5; have HLG := Lib.hid hlg; have HG := Lib.hid hg
    obtain ⟨g1, rfl⟩ : ∃ g1, g = g1 + 1 := ⟨g - 1, by have := HG.out; omega⟩
    have HW := Lib.hid hw; clear hw hl5 hlg hg
    have HKr := HK.out.below HBW.out
    have k0 := HKr.cell 0; have k1 := HKr.cell 1; have k2 := HKr.cell 2
    simp only [List.getElem?_toArray, List.getElem?_cons_zero, List.getElem?_cons_succ] at k0 k1 k2
    clear HKr
    by_cases hxb : x = b
    · have t1 : (x == b) = true := by simpa using hxb
      have E := Lib.hid (wk_some HW.out (walk_end hxb))
      clear hxb
      go_wp2
      go_ret2
      exact ⟨_, by rw [E.out.2]; rfl, by rw [E.out.1]; exact HO.out.from_ HSN.out, HB2.out⟩
    · have t1 : (x == b) = false := by simpa using hxb
      have c1 := NX.out x hx wr HB2.out
      have HSM := Lib.hid (NS.out x hx)
      obtain ⟨A5, d5, el, hr5⟩ := HO.out.slice
      subst el
      have HR5 := Lib.hid hr5; clear hr5
      cases q1 : nxB T x b with
      | false =>
        rw [q1] at c1
        have E := Lib.hid (wk_none HW.out (walk_none hxb q1))
        clear hxb q1 HSM
        go_wp2_with (go_at_call 17; refine Calls.mono c1 ?_; rintro e w3 ⟨rfl, hb⟩; clear c1; have H3 := Lib.hid (HB2.out.trans (hb.mono (HSZ.out _ HB2.out))); clear hb)
        go_ret2
        exact ⟨_, by rw [E.out.2]; rfl, by rw [E.out.1]; exact Own.nil _ _, H3.out⟩
      | true =>
        rw [q1] at c1
        have Q1 := Lib.hid q1
        obtain ⟨y, ey⟩ : ∃ y, y = nxS T x b := ⟨_, rfl⟩
        rw [← ey] at c1 HSM
        have EY := Lib.hid ey; clear ey q1
        by_cases q2 : y = a
        · have t2 : (y == a) = true := by simpa using q2
          have E := Lib.hid (wk_none HW.out (walk_from hxb Q1.out (by rw [← EY.out]; exact q2)))
          clear hxb q2
          go_wp2_with (go_at_call 17; refine Calls.mono c1 ?_; rintro e w3 ⟨rfl, hb⟩; clear c1; have H3 := Lib.hid (HB2.out.trans (hb.mono (HSZ.out _ HB2.out))); clear hb)
          go_ret2
          exact ⟨_, by rw [E.out.2]; rfl, by rw [E.out.1]; exact Own.nil _ _, H3.out⟩
        · have t2 : (y == a) = false := by simpa using q2
          have C2 := Lib.hid (fun w1 h => Tr.contains_any l A5 d5 wr.heap.size y w1 (by have := HL5.out; omega) h)
          by_cases q3 : y ∈ l
          · rw [decide_eq_true q3] at C2
            have E := Lib.hid (wk_none HW.out (walk_twice hxb Q1.out (by rw [← EY.out]; exact q3)))
            clear hxb q2 q3
            go_wp2_with (first
              | (go_at_call 17; refine Calls.mono c1 ?_; rintro e w3 ⟨rfl, hb⟩; clear c1; have H3 := Lib.hid (HB2.out.trans (hb.mono (HSZ.out _ HB2.out))); have c2 := C2.out w3 (HR5.out.below hb); clear hb)
              | (go_at_call 40; refine Calls.mono c2 ?_; rintro e w4 ⟨rfl, rfl⟩; clear c2))
            go_ret2
            exact ⟨_, by rw [E.out.2]; rfl, by rw [E.out.1]; exact Own.nil _ _, H3.out⟩
          · rw [decide_eq_false q3] at C2
            by_cases q4 : y = b
            · have t4 : (y == b) = true := by simpa using q4
              have E := Lib.hid (walk_last (g := g1) hxb Q1.out (by rw [← EY.out]; exact q2) (by rw [← EY.out]; exact q3) (by rw [← EY.out]; exact q4) HL5.out)
              rw [← EY.out] at E
              have Q4 := Lib.hid q4
              have HG2 := Lib.hid (HLG.out hxb)
              have t5 : ¬ ((5 : Int) < (l.length : Int)) := by have := HL5.out; omega
              clear hxb q2 q3 q4
              go_wp2_with (first
                | (go_at_call 17; refine Calls.mono c1 ?_; rintro e w3 ⟨rfl, hb⟩; clear c1; have H3 := Lib.hid (HBW.out.trans (hb.mono HBW.out.size)); have HO3 := Lib.hid (HO.out.below hb); have c2 := C2.out w3 (HR5.out.below hb); clear hb)
                | (go_at_call 40; refine Calls.mono c2 ?_; rintro e w4 ⟨rfl, rfl⟩; clear c2))
              go_roundg g1
              case measure => have := EG.out; omega
              case rel => exact ⟨g1, y, l, rfl, rfl, HO3.out, HL5.out, fun h => absurd Q4.out h, by have := HG2.out; have := HL5.out; omega, by rw [← E.out]; exact HW.out, HSM.out, H3.out⟩
            · have t4 : (y == b) = false := by simpa using q4
              have HAP := Lib.hid (show (l ++ [y]).length = l.length + 1 by simp)
              by_cases q5 : l.length + 1 ≤ 5
              · have E := Lib.hid (walk_more (g := g1) hxb Q1.out (by rw [← EY.out]; exact q2) (by rw [← EY.out]; exact q3) (by rw [← EY.out]; exact q4) q5)
                rw [← EY.out] at E
                have HG2 := Lib.hid (HLG.out hxb)
                have Q5 := Lib.hid q5
                have t5 : ¬ ((5 : Int) < (l.length : Int) + 1) := by omega
                clear hxb q2 q3 q4 q5
                go_wp2_with (first
                  | (go_at_call 17; refine Calls.mono c1 ?_; rintro e w3 ⟨rfl, hb⟩; clear c1; have H3 := Lib.hid (HBW.out.trans (hb.mono HBW.out.size)); have HO3 := Lib.hid (HO.out.below hb); have c2 := C2.out w3 (HR5.out.below hb); clear hb)
                  | (go_at_call 40; refine Calls.mono c2 ?_; rintro e w4 ⟨rfl, rfl⟩; clear c2)
                  | (at_builtin; refine app_one rfl (.tmp 38) (.tmp 40) rfl W.heap.size _ l rfl HO3.out y rfl (by have := HL5.out; omega) H3.out.size ?_; intro v5 w5 ho5 hb5; have HO5 := Lib.hid ho5; obtain ⟨A6, d6, e6, _⟩ := ho5.slice; subst e6; have H5 := Lib.hid (H3.out.trans hb5); clear ho5 hb5))
                go_roundg g1
                case measure => have := EG.out; omega
                case rel => exact ⟨g1, y, l ++ [y], rfl, rfl, by (have h := HO5.out; rw [HAP.out] at h; exact h), by rw [HAP.out]; exact Q5.out, fun _ => by rw [HAP.out]; have := HG2.out; omega, by have := HG2.out; have := HL5.out; omega, by rw [← E.out]; exact HW.out, HSM.out, H5.out⟩
              · have E := Lib.hid (wk_none HW.out (walk_many (g := g1) hxb Q1.out (by rw [← EY.out]; exact q4) (by omega)))
                have t5 : ((5 : Int) < (l.length : Int) + 1) := by omega
                clear hxb q2 q3 q4 q5
                go_wp2_with (first
                  | (go_at_call 17; refine Calls.mono c1 ?_; rintro e w3 ⟨rfl, hb⟩; clear c1; have H3 := Lib.hid (HBW.out.trans (hb.mono HBW.out.size)); have HO3 := Lib.hid (HO.out.below hb); have c2 := C2.out w3 (HR5.out.below hb); clear hb)
                  | (go_at_call 40; refine Calls.mono c2 ?_; rintro e w4 ⟨rfl, rfl⟩; clear c2)
                  | (at_builtin; refine app_one rfl (.tmp 38) (.tmp 40) rfl W.heap.size _ l rfl HO3.out y rfl (by have := HL5.out; omega) H3.out.size ?_; intro v5 w5 ho5 hb5; have HO5 := Lib.hid ho5; obtain ⟨A6, d6, e6, _⟩ := ho5.slice; subst e6; have H5 := Lib.hid (HB.out.trans ((H3.out.trans hb5).mono HSN.out)); clear ho5 hb5))
                go_ret2
                exact ⟨_, by rw [E.out.2]; rfl, by rw [E.out.1]; exact Own.nil _ _, H5.out⟩

set_option maxHeartbeats 800000 in
theorem allowed_any (T : Tp) (v : Value) (B : Nat) (a b : L) (ls : List L) (A : Option Addr) (c B2 : Nat) (w : World) (hs : Sm T) (hv : TpV w B v T) (hB : B ≤ w.heap.size) (ha : a.length ≤ 1000000) (hb : b.length ≤ 1000000) (hl : ls.length ≤ 1000000) (hr : Rd w B2 A (strs ls)) (hB2 : B2 ≤ w.heap.size) :
    Calls Try.prog 26 #[v, .string ⟨a.toArray⟩, .string ⟨b.toArray⟩, .slice A ls.length c] w fun e w' => e = .returned (.bool (allowB T a b ls)) ∧ Below w.heap.size w w' := by
  have hv' := hv
  obtain ⟨v1, v2, v3, rfl, ⟨A1, d1, rfl, hc1, r1⟩, ⟨A2, d2, rfl, hc2, r2⟩, ⟨A3, d3, rfl, hc3, r3⟩⟩ := hv'
  have hbb := (Below.refl w.heap.size w).alloc (Nat.le_refl _) (.cells #[.slice A1 T.R.length d1, .slice A2 T.K.length d2, .slice A3 T.P.length d3] 26)
  have c1 := vvia_any T _ B a b _ hs (hv.below (hbb.mono hB)) (Nat.le_trans hB hbb.size) (by omega) (by omega)
  have HL := Lib.hid (via_len (T := T) (a := a) (b := b) fun p hp => hs.v p hp)
  have HB := Lib.hid hbb; clear hbb
  have HR := Lib.hid hr
  have HB2 := Lib.hid hB2
  have EA := Lib.hid (show allowB T a b ls = ls.all fun r => decide (r ∈ viaL T a b) from rfl)
  obtain ⟨V, eV⟩ : ∃ V, V = viaL T a b := ⟨_, rfl⟩
  rw [← eV] at c1 HL EA
  rw [EA.out]
  clear EA
  have HFA := Lib.hid (fun i (h : i < ls.length) => all_false (p := fun r => decide (r ∈ V)) h)
  have HSU := Lib.hid (fun i (h : i < ls.length) => all_succ (p := fun r => decide (r ∈ V)) h)
  have HTK := Lib.hid (fun i => all_take (l := ls) (p := fun r => decide (r ∈ V)) (i := i))
  obtain ⟨n, en⟩ : ∃ n, n = ls.length := ⟨_, rfl⟩
  rw [← en] at hl ⊢
  have EN := Lib.hid en
  clear r1 r2 r3 hc1 hc2 hc3 hs hv ha hb hB hB2 hr eV en
  go_enter Try.func26, Try.ntmps26
  go_wp2_with (go_at_call 24; refine Calls.mono c1 ?_; rintro e w1 ⟨u, rfl, ho, hb⟩; clear c1; obtain ⟨A5, d5, rfl, hr5⟩ := ho.slice; have HR5 := Lib.hid hr5; replace HR := Lib.hid (HR.out.below ((HB.out.trans (hb.mono HB.out.size)).mono HB2.out)); replace HB := Lib.hid (HB.out.trans (hb.mono HB.out.size)); clear ho hr5 hb)
  obtain ⟨m, em⟩ : ∃ m, m = V.length := ⟨_, rfl⟩
  have C2 := Lib.hid (fun y => Tr.contains_any V A5 d5 w1.heap.size y w1 (by have := HL.out; omega) HR5.out)
  rw [← em] at C2 ⊢
  clear em
  go_loop [18] (fun iv => ∃ i : Nat, i ≤ n ∧ iv = .int .i64 (i : Int) ∧ ((ls.take i).all fun r => decide (r ∈ V)) = true) (fun iv => n - (intOf iv).toNat)
  case atStart => exact ⟨0, Nat.zero_le _, rfl, by simp⟩
  case round =>
    obtain ⟨i, hi, rfl, hn⟩ := hrel
    have HN := Lib.hid hn; clear hn
    by_cases hlt : i < n
    · have e1 : (i : Int) < (n : Int) := by omega
      have e2 : (0 : Int) ≤ (i : Int) := by omega
      have him : i < ls.length := by rw [← EN.out]; exact hlt
      have hal := HSU.out i him
      have haf := HFA.out i him
      rw [HN.out, Bool.true_and, ← pl_lt him] at hal
      rw [← pl_lt him] at haf
      obtain ⟨b1, o, rfl, _, h1⟩ := rd_txt HR.out him
      obtain ⟨y, ey⟩ : ∃ y, y = pl ls i := ⟨_, rfl⟩
      rw [← ey] at hal haf h1
      clear ey him
      have c2 := C2.out y
      by_cases hx : y ∈ V
      · rw [decide_eq_true hx] at c2 hal
        have E := Lib.hid hal
        clear hx hal haf
        go_wp2_with (go_at_call 40; refine Calls.mono c2 ?_; rintro e w4 ⟨rfl, rfl⟩; clear c2)
        go_round
        case rel => exact ⟨i + 1, by omega, by go_num, E.out⟩
        case measure => simp [intOf]; omega
      · rw [decide_eq_false hx] at c2 haf
        have E := Lib.hid (haf rfl)
        clear hx hal haf
        go_wp2_with (go_at_call 40; refine Calls.mono c2 ?_; rintro e w4 ⟨rfl, rfl⟩; clear c2)
        go_ret
        exact ⟨by rw [E.out]; rfl, HB.out⟩
    · have e1 : ¬ (i : Int) < (n : Int) := by omega
      have E := Lib.hid (HTK.out i (by have := EN.out; omega) HN.out)
      go_wp2
      go_ret
      exact ⟨by rw [E.out]; rfl, HB.out⟩
end Go.Proofs.Ytnalnhplcchdoaa.Rt
