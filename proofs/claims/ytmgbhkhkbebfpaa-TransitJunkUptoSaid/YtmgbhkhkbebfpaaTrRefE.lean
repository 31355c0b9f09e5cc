/-
  The document's own answer of chapter 6: Expand.
-/
import Derived.Test.YtmgbhkhkbebfpaaTrRefC
import Derived.Test.YtmgbhkhkbebfpaaTrExp
set_option linter.unusedVariables false
namespace Go.Proofs.Ytmgbhkhkbebfpaa.Tr
open Go.RowKit Go.Proofs.Ytmgbhkhkbebfpaa.Mem Go.Proofs.Ytmgbhkhkbebfpaa.Nm
attribute [local go_sem] mk_at List.getElem_cons_zero List.getElem_cons_succ ext_tail ext_drop ext_mid ext_take

theorem name_it {w : World} {B : Nat} {x : Value} {l : List L} (h : Own w B x l) : ∃ v, v = x ∧ Own w B v l := ⟨x, rfl, h⟩
/-- what is still to be answered ahead of piece i -/
def stE (c sv : L) (fs : List L) (i : Nat) (l : List L) (p : L) (nl : Bool) : List L × Nat := if i ≤ fs.length then expF c sv (fs.drop i) l p nl else (l, 0)
theorem st_lt {c sv : L} {fs : List L} {i : Nat} (l : List L) (p : L) (nl : Bool) (h : i < fs.length) : stE c sv fs i l p nl = expF c sv (pl fs i :: fs.drop (i + 1)) l p nl := by
  rw [stE, if_pos (by omega), List.drop_eq_getElem_cons h, pl_lt h]
theorem st_next {c sv : L} {fs : List L} {i : Nat} (l : List L) (p : L) (nl : Bool) (h : i < fs.length) : stE c sv fs (i + 1) l p nl = expF c sv (fs.drop (i + 1)) l p nl := by rw [stE, if_pos (by omega)]
theorem st_end {c sv : L} {fs : List L} {i : Nat} (l : List L) (p : L) (nl : Bool) (h : i = fs.length) : stE c sv fs i l p nl = overF (nullF c l p sv nl) := by
  rw [stE, if_pos (by omega), List.drop_of_length_le (by omega), expF_nil]
theorem st_over {c sv : L} {fs : List L} {i : Nat} (l : List L) (p : L) (nl : Bool) (h : fs.length < i) : stE c sv fs i l p nl = (l, 0) := by rw [stE, if_neg (by omega)]
theorem sub_real {f p : L} (h : isL (toldL f p) = true) : subL f p = toldL f p := sub_yes rfl h
theorem sub_none {f p : L} (h : isL (toldL f p) = false) : subL f p = [] := sub_no rfl h

set_option maxHeartbeats 400000 in
theorem rexp_not (s c sv : L) (w : World) (hc : c.length ≤ 1000000000) (hv : sv.length ≤ 1000000000) (h : isL c = false ∨ isL sv = false) :
    Calls Try.prog 17 #[.string ⟨s.toArray⟩, .string ⟨c.toArray⟩, .string ⟨sv.toArray⟩] w fun e w' => ExpV w' w.heap.size e (expL s c sv) ∧ Below w.heap.size w w' := by
  have E := Lib.hid (exp_no (s := s) h)
  have c1 := ris_any c w hc
  have C2 := Lib.hid (fun w1 => ris_any sv w1 hv)
  cases h1 : isL c with
  | false =>
    rw [h1] at c1
    clear h h1
    go_enter Try.func17, Try.ntmps17
    go_wp2_with (go_at_call 23; refine Calls.mono c1 ?_; rintro e w1 ⟨rfl, hb⟩; clear c1; have H1 := Lib.hid hb; clear hb)
    go_ret2
    exact ⟨⟨_, by rw [E.out]; rfl, by rw [E.out]; exact Own.nil _ _⟩, H1.out⟩
  | true =>
    rw [h1] at c1
    have h2 : isL sv = false := by
      rcases h with h | h
      · rw [h1] at h; cases h
      · exact h
    have c2 := fun w1 => C2.out w1
    rw [h2] at c2
    have C2' := Lib.hid c2
    clear h h1 h2 c2 C2
    go_enter Try.func17, Try.ntmps17
    go_wp2_with (first
      | (go_at_call 23; with_reducible refine Calls.mono c1 ?_; rintro e w1 ⟨rfl, hb⟩; clear c1; have H1 := Lib.hid hb; clear hb; have c2 := C2'.out w1)
      | (go_at_call 23; with_reducible refine Calls.mono c2 ?_; rintro e w2 ⟨rfl, hb⟩; clear c2; have H2 := Lib.hid (bt H1.out hb); clear hb))
    go_ret2
    exact ⟨⟨_, by rw [E.out]; rfl, by rw [E.out]; exact Own.nil _ _⟩, H2.out⟩

set_option maxHeartbeats 400000 in
theorem rexp_empty (c sv : L) (w : World) (hc : isL c = true) (hv : isL sv = true) :
    Calls Try.prog 17 #[.string ⟨#[]⟩, .string ⟨c.toArray⟩, .string ⟨sv.toArray⟩] w fun e w' => ExpV w' w.heap.size e (expL [] c sv) ∧ Below w.heap.size w w' := by
  have E := Lib.hid (exp_empty hc hv)
  have lc := real_len ((isL_iff c).1 hc)
  have lv := real_len ((isL_iff sv).1 hv)
  have c1 := ris_any c w (by omega)
  have c2 := fun w1 => ris_any sv w1 (by omega)
  rw [hc] at c1
  rw [hv] at c2
  have C2 := Lib.hid c2; clear c2 hc hv lc lv
  go_enter Try.func17, Try.ntmps17
  go_wp2_with (first
    | (go_at_call 23; with_reducible refine Calls.mono c1 ?_; rintro e w1 ⟨rfl, hb⟩; clear c1; have H1 := Lib.hid hb; clear hb; have c2 := C2.out w1)
    | (go_at_call 23; with_reducible refine Calls.mono c2 ?_; rintro e w2 ⟨rfl, hb⟩; clear c2; have H2 := Lib.hid (bt H1.out hb); clear hb))
  go_ret2
  exact ⟨⟨_, by rw [E.out]; rfl, by rw [E.out]; exact Own.nil _ _⟩, H2.out⟩

set_option maxHeartbeats 6400000 in
set_option maxRecDepth 100000 in
theorem rexp_yes (s c sv : L) (w : World) (hs0 : s ≠ []) (hs : s.length ≤ 90000) (hc : isL c = true) (hv : isL sv = true) :
    Calls Try.prog 17 #[.string ⟨s.toArray⟩, .string ⟨c.toArray⟩, .string ⟨sv.toArray⟩] w fun e w' => ExpV w' w.heap.size e (expL s c sv) ∧ Below w.heap.size w w' := by
  have lc := real_len ((isL_iff c).1 hc)
  have lv := real_len ((isL_iff sv).1 hv)
  have c1 := ris_any c w (by omega)
  have c2 := fun w1 => ris_any sv w1 (by omega)
  rw [hc] at c1
  rw [hv] at c2
  have C2 := Lib.hid c2; clear c2
  have C3 := Lib.hid (fun w1 => split_any s 44 w1 (by omega))
  have t0 : (s == []) = false := by simpa using hs0
  have ER : expF c sv (split 44 s) [] [] false = expL s c sv := (exp_some hc hv hs0).symm
  have hfl := split_le 44 s
  have hfm := split_mem 44 s
  obtain ⟨fs, efs⟩ : ∃ fs, fs = split 44 s := ⟨_, rfl⟩
  obtain ⟨R, eR⟩ : ∃ R, R = expL s c sv := ⟨_, rfl⟩
  rw [← eR, ← efs] at ER
  rw [← eR]
  rw [← efs] at C3 hfl hfm
  obtain ⟨F, eF⟩ : ∃ F, F = fs.length := ⟨_, rfl⟩
  have hF : F ≤ 90001 := by omega
  have HFM := Lib.hid (show ∀ i, i < fs.length → (pl fs i).length ≤ 90000 from fun i hi => Nat.le_trans (hfm _ (pl_mem hi)) hs)
  have HER := Lib.hid (show stE c sv fs 0 [] [] false = R by rw [stE, if_pos (Nat.zero_le _), List.drop_zero]; exact ER)
  have LC := Lib.hid lc
  have LV := Lib.hid lv
  have EF := Lib.hid eF
  clear eR hc hv ER hs lc lv hfl hfm efs eF hs0
  obtain ⟨N, eN⟩ : ∃ N, N = w.heap.size := ⟨_, rfl⟩
  rw [← eN]
  have EN := Lib.hid eN; clear eN
  have HN := Lib.hid (show ∀ w1 : World, Below N w w1 → N ≤ w1.heap.size from fun w1 h => by have := h.size; have := EN.out; omega)
  go_enter Try.func17, Try.ntmps17
  go_wp2_with (first
    | (go_at_call 23; with_reducible refine Calls.mono c1 ?_; rintro e w1 ⟨rfl, hb⟩; clear c1; have H1 := Lib.hid (hb.mono (Nat.le_of_eq EN.out)); clear hb; have c2 := C2.out w1)
    | (go_at_call 23; with_reducible refine Calls.mono c2 ?_; rintro e w2 ⟨rfl, hb⟩; clear c2; have H2 := Lib.hid (H1.out.trans (hb.mono (HN.out _ H1.out))); clear hb; have c3 := C3.out w2)
    | (go_at_call 34; refine Calls.mono c3 ?_; rintro e w5 ⟨v5, rfl, ho5, hb5⟩; clear c3; obtain ⟨A5, c5, rfl, hr5⟩ := ho5.slice; have H5 := Lib.hid (H2.out.trans (hb5.mono (HN.out _ H2.out))); have HR5 := Lib.hid hr5; clear ho5 hb5 hr5))
  rw [show fs.length = F from EF.out.symm]
  obtain ⟨B, eB⟩ : ∃ B, B = w5.heap.size := ⟨_, rfl⟩
  rw [← eB] at HR5
  have HNB := Lib.hid (show N ≤ B by rw [eB]; exact HN.out _ H5.out)
  have HB5 := Lib.hid (show Below B w5 w5 by exact Below.refl _ _)
  have EB := Lib.hid eB; clear eB
  have HBB := Lib.hid (show ∀ w1 : World, Below B w5 w1 → B ≤ w1.heap.size from fun w1 h => by have := h.size; have := EB.out; omega)
  have HEND := Lib.hid (show ∀ w1 : World, Below B w5 w1 → Below N w w1 from fun w1 h => H5.out.trans (h.mono HNB.out))
  go_loopg [9, 10, 11, 12] (F + 1) (fun g vv pv nv iv wr => ∃ (i : Nat) (l : List L) (p : L) (nl : Bool), i + g = F + 1 ∧ iv = .int .i64 (i : Int) ∧ pv = .string ⟨p.toArray⟩ ∧ nv = .bool nl ∧ stE c sv fs i l p nl = R ∧ l.length ≤ 8 ∧ p.length ≤ 36 ∧ Own wr B vv l ∧ Below B w5 wr)
  case atStart => exact ⟨0, [], [], false, Nat.zero_add _, rfl, rfl, rfl, HER.out, by simp, by simp, Own.nil _ _, HB5.out⟩
  case round =>
    obtain ⟨i, l, p, nl, hg, rfl, rfl, rfl, hR, hll, hpl, ho, hb⟩ := hrel
    obtain ⟨vv, evv, ho⟩ := name_it ho
    subst evv
    have HG := Lib.hid hg
    have HO := Lib.hid ho; clear ho
    have HB := Lib.hid hb; clear hb
    have HLL := Lib.hid hll; clear hll
    have HPL := Lib.hid hpl; clear hpl
    have hiF : i ≤ F + 1 := by omega
    clear hg
    have e0 : (0 : Int) ≤ (i : Int) := by omega
    by_cases hle : i ≤ F
    · have e1 : (i : Int) ≤ (F : Int) := by omega
      by_cases hlt : i < F
      · have e2 : (i : Int) < (F : Int) := by omega
        have him : i < fs.length := by rw [← EF.out]; exact hlt
        have hfl := HFM.out i him
        rw [st_lt l p nl him] at hR
        obtain ⟨b, o, rfl, _, h1⟩ := rd_txt (HR5.out.below HB.out) him
        have hst := fun l p nl => st_next (c := c) (sv := sv) l p nl him
        obtain ⟨u, eu⟩ : ∃ u, u = pl fs i := ⟨_, rfl⟩
        rw [← eu] at hR h1 hfl
        have HST := Lib.hid hst
        obtain ⟨tl, etl⟩ : ∃ tl, tl = fs.drop (i + 1) := ⟨_, rfl⟩
        rw [← etl] at hR HST
        clear eu him hst etl
        by_cases hu : u = []
        · subst hu
          rw [expF_null] at hR
          have HR := Lib.hid hR; clear hR
          go_wp2
          go_roundg (F + 1 - (i + 1))
          case measure => have := HG.out; omega
          case rel => exact ⟨i + 1, l, p, true, by have := HG.out; omega, by go_num, rfl, rfl, by rw [HST.out]; exact HR.out, HLL.out, HPL.out, HO.out, HB.out⟩
        · have tu : (u == []) = false := by simpa using hu
          have c3 := rsub_any u p wr hu (by omega) (by have := HPL.out; omega)
          cases hq : isL (toldL u p) with
          | false =>
            have E := Lib.hid (show R = ([], 2) by rw [← hR, expF_bad hu hq])
            rw [sub_none hq] at c3
            clear hR hu hq
            go_wp2_with (go_at_call 35; refine Calls.mono c3 ?_; rintro e w3 ⟨rfl, hb⟩; clear c3 h1; have H3 := Lib.hid (HEND.out _ (HB.out.trans (hb.mono (HBB.out _ HB.out)))); clear hb)
            go_ret2
            exact ⟨⟨_, by rw [E.out]; rfl, by rw [E.out]; exact Own.nil _ _⟩, H3.out⟩
          | true =>
            rw [sub_real hq] at c3
            have hmore := fun h8 => expF_more (c := c) (sv := sv) (t := tl) (l := l) (p := p) (n := nl) hu hq h8
            have hfull := fun h8 => expF_full (c := c) (sv := sv) (t := tl) (l := l) (p := p) (n := nl) hu hq h8
            obtain ⟨q, eq⟩ : ∃ q, q = toldL u p := ⟨_, rfl⟩
            rw [← eq] at c3 hq hmore hfull
            have hql := real_len ((isL_iff q).1 hq)
            have hqn := ne_of_kind ((isL_iff q).1 hq)
            have tq : (q == []) = false := by simpa using hqn
            have HQL := Lib.hid hql
            clear eq hql hqn hq hu
            cases nl with
            | false =>
              rw [null_f] at hmore hfull
              have c6 := fun w1 hb1 => radd_any _ l q w1 B (HO.out.below (w' := w1) hb1)
              obtain ⟨K, eK⟩ : ∃ K, K = addL l q := ⟨_, rfl⟩
              rw [← eK] at hmore hfull c6
              have C6 := Lib.hid c6
              clear c6 eK
              by_cases h8 : 8 < K.length
              · have e8 : (8 : Int) < (K.length : Int) := by omega
                have E := Lib.hid (show R = ([], 13) by rw [← hR, hfull h8])
                clear h8 hR hmore hfull
                go_wp2_with (first
                  | (go_at_call 35; refine Calls.mono c3 ?_; rintro e w3 ⟨rfl, hb⟩; clear c3 h1; have H3 := Lib.hid (HB.out.trans (hb.mono (HBB.out _ HB.out))); have c6 := C6.out w3 hb (HBB.out _ H3.out) (by have := HLL.out; omega); clear hb)
                  | (go_at_call 36; refine Calls.mono c6 ?_; rintro e w6 ⟨v6, rfl, ho6, _, _, hb6⟩; clear c6; obtain ⟨A6, c6, rfl, _⟩ := ho6.slice; have H6 := Lib.hid (HEND.out _ (H3.out.trans hb6)); clear ho6 hb6))
                go_ret2
                exact ⟨⟨_, by rw [E.out]; rfl, by rw [E.out]; exact Own.nil _ _⟩, H6.out⟩
              · have e8 : ¬ (8 : Int) < (K.length : Int) := by omega
                have HK8 := Lib.hid (show K.length ≤ 8 by omega)
                have HR := Lib.hid (show expF c sv tl K q false = R by rw [← hR, hmore (by omega)])
                clear h8 hR hmore hfull
                go_wp2_with (first
                  | (go_at_call 35; refine Calls.mono c3 ?_; rintro e w3 ⟨rfl, hb⟩; clear c3 h1; have H3 := Lib.hid (HB.out.trans (hb.mono (HBB.out _ HB.out))); have c6 := C6.out w3 hb (HBB.out _ H3.out) (by have := HLL.out; omega); clear hb)
                  | (go_at_call 36; refine Calls.mono c6 ?_; rintro e w6 ⟨v6, rfl, ho6, _, _, hb6⟩; clear c6; obtain ⟨A6, c6, rfl, _⟩ := ho6.slice; have H6 := Lib.hid (H3.out.trans hb6); have HO6 := Lib.hid ho6; clear ho6 hb6))
                go_roundg (F + 1 - (i + 1))
                case measure => have := HG.out; omega
                case rel => exact ⟨i + 1, K, q, false, by have := HG.out; omega, by go_num, rfl, rfl, by rw [HST.out]; exact HR.out, HK8.out, HQL.out, HO6.out, H6.out⟩
            | true =>
              rw [null_t] at hmore hfull
              by_cases hp : p = []
              · subst hp
                rw [from_nil] at hmore hfull
                have c7 := fun w1 => rbetween_any c q w1 (by have := LC.out; omega) (by have := HQL.out; omega)
                have hbl := between_len c q
                obtain ⟨M, eM⟩ : ∃ M, M = betweenL c q := ⟨_, rfl⟩
                rw [← eM] at c7 hbl hmore hfull
                have C7 := Lib.hid c7; clear c7
                have HBL := Lib.hid hbl; clear hbl
                clear eM
                obtain ⟨m, em⟩ : ∃ m, m = M.length := ⟨_, rfl⟩
                have hm9 : m ≤ 9 := by have := HBL.out; omega
                have EM := Lib.hid em; clear em
                go_wp2_with (first
                  | (go_at_call 35; refine Calls.mono c3 ?_; rintro e w3 ⟨rfl, hb⟩; clear c3 h1; have H3 := Lib.hid (HB.out.trans (hb.mono (HBB.out _ HB.out))); have HO3 := Lib.hid (HO.out.below hb); clear hb; have c7 := C7.out w3)
                  | (go_at_call 24; refine Calls.mono c7 ?_; rintro e w7 ⟨v7, rfl, ho7, hb7⟩; clear c7; obtain ⟨A7, c7, e7, hr7⟩ := ho7.slice; have hoff := off_new HO3.out ho7 e7; subst e7; have H7 := Lib.hid (H3.out.trans (hb7.mono (HBB.out _ H3.out))); have HO7 := Lib.hid (HO3.out.below hb7); have HR7 := Lib.hid hr7; have HOFF := Lib.hid hoff; rw [← EM.out]; clear hoff ho7 hb7 hr7))
                have HF7 := Lib.hid (Far.refl w7 vv)
                go_loopw [9, 16] (fun v2 kv wr => ∃ k : Nat, k ≤ m ∧ kv = .int .i64 (k : Int) ∧ Own wr B v2 (addsL l (M.take k)) ∧ Far w7 wr vv v2 ∧ Below B w5 wr) (fun _ kv _ => 10 - (intOf kv).toNat)
                case atStart => exact ⟨0, Nat.zero_le _, rfl, HO7.out, HF7.out, H7.out⟩
                case round =>
                  obtain ⟨k, hk, rfl, hok, hfk, hbk⟩ := hrel
                  have HOK := Lib.hid hok; clear hok
                  have HFK := Lib.hid hfk; clear hfk
                  have HBK := Lib.hid hbk; clear hbk
                  by_cases hkl : k < m
                  · have k1 : (k : Int) < (m : Int) := by omega
                    have k2 : (0 : Int) ≤ (k : Int) := by omega
                    have hkm : k < M.length := by rw [← EM.out]; exact hkl
                    obtain ⟨b7, o7, rfl, _, g1⟩ := rd_txt (HFK.out.rd HR7.out HOFF.out).1 hkm
                    have c8 := radd_any _ _ (pl M k) wr B HOK.out (HBB.out _ HBK.out) (by have := adds_len (M.take k) l; simp at this; have := HLL.out; omega)
                    rw [← addsK l M k hkm] at c8
                    clear hkm
                    go_wp2_with (go_at_call 36; refine Calls.mono c8 ?_; rintro e w8 ⟨v8, rfl, ho8, _, hf8, hb8⟩; clear c8 g1; have HO8 := Lib.hid ho8; have HF8 := Lib.hid (HFK.out.trans hf8); have H8 := Lib.hid (HBK.out.trans hb8); clear ho8 hf8 hb8)
                    go_roundw
                    case rel => exact ⟨k + 1, by omega, by go_num, HO8.out, HF8.out, H8.out⟩
                    case measure => simp [intOf]; omega
                  · have k1 : ¬ (k : Int) < (m : Int) := by omega
                    have ek : M.take k = M := List.take_of_length_le (by have := EM.out; omega)
                    rw [ek] at HOK
                    clear ek
                    obtain ⟨J, eJ⟩ : ∃ J, J = addsL l M := ⟨_, rfl⟩
                    have HJL := Lib.hid (show J.length ≤ 17 by rw [eJ]; have := adds_len M l; have := HLL.out; have := EM.out; omega)
                    rw [← eJ] at HOK hmore hfull
                    clear eJ
                    have c6 := radd_any _ J q wr B HOK.out (HBB.out _ HBK.out) (by have := HJL.out; omega)
                    obtain ⟨K, eK⟩ : ∃ K, K = addL J q := ⟨_, rfl⟩
                    rw [← eK] at hmore hfull c6
                    clear eK
                    by_cases h8 : 8 < K.length
                    · have e8 : (8 : Int) < (K.length : Int) := by omega
                      have E := Lib.hid (show R = ([], 13) by rw [← hR, hfull h8])
                      clear h8 hR hmore hfull
                      go_wp2_with (go_at_call 36; refine Calls.mono c6 ?_; rintro e w6 ⟨v6, rfl, ho6, _, _, hb6⟩; clear c6; obtain ⟨A6, c6, rfl, _⟩ := ho6.slice; have H6 := Lib.hid (HEND.out _ (HBK.out.trans hb6)); clear ho6 hb6)
                      go_ret2
                      exact ⟨⟨_, by rw [E.out]; rfl, by rw [E.out]; exact Own.nil _ _⟩, H6.out⟩
                    · have e8 : ¬ (8 : Int) < (K.length : Int) := by omega
                      have HK8 := Lib.hid (show K.length ≤ 8 by omega)
                      have HR := Lib.hid (show expF c sv tl K q false = R by rw [← hR, hmore (by omega)])
                      clear h8 hR hmore hfull
                      go_wp2_with (go_at_call 36; refine Calls.mono c6 ?_; rintro e w6 ⟨v6, rfl, ho6, _, _, hb6⟩; clear c6; obtain ⟨A6, c6, rfl, _⟩ := ho6.slice; have H6 := Lib.hid (HBK.out.trans hb6); have HO6 := Lib.hid ho6; clear ho6 hb6)
                      go_roundg (F + 1 - (i + 1))
                      case measure => have := HG.out; omega
                      case rel => exact ⟨i + 1, K, q, false, by have := HG.out; omega, by go_num, rfl, rfl, by rw [HST.out]; exact HR.out, HK8.out, HQL.out, HO6.out, H6.out⟩
              · have tp : (p == []) = false := by simpa using hp
                rw [from_p hp] at hmore hfull
                clear hp
                have c7 := fun w1 => rbetween_any p q w1 (by have := HPL.out; omega) (by have := HQL.out; omega)
                have hbl := between_len p q
                obtain ⟨M, eM⟩ : ∃ M, M = betweenL p q := ⟨_, rfl⟩
                rw [← eM] at c7 hbl hmore hfull
                have C7 := Lib.hid c7; clear c7
                have HBL := Lib.hid hbl; clear hbl
                clear eM
                obtain ⟨m, em⟩ : ∃ m, m = M.length := ⟨_, rfl⟩
                have hm9 : m ≤ 9 := by have := HBL.out; omega
                have EM := Lib.hid em; clear em
                go_wp2_with (first
                  | (go_at_call 35; refine Calls.mono c3 ?_; rintro e w3 ⟨rfl, hb⟩; clear c3 h1; have H3 := Lib.hid (HB.out.trans (hb.mono (HBB.out _ HB.out))); have HO3 := Lib.hid (HO.out.below hb); clear hb; have c7 := C7.out w3)
                  | (go_at_call 24; refine Calls.mono c7 ?_; rintro e w7 ⟨v7, rfl, ho7, hb7⟩; clear c7; obtain ⟨A7, c7, e7, hr7⟩ := ho7.slice; have hoff := off_new HO3.out ho7 e7; subst e7; have H7 := Lib.hid (H3.out.trans (hb7.mono (HBB.out _ H3.out))); have HO7 := Lib.hid (HO3.out.below hb7); have HR7 := Lib.hid hr7; have HOFF := Lib.hid hoff; rw [← EM.out]; clear hoff ho7 hb7 hr7))
                have HF7 := Lib.hid (Far.refl w7 vv)
                go_loopw [9, 16] (fun v2 kv wr => ∃ k : Nat, k ≤ m ∧ kv = .int .i64 (k : Int) ∧ Own wr B v2 (addsL l (M.take k)) ∧ Far w7 wr vv v2 ∧ Below B w5 wr) (fun _ kv _ => 10 - (intOf kv).toNat)
                case atStart => exact ⟨0, Nat.zero_le _, rfl, HO7.out, HF7.out, H7.out⟩
                case round =>
                  obtain ⟨k, hk, rfl, hok, hfk, hbk⟩ := hrel
                  have HOK := Lib.hid hok; clear hok
                  have HFK := Lib.hid hfk; clear hfk
                  have HBK := Lib.hid hbk; clear hbk
                  by_cases hkl : k < m
                  · have k1 : (k : Int) < (m : Int) := by omega
                    have k2 : (0 : Int) ≤ (k : Int) := by omega
                    have hkm : k < M.length := by rw [← EM.out]; exact hkl
                    obtain ⟨b7, o7, rfl, _, g1⟩ := rd_txt (HFK.out.rd HR7.out HOFF.out).1 hkm
                    have c8 := radd_any _ _ (pl M k) wr B HOK.out (HBB.out _ HBK.out) (by have := adds_len (M.take k) l; simp at this; have := HLL.out; omega)
                    rw [← addsK l M k hkm] at c8
                    clear hkm
                    go_wp2_with (go_at_call 36; refine Calls.mono c8 ?_; rintro e w8 ⟨v8, rfl, ho8, _, hf8, hb8⟩; clear c8 g1; have HO8 := Lib.hid ho8; have HF8 := Lib.hid (HFK.out.trans hf8); have H8 := Lib.hid (HBK.out.trans hb8); clear ho8 hf8 hb8)
                    go_roundw
                    case rel => exact ⟨k + 1, by omega, by go_num, HO8.out, HF8.out, H8.out⟩
                    case measure => simp [intOf]; omega
                  · have k1 : ¬ (k : Int) < (m : Int) := by omega
                    have ek : M.take k = M := List.take_of_length_le (by have := EM.out; omega)
                    rw [ek] at HOK
                    clear ek
                    obtain ⟨J, eJ⟩ : ∃ J, J = addsL l M := ⟨_, rfl⟩
                    have HJL := Lib.hid (show J.length ≤ 17 by rw [eJ]; have := adds_len M l; have := HLL.out; have := EM.out; omega)
                    rw [← eJ] at HOK hmore hfull
                    clear eJ
                    have c6 := radd_any _ J q wr B HOK.out (HBB.out _ HBK.out) (by have := HJL.out; omega)
                    obtain ⟨K, eK⟩ : ∃ K, K = addL J q := ⟨_, rfl⟩
                    rw [← eK] at hmore hfull c6
                    clear eK
                    by_cases h8 : 8 < K.length
                    · have e8 : (8 : Int) < (K.length : Int) := by omega
                      have E := Lib.hid (show R = ([], 13) by rw [← hR, hfull h8])
                      clear h8 hR hmore hfull
                      go_wp2_with (go_at_call 36; refine Calls.mono c6 ?_; rintro e w6 ⟨v6, rfl, ho6, _, _, hb6⟩; clear c6; obtain ⟨A6, c6, rfl, _⟩ := ho6.slice; have H6 := Lib.hid (HEND.out _ (HBK.out.trans hb6)); clear ho6 hb6)
                      go_ret2
                      exact ⟨⟨_, by rw [E.out]; rfl, by rw [E.out]; exact Own.nil _ _⟩, H6.out⟩
                    · have e8 : ¬ (8 : Int) < (K.length : Int) := by omega
                      have HK8 := Lib.hid (show K.length ≤ 8 by omega)
                      have HR := Lib.hid (show expF c sv tl K q false = R by rw [← hR, hmore (by omega)])
                      clear h8 hR hmore hfull
                      go_wp2_with (go_at_call 36; refine Calls.mono c6 ?_; rintro e w6 ⟨v6, rfl, ho6, _, _, hb6⟩; clear c6; obtain ⟨A6, c6, rfl, _⟩ := ho6.slice; have H6 := Lib.hid (HBK.out.trans hb6); have HO6 := Lib.hid ho6; clear ho6 hb6)
                      go_roundg (F + 1 - (i + 1))
                      case measure => have := HG.out; omega
                      case rel => exact ⟨i + 1, K, q, false, by have := HG.out; omega, by go_num, rfl, rfl, by rw [HST.out]; exact HR.out, HK8.out, HQL.out, HO6.out, H6.out⟩
      · have hiF2 : i = F := by omega
        have e2 : ¬ (i : Int) < (F : Int) := by omega
        have hend := fun l p nl => st_end (c := c) (sv := sv) (i := i) l p nl (by rw [← EF.out]; exact hiF2)
        have hover := fun l p nl => st_over (c := c) (sv := sv) (i := i + 1) l p nl (by rw [← EF.out]; omega)
        have HOV := Lib.hid hover; clear hover
        rw [hend] at hR
        clear hend
        cases nl with
        | false =>
          have hll := HLL.out
          have hR' : R = (l, 0) := by rw [← hR, null_f, over_ok hll]
          have HR := Lib.hid hR'
          clear hR hR'
          obtain ⟨A0, c0, rfl, _⟩ := HO.out.slice
          have e8 : ¬ (8 : Int) < (l.length : Int) := by omega
          go_wp2
          go_roundg (F + 1 - (i + 1))
          case measure => have := HG.out; omega
          case rel => exact ⟨i + 1, l, p, false, by have := HG.out; omega, by go_num, rfl, rfl, by rw [HOV.out]; exact HR.out.symm, HLL.out, HPL.out, HO.out, HB.out⟩
        | true =>
          rw [null_t] at hR
          by_cases hp : p = []
          · subst hp
            rw [from_nil] at hR
            have c7 := fun w1 => rbetween_any c sv w1 (by have := LC.out; omega) (by have := LV.out; omega)
            have hbl := between_len c sv
            obtain ⟨M, eM⟩ : ∃ M, M = betweenL c sv := ⟨_, rfl⟩
            rw [← eM] at c7 hbl hR
            have C7 := Lib.hid c7; clear c7
            have HBL := Lib.hid hbl; clear hbl
            clear eM
            obtain ⟨m, em⟩ : ∃ m, m = M.length := ⟨_, rfl⟩
            have hm9 : m ≤ 9 := by have := HBL.out; omega
            have EM := Lib.hid em; clear em
            have c7 := C7.out wr
            go_wp2_with (go_at_call 24; refine Calls.mono c7 ?_; rintro e w7 ⟨v7, rfl, ho7, hb7⟩; clear c7; obtain ⟨A7, c7, e7, hr7⟩ := ho7.slice; have hoff := off_new HO.out ho7 e7; subst e7; have H7 := Lib.hid (HB.out.trans (hb7.mono (HBB.out _ HB.out))); have HO7 := Lib.hid (HO.out.below hb7); have HR7 := Lib.hid hr7; have HOFF := Lib.hid hoff; rw [← EM.out]; clear hoff ho7 hb7 hr7)
            have HF7 := Lib.hid (Far.refl w7 vv)
            go_loopw [9, 16] (fun v2 kv wr => ∃ k : Nat, k ≤ m ∧ kv = .int .i64 (k : Int) ∧ Own wr B v2 (addsL l (M.take k)) ∧ Far w7 wr vv v2 ∧ Below B w5 wr) (fun _ kv _ => 10 - (intOf kv).toNat)
            case atStart => exact ⟨0, Nat.zero_le _, rfl, HO7.out, HF7.out, H7.out⟩
            case round =>
              obtain ⟨k, hk, rfl, hok, hfk, hbk⟩ := hrel
              have HOK := Lib.hid hok; clear hok
              have HFK := Lib.hid hfk; clear hfk
              have HBK := Lib.hid hbk; clear hbk
              by_cases hkl : k < m
              · have k1 : (k : Int) < (m : Int) := by omega
                have k2 : (0 : Int) ≤ (k : Int) := by omega
                have hkm : k < M.length := by rw [← EM.out]; exact hkl
                obtain ⟨b7, o7, rfl, _, g1⟩ := rd_txt (HFK.out.rd HR7.out HOFF.out).1 hkm
                have c8 := radd_any _ _ (pl M k) wr B HOK.out (HBB.out _ HBK.out) (by have := adds_len (M.take k) l; simp at this; have := HLL.out; omega)
                rw [← addsK l M k hkm] at c8
                clear hkm
                go_wp2_with (go_at_call 36; refine Calls.mono c8 ?_; rintro e w8 ⟨v8, rfl, ho8, _, hf8, hb8⟩; clear c8 g1; have HO8 := Lib.hid ho8; have HF8 := Lib.hid (HFK.out.trans hf8); have H8 := Lib.hid (HBK.out.trans hb8); clear ho8 hf8 hb8)
                go_roundw
                case rel => exact ⟨k + 1, by omega, by go_num, HO8.out, HF8.out, H8.out⟩
                case measure => simp [intOf]; omega
              · have k1 : ¬ (k : Int) < (m : Int) := by omega
                have ek : M.take k = M := List.take_of_length_le (by have := EM.out; omega)
                rw [ek] at HOK
                clear ek
                obtain ⟨J, eJ⟩ : ∃ J, J = addsL l M := ⟨_, rfl⟩
                have HJL := Lib.hid (show J.length ≤ 17 by rw [eJ]; have := adds_len M l; have := HLL.out; have := EM.out; omega)
                rw [← eJ] at HOK hR
                clear eJ
                obtain ⟨A6, c6, rfl, _⟩ := HOK.out.slice
                by_cases h8 : 8 < J.length
                · have e8 : (8 : Int) < (J.length : Int) := by omega
                  have E := Lib.hid (show R = ([], 13) by rw [← hR, over_full h8])
                  clear h8 hR
                  go_wp2
                  go_ret2
                  exact ⟨⟨_, by rw [E.out]; rfl, by rw [E.out]; exact Own.nil _ _⟩, HEND.out _ HBK.out⟩
                · have e8 : ¬ (8 : Int) < (J.length : Int) := by omega
                  have HK8 := Lib.hid (show J.length ≤ 8 by omega)
                  have HR := Lib.hid (show R = (J, 0) by rw [← hR, over_ok (by omega)])
                  clear h8 hR
                  go_wp2
                  go_roundg (F + 1 - (i + 1))
                  case measure => have := HG.out; omega
                  case rel => exact ⟨i + 1, J, [], false, by have := HG.out; omega, by go_num, rfl, rfl, by rw [HOV.out]; exact HR.out.symm, HK8.out, HPL.out, HOK.out, HBK.out⟩
          · have tp : (p == []) = false := by simpa using hp
            rw [from_p hp] at hR
            clear hp
            have c7 := fun w1 => rbetween_any p sv w1 (by have := HPL.out; omega) (by have := LV.out; omega)
            have hbl := between_len p sv
            obtain ⟨M, eM⟩ : ∃ M, M = betweenL p sv := ⟨_, rfl⟩
            rw [← eM] at c7 hbl hR
            have C7 := Lib.hid c7; clear c7
            have HBL := Lib.hid hbl; clear hbl
            clear eM
            obtain ⟨m, em⟩ : ∃ m, m = M.length := ⟨_, rfl⟩
            have hm9 : m ≤ 9 := by have := HBL.out; omega
            have EM := Lib.hid em; clear em
            have c7 := C7.out wr
            go_wp2_with (go_at_call 24; refine Calls.mono c7 ?_; rintro e w7 ⟨v7, rfl, ho7, hb7⟩; clear c7; obtain ⟨A7, c7, e7, hr7⟩ := ho7.slice; have hoff := off_new HO.out ho7 e7; subst e7; have H7 := Lib.hid (HB.out.trans (hb7.mono (HBB.out _ HB.out))); have HO7 := Lib.hid (HO.out.below hb7); have HR7 := Lib.hid hr7; have HOFF := Lib.hid hoff; rw [← EM.out]; clear hoff ho7 hb7 hr7)
            have HF7 := Lib.hid (Far.refl w7 vv)
            go_loopw [9, 16] (fun v2 kv wr => ∃ k : Nat, k ≤ m ∧ kv = .int .i64 (k : Int) ∧ Own wr B v2 (addsL l (M.take k)) ∧ Far w7 wr vv v2 ∧ Below B w5 wr) (fun _ kv _ => 10 - (intOf kv).toNat)
            case atStart => exact ⟨0, Nat.zero_le _, rfl, HO7.out, HF7.out, H7.out⟩
            case round =>
              obtain ⟨k, hk, rfl, hok, hfk, hbk⟩ := hrel
              have HOK := Lib.hid hok; clear hok
              have HFK := Lib.hid hfk; clear hfk
              have HBK := Lib.hid hbk; clear hbk
              by_cases hkl : k < m
              · have k1 : (k : Int) < (m : Int) := by omega
                have k2 : (0 : Int) ≤ (k : Int) := by omega
                have hkm : k < M.length := by rw [← EM.out]; exact hkl
                obtain ⟨b7, o7, rfl, _, g1⟩ := rd_txt (HFK.out.rd HR7.out HOFF.out).1 hkm
                have c8 := radd_any _ _ (pl M k) wr B HOK.out (HBB.out _ HBK.out) (by have := adds_len (M.take k) l; simp at this; have := HLL.out; omega)
                rw [← addsK l M k hkm] at c8
                clear hkm
                go_wp2_with (go_at_call 36; refine Calls.mono c8 ?_; rintro e w8 ⟨v8, rfl, ho8, _, hf8, hb8⟩; clear c8 g1; have HO8 := Lib.hid ho8; have HF8 := Lib.hid (HFK.out.trans hf8); have H8 := Lib.hid (HBK.out.trans hb8); clear ho8 hf8 hb8)
                go_roundw
                case rel => exact ⟨k + 1, by omega, by go_num, HO8.out, HF8.out, H8.out⟩
                case measure => simp [intOf]; omega
              · have k1 : ¬ (k : Int) < (m : Int) := by omega
                have ek : M.take k = M := List.take_of_length_le (by have := EM.out; omega)
                rw [ek] at HOK
                clear ek
                obtain ⟨J, eJ⟩ : ∃ J, J = addsL l M := ⟨_, rfl⟩
                have HJL := Lib.hid (show J.length ≤ 17 by rw [eJ]; have := adds_len M l; have := HLL.out; have := EM.out; omega)
                rw [← eJ] at HOK hR
                clear eJ
                obtain ⟨A6, c6, rfl, _⟩ := HOK.out.slice
                by_cases h8 : 8 < J.length
                · have e8 : (8 : Int) < (J.length : Int) := by omega
                  have E := Lib.hid (show R = ([], 13) by rw [← hR, over_full h8])
                  clear h8 hR
                  go_wp2
                  go_ret2
                  exact ⟨⟨_, by rw [E.out]; rfl, by rw [E.out]; exact Own.nil _ _⟩, HEND.out _ HBK.out⟩
                · have e8 : ¬ (8 : Int) < (J.length : Int) := by omega
                  have HK8 := Lib.hid (show J.length ≤ 8 by omega)
                  have HR := Lib.hid (show R = (J, 0) by rw [← hR, over_ok (by omega)])
                  clear h8 hR
                  go_wp2
                  go_roundg (F + 1 - (i + 1))
                  case measure => have := HG.out; omega
                  case rel => exact ⟨i + 1, J, p, false, by have := HG.out; omega, by go_num, rfl, rfl, by rw [HOV.out]; exact HR.out.symm, HK8.out, HPL.out, HOK.out, HBK.out⟩
    · have e1 : ¬ (i : Int) ≤ (F : Int) := by omega
      have E := Lib.hid (show R = (l, 0) by rw [← hR, st_over l p nl (by rw [← EF.out]; omega)])
      go_wp2
      go_ret2
      exact ⟨⟨_, by rw [E.out]; rfl, by rw [E.out]; exact HO.out.from_ HNB.out⟩, HEND.out _ HB.out⟩
theorem rexp_any (s c sv : L) (w : World) (hs : s.length ≤ 90000) (hc : c.length ≤ 1000000000) (hv : sv.length ≤ 1000000000) :
    Calls Try.prog 17 #[.string ⟨s.toArray⟩, .string ⟨c.toArray⟩, .string ⟨sv.toArray⟩] w fun e w' => ExpV w' w.heap.size e (expL s c sv) ∧ Below w.heap.size w w' := by
  by_cases h : isL c = true ∧ isL sv = true
  · by_cases h0 : s = []
    · subst h0; exact rexp_empty c sv w h.1 h.2
    · exact rexp_yes s c sv w h0 hs h.1 h.2
  · refine rexp_not s c sv w hc hv ?_
    cases h1 : isL c with
    | false => exact .inl rfl
    | true =>
      cases h2 : isL sv with
      | false => exact .inr rfl
      | true => exact absurd ⟨h1, h2⟩ h
end Go.Proofs.Ytmgbhkhkbebfpaa.Tr
