/-
  The code's Expand of chapter 6.
-/
import Derived.Test.YtmgbhkhkbebfpaaTrComp
import Derived.Test.YtmgbhkhkbebfpaaNmBet
import Derived.Deep.LoopGhost
set_option linter.unusedVariables false
namespace Go.Proofs.Ytmgbhkhkbebfpaa.Tr
open Go.RowKit Go.Proofs.Ytmgbhkhkbebfpaa.Mem Go.Proofs.Ytmgbhkhkbebfpaa.Nm
attribute [local go_sem] mk_at List.getElem_cons_zero List.getElem_cons_succ ext_tail ext_drop ext_mid ext_take

/-- the pieces that are left -/
def restF (s : L) (more : Bool) : List L := if more then split 44 s else []
def gm (more : Bool) (s : L) : Nat := if more then s.length + 1 else 0
theorem rest_cut (s : L) : restF s true = bef 44 s :: restF (aft 44 s) (hasC 44 s) := by
  rw [restF, if_pos rfl, split_cut, restF]
  cases h : hasC 44 s with
  | true => rfl
  | false => rw [bef_none ((hasC_false _ _).1 h)]; rfl
theorem gm_lt (s : L) : gm (hasC 44 s) (aft 44 s) < gm true s := by
  rw [gm, gm, if_pos rfl]
  cases h : hasC 44 s with
  | true =>
    rw [if_pos rfl]
    have hm := (hasC_iff _ _).1 h
    have := aft_lt (c := 44) (l := s) (by rintro rfl; simp at hm)
    omega
  | false => rw [if_neg (by simp)]; omega
theorem from_p {c p : L} (h : p ≠ []) : fromL c p = p := if_neg h
theorem from_nil (c : L) : fromL c [] = c := rfl
theorem over_ok {l : List L} (h : l.length ≤ 8) : overF l = (l, 0) := by rw [overF, if_neg (by omega)]
theorem over_full {l : List L} (h : 8 < l.length) : overF l = ([], 13) := by rw [overF, if_pos h]
theorem null_t (c : L) (l : List L) (p r : L) : nullF c l p r true = addsL l (betweenL (fromL c p) r) := rfl
theorem null_f (c : L) (l : List L) (p r : L) : nullF c l p r false = l := rfl
theorem between_real {a b : L} : ∀ x ∈ betweenL a b, x.length ≤ 1000000000 := fun x hx => by have := real_len (between_kind hx); omega

/-- the answer of Expand -/
def ExpV (w' : World) (base : Nat) (e : Ending) (r : List L × Nat) : Prop := ∃ v, e = .returned (.tuple #[v, .int .i64 (r.2 : Int)]) ∧ Own w' base v r.1

set_option maxHeartbeats 400000 in
theorem exp_not (s c sv : L) (w : World) (hc : c.length ≤ 1000000000) (hv : sv.length ≤ 1000000000) (h : isL c = false ∨ isL sv = false) :
    Calls Try.prog 16 #[.string ⟨s.toArray⟩, .string ⟨c.toArray⟩, .string ⟨sv.toArray⟩] w fun e w' => ExpV w' w.heap.size e (expL s c sv) ∧ Below w.heap.size w w' := by
  have E := Lib.hid (exp_no (s := s) h)
  have c1 := is_any c w hc
  have C2 := Lib.hid (fun w1 => is_any sv w1 hv)
  cases h1 : isL c with
  | false =>
    rw [h1] at c1
    clear h h1
    go_enter Try.func16, Try.ntmps16
    go_wp2_with (go_at_call 26; refine Calls.mono c1 ?_; rintro e w1 ⟨rfl, hd⟩; clear c1; have H1 := Lib.hid hd.below; clear hd)
    go_ret2
    exact ⟨⟨_, by rw [E.out]; rfl, by rw [E.out]; exact Own.nil _ _⟩, H1.out⟩
  | true =>
    rw [h1] at c1
    have h2 : isL sv = false := by
      rcases h with h | h
      · rw [h1] at h; cases h
      · exact h
    have c2 := fun w1 => C2.out w1
    rw [h2] at c2
    have C2' := Lib.hid c2
    clear h h1 h2 c2 C2
    go_enter Try.func16, Try.ntmps16
    go_wp2_with (first
      | (go_at_call 26; with_reducible refine Calls.mono c1 ?_; rintro e w1 ⟨rfl, hd⟩; clear c1; have H1 := Lib.hid hd.below; clear hd; have c2 := C2'.out w1)
      | (go_at_call 26; with_reducible refine Calls.mono c2 ?_; rintro e w2 ⟨rfl, hd⟩; clear c2; have H2 := Lib.hid (H1.out.trans (hd.below.mono H1.out.size)); clear hd))
    go_ret2
    exact ⟨⟨_, by rw [E.out]; rfl, by rw [E.out]; exact Own.nil _ _⟩, H2.out⟩

set_option maxHeartbeats 3200000 in
set_option maxRecDepth 100000 in
theorem exp_yes (s0 c sv : L) (w : World) (hs : s0.length ≤ 90000) (hc : isL c = true) (hv : isL sv = true) :
    Calls Try.prog 16 #[.string ⟨s0.toArray⟩, .string ⟨c.toArray⟩, .string ⟨sv.toArray⟩] w fun e w' => ExpV w' w.heap.size e (expL s0 c sv) ∧ Below w.heap.size w w' := by
  have lc := real_len ((isL_iff c).1 hc)
  have lv := real_len ((isL_iff sv).1 hv)
  have c1 := is_any c w (by omega)
  have c2 := fun w1 => is_any sv w1 (by omega)
  rw [hc] at c1
  rw [hv] at c2
  have C2 := Lib.hid c2; clear c2
  have ER : expF c sv (restF s0 (!List.isEmpty s0)) [] [] false = expL s0 c sv := by
    by_cases h : s0 = []
    · subst h; rw [exp_empty hc hv]; rfl
    · rw [exp_some hc hv h, restF, if_pos (by simpa using h)]
  obtain ⟨R, eR⟩ : ∃ R, R = expL s0 c sv := ⟨_, rfl⟩
  rw [← eR] at ER ⊢
  have HER := Lib.hid ER
  have HS := Lib.hid hs
  have LC := Lib.hid lc
  have LV := Lib.hid lv
  clear eR hc hv ER hs lc lv
  obtain ⟨N, eN⟩ : ∃ N, N = w.heap.size := ⟨_, rfl⟩
  rw [← eN]
  have HB0 := Lib.hid (show Below N w w by exact Below.refl _ _)
  have EN := Lib.hid eN; clear eN
  have HN := Lib.hid (show ∀ w1 : World, Below N w w1 → N ≤ w1.heap.size from fun w1 h => by have := h.size; have := EN.out; omega)
  go_enter Try.func16, Try.ntmps16
  go_wp2_with (first
    | (go_at_call 26; with_reducible refine Calls.mono c1 ?_; rintro e w1 ⟨rfl, hd⟩; clear c1; have H1 := Lib.hid (hd.below.mono (Nat.le_of_eq EN.out)); clear hd; have c2 := C2.out w1)
    | (go_at_call 26; with_reducible refine Calls.mono c2 ?_; rintro e w2 ⟨rfl, hd⟩; clear c2; have H2 := Lib.hid (H1.out.trans (hd.below.mono (HN.out _ H1.out))); clear hd))
  go_loopg [0, 8, 9, 10, 11, 12] (gm (!List.isEmpty s0) s0) (fun g sv0 vv pv lv nv mv wr => ∃ (s p : L) (l : List L) (nl more : Bool), g = gm more s ∧ sv0 = .string ⟨s.toArray⟩ ∧ pv = .string ⟨p.toArray⟩ ∧ lv = .string ⟨(fromL c p).toArray⟩ ∧ nv = .bool nl ∧ mv = .bool more ∧ expF c sv (restF s more) l p nl = R ∧ s.length ≤ 90000 ∧ l.length ≤ 8 ∧ p.length ≤ 36 ∧ Own wr N vv l ∧ Below N w wr)
  case atStart => exact ⟨s0, [], [], false, (!List.isEmpty s0), rfl, rfl, rfl, by rw [from_nil], rfl, rfl, HER.out, HS.out, by simp, by simp, Own.nil _ _, H2.out⟩
  case round =>
    obtain ⟨s, p, l, nl, more, hg, rfl, rfl, rfl, rfl, rfl, hR, hsl, hll, hpl, ho, hb⟩ := hrel
    have HG := Lib.hid hg; clear hg
    have HO := Lib.hid ho; clear ho
    have HB := Lib.hid hb; clear hb
    have HSL := Lib.hid hsl; clear hsl
    have HLL := Lib.hid hll; clear hll
    have HPL := Lib.hid hpl; clear hpl
    have HFL := Lib.hid (show (fromL c p).length ≤ 36 by
      rw [fromL]; split
      · exact LC.out
      · exact HPL.out)
    cases more with
    | false =>
      have HR := Lib.hid (show overF (nullF c l p sv nl) = R from hR); clear hR
      have HLL' := HLL.out
      obtain ⟨A0, c0, rfl, hr0⟩ := HO.out.slice
      clear hr0
      cases nl with
      | false =>
        have e8 : ¬ (8 : Int) < (l.length : Int) := by omega
        have E := Lib.hid (show R = (l, 0) by rw [← HR.out, null_f, over_ok HLL.out])
        clear HLL'
        go_wp2
        go_ret2
        exact ⟨⟨_, by rw [E.out]; rfl, by rw [E.out]; exact HO.out⟩, HB.out⟩
      | true =>
        have c3 := between_any (fromL c p) sv wr (by have := HFL.out; omega) (by have := LV.out; omega)
        have hbl := between_len (fromL c p) sv
        have hbr := between_real (a := fromL c p) (b := sv)
        rw [null_t] at HR
        obtain ⟨M, eM⟩ : ∃ M, M = betweenL (fromL c p) sv := ⟨_, rfl⟩
        rw [← eM] at c3 hbl hbr HR
        have HBL := Lib.hid hbl; clear hbl
        have HBR := Lib.hid hbr; clear hbr
        clear eM
        obtain ⟨K, eK⟩ : ∃ K, K = addsL l M := ⟨_, rfl⟩
        rw [← eK] at HR
        have EK := Lib.hid eK; clear eK
        by_cases h8 : 8 < K.length
        · have e8 : (8 : Int) < (K.length : Int) := by omega
          have E := Lib.hid (show R = ([], 13) by rw [← HR.out, over_full h8])
          clear h8
          go_wp2_with (first
            | (go_at_call 32; refine Calls.mono c3 ?_; rintro e w3 ⟨v3, rfl, ho3, hb3⟩; clear c3; obtain ⟨A3, c3, e3, hr3⟩ := ho3.slice; have hoff := off_new HO.out ho3 e3; subst e3; have H3 := Lib.hid (HB.out.trans (hb3.mono (HN.out _ HB.out))); have c4 := addeach_any _ l M A3 c3 w3 N (HO.out.below hb3) (HN.out _ H3.out) (by have := HLL.out; have := HBL.out; omega) hr3 hoff HBR.out; rw [← EK.out] at c4; clear hoff ho3 hb3 hr3)
            | (go_at_call 31; refine Calls.mono c4 ?_; rintro e w4 ⟨v4, rfl, ho4, hf4, hb4⟩; clear c4 hf4; obtain ⟨A4, c4, rfl, _⟩ := ho4.slice; have HO4 := Lib.hid ho4; have H4 := Lib.hid (H3.out.trans hb4); clear ho4 hb4))
          go_ret2
          exact ⟨⟨_, by rw [E.out]; rfl, by rw [E.out]; exact Own.nil _ _⟩, H4.out⟩
        · have e8 : ¬ (8 : Int) < (K.length : Int) := by omega
          have E := Lib.hid (show R = (K, 0) by rw [← HR.out, over_ok (by omega)])
          clear h8
          go_wp2_with (first
            | (go_at_call 32; refine Calls.mono c3 ?_; rintro e w3 ⟨v3, rfl, ho3, hb3⟩; clear c3; obtain ⟨A3, c3, e3, hr3⟩ := ho3.slice; have hoff := off_new HO.out ho3 e3; subst e3; have H3 := Lib.hid (HB.out.trans (hb3.mono (HN.out _ HB.out))); have c4 := addeach_any _ l M A3 c3 w3 N (HO.out.below hb3) (HN.out _ H3.out) (by have := HLL.out; have := HBL.out; omega) hr3 hoff HBR.out; rw [← EK.out] at c4; clear hoff ho3 hb3 hr3)
            | (go_at_call 31; refine Calls.mono c4 ?_; rintro e w4 ⟨v4, rfl, ho4, hf4, hb4⟩; clear c4 hf4; obtain ⟨A4, c4, rfl, _⟩ := ho4.slice; have HO4 := Lib.hid ho4; have H4 := Lib.hid (H3.out.trans hb4); clear ho4 hb4))
          go_ret2
          exact ⟨⟨_, by rw [E.out]; rfl, by rw [E.out]; exact HO4.out⟩, H4.out⟩
    | true =>
      rw [rest_cut] at hR
      have c3 := cut_one s 44 wr (by have := HSL.out; omega)
      have hgl := gm_lt s
      rw [← HG.out] at hgl
      have hul := bef_len 44 s
      have hal := aft_len 44 s
      obtain ⟨u, eu⟩ : ∃ u, u = bef 44 s := ⟨_, rfl⟩
      obtain ⟨s2, es⟩ : ∃ s2, s2 = aft 44 s := ⟨_, rfl⟩
      obtain ⟨m2, em⟩ : ∃ m2, m2 = hasC 44 s := ⟨_, rfl⟩
      rw [← eu, ← es, ← em] at c3
      rw [← eu, ← es, ← em] at hR
      rw [← es, ← em] at hgl
      rw [← eu] at hul
      rw [← es] at hal
      have HGL := Lib.hid hgl; clear hgl
      have HUL := Lib.hid (Nat.le_trans hul HSL.out); clear hul
      have HAL := Lib.hid (Nat.le_trans hal HSL.out); clear hal
      clear eu es em
      by_cases hu : u = []
      · subst hu
        rw [expF_null] at hR
        have HR := Lib.hid hR; clear hR
        go_wp2_with (go_at_call 29; refine Calls.mono c3 ?_; rintro e w3 ⟨rfl, hd⟩; clear c3; have H3 := Lib.hid (HB.out.trans (hd.below.mono (HN.out _ HB.out))); have HO3 := Lib.hid (HO.out.below hd.below); clear hd)
        go_roundg (gm m2 s2)
        case measure => exact HGL.out
        case rel => exact ⟨s2, p, l, true, m2, rfl, rfl, rfl, rfl, rfl, rfl, HR.out, HAL.out, HLL.out, HPL.out, HO3.out, H3.out⟩
      · have tu : (u == []) = false := by simpa using hu
        have c4 := fun w1 => told_any u p w1 (by have := HUL.out; omega) (by have := HPL.out; omega)
        have htl := told_len u p
        obtain ⟨q, eq⟩ : ∃ q, q = toldL u p := ⟨_, rfl⟩
        have c5 := fun w1 => is_any q w1 (by rw [eq]; have := HUL.out; have := HPL.out; omega)
        rw [← eq] at c4
        have C4 := Lib.hid c4; clear c4
        have EQ := Lib.hid eq; clear eq htl
        have HU := Lib.hid hu; clear hu
        cases hq : isL q with
        | false =>
          have E := Lib.hid (show R = ([], 2) by rw [← hR, expF_bad HU.out (by rw [← EQ.out]; exact hq)])
          rw [hq] at c5
          have C5 := Lib.hid c5
          clear hR c5 hq
          go_wp2_with (first
            | (go_at_call 29; refine Calls.mono c3 ?_; rintro e w3 ⟨rfl, hd⟩; clear c3; have H3 := Lib.hid (HB.out.trans (hd.below.mono (HN.out _ HB.out))); clear hd; have c4 := C4.out w3)
            | (go_at_call 30; refine Calls.mono c4 ?_; rintro e w4 ⟨rfl, hd⟩; clear c4; have H4 := Lib.hid (H3.out.trans (hd.below.mono (HN.out _ H3.out))); clear hd; have c5 := C5.out w4)
            | (go_at_call 26; refine Calls.mono c5 ?_; rintro e w5 ⟨rfl, hd⟩; clear c5; have H5 := Lib.hid (H4.out.trans (hd.below.mono (HN.out _ H4.out))); clear hd))
          go_ret2
          exact ⟨⟨_, by rw [E.out]; rfl, by rw [E.out]; exact Own.nil _ _⟩, H5.out⟩
        | true =>
          have hql := real_len ((isL_iff q).1 hq)
          have hqn := ne_of_kind ((isL_iff q).1 hq)
          rw [hq] at c5
          have C5 := Lib.hid c5
          have HQ := Lib.hid hq
          have HQL := Lib.hid hql
          have HQN := Lib.hid hqn
          clear c5 hq hql hqn
          have hmore := fun h8 => expF_more (c := c) (sv := sv) (t := restF s2 m2) (l := l) (n := nl) HU.out (by rw [← EQ.out]; exact HQ.out : isL (toldL u p) = true) h8
          have hfull := fun h8 => expF_full (c := c) (sv := sv) (t := restF s2 m2) (l := l) (n := nl) HU.out (by rw [← EQ.out]; exact HQ.out : isL (toldL u p) = true) h8
          rw [← EQ.out] at hmore hfull
          cases nl with
          | false =>
            rw [null_f] at hmore hfull
            have c6 := fun w1 hb1 => addonce_any _ l q w1 N (HO.out.below (w' := w1) hb1)
            obtain ⟨K, eK⟩ : ∃ K, K = addL l q := ⟨_, rfl⟩
            rw [← eK] at hmore hfull c6
            have C6 := Lib.hid c6
            have EK := Lib.hid eK
            clear c6 eK
            by_cases h8 : 8 < K.length
            · have e8 : (8 : Int) < (K.length : Int) := by omega
              have E := Lib.hid (show R = ([], 13) by rw [← hR, hfull h8])
              clear h8 hR hmore hfull
              go_wp2_with (first
                | (go_at_call 29; refine Calls.mono c3 ?_; rintro e w3 ⟨rfl, hd⟩; clear c3; have G3 := Lib.hid hd.below; have H3 := Lib.hid (HB.out.trans (hd.below.mono (HN.out _ HB.out))); clear hd; have c4 := C4.out w3)
                | (go_at_call 30; refine Calls.mono c4 ?_; rintro e w4 ⟨rfl, hd⟩; clear c4; have G4 := Lib.hid (bt G3.out hd.below); have H4 := Lib.hid (H3.out.trans (hd.below.mono (HN.out _ H3.out))); clear hd; have c5 := C5.out w4)
                | (go_at_call 26; refine Calls.mono c5 ?_; rintro e w5 ⟨rfl, hd⟩; clear c5; have G5 := Lib.hid (bt G4.out hd.below); have H5 := Lib.hid (H4.out.trans (hd.below.mono (HN.out _ H4.out))); clear hd; have c6 := C6.out w5 G5.out (HN.out _ H5.out) (by have := HLL.out; omega) (by have := HQL.out; omega))
                | (go_at_call 33; refine Calls.mono c6 ?_; rintro e w6 ⟨v6, rfl, ho6, hf6, hb6⟩; clear c6 hf6; obtain ⟨A6, c6, rfl, _⟩ := ho6.slice; have H6 := Lib.hid (H5.out.trans hb6); clear ho6 hb6))
              go_ret2
              exact ⟨⟨_, by rw [E.out]; rfl, by rw [E.out]; exact Own.nil _ _⟩, H6.out⟩
            · have e8 : ¬ (8 : Int) < (K.length : Int) := by omega
              have HK8 := Lib.hid (show K.length ≤ 8 by omega)
              have HR := Lib.hid (show expF c sv (restF s2 m2) K q false = R by rw [← hR, hmore (by omega)])
              clear h8 hR hmore hfull
              go_wp2_with (first
                | (go_at_call 29; refine Calls.mono c3 ?_; rintro e w3 ⟨rfl, hd⟩; clear c3; have G3 := Lib.hid hd.below; have H3 := Lib.hid (HB.out.trans (hd.below.mono (HN.out _ HB.out))); clear hd; have c4 := C4.out w3)
                | (go_at_call 30; refine Calls.mono c4 ?_; rintro e w4 ⟨rfl, hd⟩; clear c4; have G4 := Lib.hid (bt G3.out hd.below); have H4 := Lib.hid (H3.out.trans (hd.below.mono (HN.out _ H3.out))); clear hd; have c5 := C5.out w4)
                | (go_at_call 26; refine Calls.mono c5 ?_; rintro e w5 ⟨rfl, hd⟩; clear c5; have G5 := Lib.hid (bt G4.out hd.below); have H5 := Lib.hid (H4.out.trans (hd.below.mono (HN.out _ H4.out))); clear hd; have c6 := C6.out w5 G5.out (HN.out _ H5.out) (by have := HLL.out; omega) (by have := HQL.out; omega))
                | (go_at_call 33; refine Calls.mono c6 ?_; rintro e w6 ⟨v6, rfl, ho6, hf6, hb6⟩; clear c6 hf6; obtain ⟨A6, c6, rfl, _⟩ := ho6.slice; have H6 := Lib.hid (H5.out.trans hb6); have HO6 := Lib.hid ho6; clear ho6 hb6))
              go_roundg (gm m2 s2)
              case measure => exact HGL.out
              case rel => exact ⟨s2, q, K, false, m2, rfl, rfl, rfl, by rw [from_p HQN.out], rfl, rfl, HR.out, HAL.out, HK8.out, HQL.out, HO6.out, H6.out⟩
          | true =>
            rw [null_t] at hmore hfull
            have c7 := fun w1 => between_any (fromL c p) q w1 (by have := HFL.out; omega) (by have := HQL.out; omega)
            have hbl := between_len (fromL c p) q
            have hbr := between_real (a := fromL c p) (b := q)
            obtain ⟨M, eM⟩ : ∃ M, M = betweenL (fromL c p) q := ⟨_, rfl⟩
            rw [← eM] at c7 hbl hbr hmore hfull
            have C7 := Lib.hid c7; clear c7
            have HBL := Lib.hid hbl; clear hbl
            have HBR := Lib.hid hbr; clear hbr
            clear eM
            obtain ⟨J, eJ⟩ : ∃ J, J = addsL l M := ⟨_, rfl⟩
            have HJL := Lib.hid (show J.length ≤ 17 by rw [eJ]; have := adds_len M l; have := HLL.out; have := HBL.out; omega)
            rw [← eJ] at hmore hfull
            have EJ := Lib.hid eJ; clear eJ
            obtain ⟨K, eK⟩ : ∃ K, K = addL J q := ⟨_, rfl⟩
            rw [← eK] at hmore hfull
            have EK := Lib.hid eK
            clear eK
            by_cases h8 : 8 < K.length
            · have e8 : (8 : Int) < (K.length : Int) := by omega
              have E := Lib.hid (show R = ([], 13) by rw [← hR, hfull h8])
              clear h8 hR hmore hfull
              go_wp2_with (first
                | (go_at_call 29; refine Calls.mono c3 ?_; rintro e w3 ⟨rfl, hd⟩; clear c3; have G3 := Lib.hid hd.below; have H3 := Lib.hid (HB.out.trans (hd.below.mono (HN.out _ HB.out))); clear hd; have c4 := C4.out w3)
                | (go_at_call 30; refine Calls.mono c4 ?_; rintro e w4 ⟨rfl, hd⟩; clear c4; have G4 := Lib.hid (bt G3.out hd.below); have H4 := Lib.hid (H3.out.trans (hd.below.mono (HN.out _ H3.out))); clear hd; have c5 := C5.out w4)
                | (go_at_call 26; refine Calls.mono c5 ?_; rintro e w5 ⟨rfl, hd⟩; clear c5; have G5 := Lib.hid (bt G4.out hd.below); have H5 := Lib.hid (H4.out.trans (hd.below.mono (HN.out _ H4.out))); have HO5 := Lib.hid (HO.out.below G5.out); clear hd; have c7 := C7.out w5)
                | (go_at_call 32; refine Calls.mono c7 ?_; rintro e w7 ⟨v7, rfl, ho7, hb7⟩; clear c7; obtain ⟨A7, c7, e7, hr7⟩ := ho7.slice; have hoff := off_new HO5.out ho7 e7; subst e7; have H7 := Lib.hid (H5.out.trans (hb7.mono (HN.out _ H5.out))); have c8 := addeach_any _ l M A7 c7 w7 N (HO5.out.below hb7) (HN.out _ H7.out) (by have := HLL.out; have := HBL.out; omega) hr7 hoff HBR.out; rw [← EJ.out] at c8; clear hoff ho7 hb7 hr7)
                | (go_at_call 31; refine Calls.mono c8 ?_; rintro e w8 ⟨v8, rfl, ho8, hf8, hb8⟩; clear c8 hf8; have H8 := Lib.hid (H7.out.trans hb8); have c6 := addonce_any _ J q w8 N ho8 (HN.out _ H8.out) (by have := HJL.out; omega) (by have := HQL.out; omega); rw [← EK.out] at c6; clear ho8 hb8)
                | (go_at_call 33; refine Calls.mono c6 ?_; rintro e w6 ⟨v6, rfl, ho6, hf6, hb6⟩; clear c6 hf6; obtain ⟨A6, c6, rfl, _⟩ := ho6.slice; have H6 := Lib.hid (H8.out.trans hb6); clear ho6 hb6))
              go_ret2
              exact ⟨⟨_, by rw [E.out]; rfl, by rw [E.out]; exact Own.nil _ _⟩, H6.out⟩
            · have e8 : ¬ (8 : Int) < (K.length : Int) := by omega
              have HK8 := Lib.hid (show K.length ≤ 8 by omega)
              have HR := Lib.hid (show expF c sv (restF s2 m2) K q false = R by rw [← hR, hmore (by omega)])
              clear h8 hR hmore hfull
              go_wp2_with (first
                | (go_at_call 29; refine Calls.mono c3 ?_; rintro e w3 ⟨rfl, hd⟩; clear c3; have G3 := Lib.hid hd.below; have H3 := Lib.hid (HB.out.trans (hd.below.mono (HN.out _ HB.out))); clear hd; have c4 := C4.out w3)
                | (go_at_call 30; refine Calls.mono c4 ?_; rintro e w4 ⟨rfl, hd⟩; clear c4; have G4 := Lib.hid (bt G3.out hd.below); have H4 := Lib.hid (H3.out.trans (hd.below.mono (HN.out _ H3.out))); clear hd; have c5 := C5.out w4)
                | (go_at_call 26; refine Calls.mono c5 ?_; rintro e w5 ⟨rfl, hd⟩; clear c5; have G5 := Lib.hid (bt G4.out hd.below); have H5 := Lib.hid (H4.out.trans (hd.below.mono (HN.out _ H4.out))); have HO5 := Lib.hid (HO.out.below G5.out); clear hd; have c7 := C7.out w5)
                | (go_at_call 32; refine Calls.mono c7 ?_; rintro e w7 ⟨v7, rfl, ho7, hb7⟩; clear c7; obtain ⟨A7, c7, e7, hr7⟩ := ho7.slice; have hoff := off_new HO5.out ho7 e7; subst e7; have H7 := Lib.hid (H5.out.trans (hb7.mono (HN.out _ H5.out))); have c8 := addeach_any _ l M A7 c7 w7 N (HO5.out.below hb7) (HN.out _ H7.out) (by have := HLL.out; have := HBL.out; omega) hr7 hoff HBR.out; rw [← EJ.out] at c8; clear hoff ho7 hb7 hr7)
                | (go_at_call 31; refine Calls.mono c8 ?_; rintro e w8 ⟨v8, rfl, ho8, hf8, hb8⟩; clear c8 hf8; have H8 := Lib.hid (H7.out.trans hb8); have c6 := addonce_any _ J q w8 N ho8 (HN.out _ H8.out) (by have := HJL.out; omega) (by have := HQL.out; omega); rw [← EK.out] at c6; clear ho8 hb8)
                | (go_at_call 33; refine Calls.mono c6 ?_; rintro e w6 ⟨v6, rfl, ho6, hf6, hb6⟩; clear c6 hf6; obtain ⟨A6, c6, rfl, _⟩ := ho6.slice; have H6 := Lib.hid (H8.out.trans hb6); have HO6 := Lib.hid ho6; clear ho6 hb6))
              go_roundg (gm m2 s2)
              case measure => exact HGL.out
              case rel => exact ⟨s2, q, K, false, m2, rfl, rfl, rfl, by rw [from_p HQN.out], rfl, rfl, HR.out, HAL.out, HK8.out, HQL.out, HO6.out, H6.out⟩
theorem exp_any (s c sv : L) (w : World) (hs : s.length ≤ 90000) (hc : c.length ≤ 1000000000) (hv : sv.length ≤ 1000000000) :
    Calls Try.prog 16 #[.string ⟨s.toArray⟩, .string ⟨c.toArray⟩, .string ⟨sv.toArray⟩] w fun e w' => ExpV w' w.heap.size e (expL s c sv) ∧ Below w.heap.size w w' := by
  by_cases h : isL c = true ∧ isL sv = true
  · exact exp_yes s c sv w hs h.1 h.2
  · refine exp_not s c sv w hc hv ?_
    cases h1 : isL c with
    | false => exact .inl rfl
    | true =>
      cases h2 : isL sv with
      | false => exact .inr rfl
      | true => exact absurd ⟨h1, h2⟩ h
end Go.Proofs.Ytmgbhkhkbebfpaa.Tr
