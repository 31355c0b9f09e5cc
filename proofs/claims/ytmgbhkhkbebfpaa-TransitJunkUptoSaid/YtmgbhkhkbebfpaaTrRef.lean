/-
  The document's own answer of chapter 6: add and sub.
-/
import Derived.Test.YtmgbhkhkbebfpaaTrTold
import Derived.Test.YtmgbhkhkbebfpaaNmRefB
set_option linter.unusedVariables false
namespace Go.Proofs.Ytmgbhkhkbebfpaa.Tr
open Go.RowKit Go.Proofs.Ytmgbhkhkbebfpaa.Mem Go.Proofs.Ytmgbhkhkbebfpaa.Nm
attribute [local go_sem] mk_at List.getElem_cons_zero List.getElem_cons_succ ext_tail ext_drop ext_mid ext_take

set_option maxHeartbeats 800000 in
theorem radd_any (v : Value) (ls : List L) (r : L) (w : World) (base : Nat) (ho : Own w base v ls) (hb : base ≤ w.heap.size) (hl : ls.length ≤ 1000000) :
    Calls Try.prog 36 #[v, .string ⟨r.toArray⟩] w fun e w' => ∃ v', e = .returned v' ∧ Own w' base v' (addL ls r) ∧ Own w' base v ls ∧ Far w w' v v' ∧ Below base w w' := by
  obtain ⟨A, c, rfl, hr⟩ := ho.slice
  have HO := Lib.hid ho; clear ho
  have HR := Lib.hid hr; clear hr
  have HB0 := Lib.hid (Below.refl base w)
  have HF0 := Lib.hid (Far.refl w (.slice A ls.length c))
  have HBS := Lib.hid hb; clear hb
  obtain ⟨n, en⟩ : ∃ n, n = ls.length := ⟨_, rfl⟩
  rw [← en] at hl HO HF0 ⊢
  have EN := Lib.hid en; clear en
  go_enter Try.func36, Try.ntmps36
  go_wp2
  go_loop [5] (fun iv => ∃ i : Nat, i ≤ n ∧ iv = .int .i64 (i : Int) ∧ ∀ k, k < i → pl ls k ≠ r) (fun iv => n - (intOf iv).toNat)
  case atStart => exact ⟨0, Nat.zero_le _, rfl, fun k h => absurd h (Nat.not_lt_zero k)⟩
  case round =>
    obtain ⟨i, hi, rfl, hn⟩ := hrel
    have HN := Lib.hid hn; clear hn
    by_cases hlt : i < n
    · have e1 : (i : Int) < (n : Int) := by omega
      have e2 : (0 : Int) ≤ (i : Int) := by omega
      obtain ⟨b, o, rfl, _, h1⟩ := rd_txt HR.out (i := i) (by rw [← EN.out]; exact hlt)
      by_cases hx : pl ls i = r
      · have t1 : (pl ls i == r) = true := by simpa using hx
        have E := Lib.hid (add_in (l := ls) (r := r) (by rw [← hx]; exact pl_mem (by rw [← EN.out]; exact hlt)))
        clear hx
        go_wp2
        go_ret
        exact ⟨_, rfl, by rw [E.out]; exact HO.out, HO.out, HF0.out, HB0.out⟩
      · have t1 : (pl ls i == r) = false := by simpa using hx
        have HX := Lib.hid hx; clear hx
        go_wp2
        go_round
        case rel => exact ⟨i + 1, by omega, by go_num, fun k hk => by
          by_cases q : k = i
          · rw [q]; exact HX.out
          · exact HN.out k (by omega)⟩
        case measure => simp [intOf]; omega
    · have e1 : ¬ (i : Int) < (n : Int) := by omega
      have E := Lib.hid (add_new (l := ls) (r := r) fun hm => by
        obtain ⟨k, hk, e⟩ := mem_pl hm
        exact HN.out k (by have := EN.out; omega) e)
      go_wp2_with (at_builtin; refine app_keep rfl (.tmp 19) (.tmp 21) rfl base _ _ rfl HO.out r rfl (by have := EN.out; omega) HBS.out ?_; intro v' w3 ho3 hk3 hf3 hb3; rw [← E.out] at ho3; have H3 := Lib.hid hb3; have HO3 := Lib.hid ho3; have HK3 := Lib.hid hk3; have HF3 := Lib.hid hf3; clear ho3 hb3 hk3 hf3)
      go_ret
      exact ⟨_, rfl, HO3.out, HK3.out, HF3.out, H3.out⟩

/-! ### a piece's realm -/
def subL (f p : L) : L := if isL (toldL f p) then toldL f p else []
theorem sub_yes {f p q : L} (h : toldL f p = q) (h1 : isL q = true) : subL f p = q := by rw [subL, h, if_pos h1]
theorem sub_no {f p q : L} (h : toldL f p = q) (h1 : isL q = false) : subL f p = [] := by rw [subL, h, if_neg (by simp [h1])]
theorem suf_at {f : L} {k : Nat} (hk : k + 1 = f.length) (h : k < f.length) : ((f[k].toNat : Int) == 46) = sufL [46] f := by
  have e : f = f.take k ++ [f[k]] := by
    conv => lhs; rw [← List.take_append_drop k f, List.drop_eq_getElem_cons h]
    rw [List.drop_of_length_le (by omega)]
  by_cases hx : f[k] = 46
  · rw [hx, suf_iff.2 ⟨f.take k, by rw [hx] at e; exact e⟩]; rfl
  · have h1 : sufL [46] f = false := by
      cases q : sufL [46] f with
      | false => rfl
      | true =>
        obtain ⟨u, g⟩ := suf_iff.1 q
        rw [e] at g
        have := List.append_inj_right' g rfl
        injection this with this
        exact absurd this hx
    rw [h1]
    simp only [beq_eq_false_iff_ne, ne_eq]
    intro q
    exact hx (UInt8.toNat_inj.1 (by have : (46 : UInt8).toNat = 46 := rfl; omega))
theorem pre_at {f : L} (h : 0 < f.length) : ((f[0].toNat : Int) == 47) = preB [47] f := by
  cases f with
  | nil => simp at h
  | cons x t =>
    by_cases hx : x = 47
    · subst hx; rw [show preB [47] (47 :: t) = true from preB_iff.2 ⟨t, rfl⟩]; rfl
    · have h1 : preB [47] (x :: t) = false := by
        cases q : preB [47] (x :: t) with
        | false => rfl
        | true => obtain ⟨u, g⟩ := preB_iff.1 q; injection g with g; exact absurd g hx
      rw [h1]
      simp only [List.getElem_cons_zero, beq_eq_false_iff_ne, ne_eq]
      intro q
      exact hx (UInt8.toNat_inj.1 (by have : (47 : UInt8).toNat = 47 := rfl; omega))
theorem blank_at {f : L} (h : 0 < f.length) : ((f[0].toNat : Int) == 32) = preB [32] f := by
  cases f with
  | nil => simp at h
  | cons x t =>
    by_cases hx : x = 32
    · subst hx; rw [show preB [32] (32 :: t) = true from preB_iff.2 ⟨t, rfl⟩]; rfl
    · have h1 : preB [32] (x :: t) = false := by
        cases q : preB [32] (x :: t) with
        | false => rfl
        | true => obtain ⟨u, g⟩ := preB_iff.1 q; injection g with g; exact absurd g hx
      rw [h1]
      simp only [List.getElem_cons_zero, beq_eq_false_iff_ne, ne_eq]
      intro q
      exact hx (UInt8.toNat_inj.1 (by have : (32 : UInt8).toNat = 32 := rfl; omega))
theorem dot_none {f : L} (h : sufL [46] f = true) : isL f = false := by
  cases q : isL f with
  | false => rfl
  | true =>
    obtain ⟨u, b, e, hb⟩ := real_last ((isL_iff f).1 q)
    rw [e, suf_cap hb] at h
    cases h
theorem blank_none {f : L} (h : preB [32] f = true) : isL f = false := by
  cases q : isL f with
  | false => rfl
  | true =>
    obtain ⟨u, e⟩ := preB_iff.1 h
    exact absurd (by rw [e]; simp) (real_no ((isL_iff f).1 q) (c := 32) (by decide) (by decide) (by decide))
/-- behind a blank: one of the second kind, or none -/
theorem sub_blank {f p : L} (h : preB [32] f = true) (hs : sufL [46] f = false) : subL f p = if kindL (f.drop 1) = 2 then f.drop 1 else [] := by
  have h47 : preB [47] f = false := by
    obtain ⟨u, e⟩ := preB_iff.1 h
    rw [e]; simp [preB, List.isPrefixOf]
  by_cases h2 : preB [32, 47] f = true
  · have ht := told_bl (p := p) hs (.inl h47) h2
    by_cases hk : kindL (f.drop 1) = 2
    · rw [if_pos hk]
      exact sub_yes ht ((isL_iff _).2 (by omega))
    · rw [if_neg hk]
      refine sub_no ht ((isL_false _).2 ?_)
      obtain ⟨u, e⟩ := preB_iff.1 h2
      have hk1 : kindL (f.drop 1) ≠ 1 := by
        intro q
        exact one_slash q (by rw [e]; simp)
      have := kind_le (f.drop 1)
      omega
  · have h2 : preB [32, 47] f = false := by simpa using h2
    have ht := told_as (p := p) hs (.inl h47) h2
    rw [if_neg]
    · exact sub_no ht (blank_none h)
    · intro q
      obtain ⟨t, e, _⟩ := kind_two' q
      obtain ⟨u, g⟩ := preB_iff.1 h
      have : preB [32, 47] f = true := preB_iff.2 ⟨t, by rw [g] at e ⊢; simp at e; rw [e]; rfl⟩
      rw [h2] at this; cases this

set_option maxHeartbeats 1600000 in
theorem rsub_dot (f p : L) (w : World) (h1 : sufL [46] f = true) (h0 : f ≠ []) (hs : f.length ≤ 100000) (hp : p.length ≤ 100000) : Calls Try.prog 35 #[.string ⟨f.toArray⟩, .string ⟨p.toArray⟩] w fun e w' =>
    e = .returned (.string ⟨(subL f p).toArray⟩) ∧ Below w.heap.size w w' := by
  have hl : 0 < f.length := by
    cases f with
    | nil => exact absurd rfl h0
    | cons x t => simp
  obtain ⟨k, hk⟩ : ∃ k, k + 1 = f.length := ⟨f.length - 1, by omega⟩
  have hkl : k < f.length := by omega
  have ek : (f.length : Int) - 1 = (k : Int) := by omega
  have e2 : (0 : Int) ≤ (k : Int) := by omega
  have e3 : (k : Int) < (f.length : Int) := by omega
  have e4 : (0 : Int) < (f.length : Int) := by omega
  have e5 : (1 : Int) ≤ (f.length : Int) := by omega
  have t1 := suf_at hk hkl
  have t2 := pre_at hl
  have t3 := blank_at hl
  have HB0 := Lib.hid (Below.refl w.heap.size w)
  have I := Lib.hid (fun (q : L) (hq : q.length ≤ 1000000000) w1 => ris_any q w1 hq)
  have K := Lib.hid (fun (q : L) (hq : q.length ≤ 1000000000) w1 => rkind_any q w1 hq)
  have HFK := Lib.hid hk
  clear hk h0
  rw [h1] at t1
  by_cases hp0 : p = []
  · subst hp0
    have E := Lib.hid (sub_no (told_dot (p := []) h1) (by rw [List.append_nil]; exact dot_none h1))
    clear h1 t2 t3 
    go_enter Try.func35, Try.ntmps35
    go_wp2
    go_ret
    exact ⟨by rw [E.out]; rfl, HB0.out⟩
  · have t4 : (p == []) = false := by simpa using hp0
    have EM := Lib.hid (mk_append f p)
    have c1 := I.out (f ++ p) (by simp; omega) w
    have ht := told_dot (p := p) h1
    cases hq : isL (f ++ p) with
    | false =>
      have E := Lib.hid (sub_no ht hq)
      rw [hq, ← EM.out] at c1
      clear h1 t2 t3 hp0 hq ht
      go_enter Try.func35, Try.ntmps35
      go_wp2_with (go_at_call 23; refine Calls.mono c1 ?_; rintro e w1 ⟨rfl, hb⟩; clear c1; have H1 := Lib.hid hb; clear hb)
      go_ret
      exact ⟨by rw [E.out]; rfl, H1.out⟩
    | true =>
      have E := Lib.hid (sub_yes ht hq)
      rw [hq, ← EM.out] at c1
      clear h1 t2 t3 hp0 hq ht
      go_enter Try.func35, Try.ntmps35
      go_wp2_with (go_at_call 23; refine Calls.mono c1 ?_; rintro e w1 ⟨rfl, hb⟩; clear c1; have H1 := Lib.hid hb; clear hb)
      go_ret
      exact ⟨by rw [E.out, ← EM.out]; rfl, H1.out⟩
set_option maxHeartbeats 1600000 in
theorem rsub_sl (f p : L) (w : World) (h1 : sufL [46] f = false) (h2 : preB [47] f = true) (h0 : f ≠ []) (hs : f.length ≤ 100000) (hp : p.length ≤ 100000) : Calls Try.prog 35 #[.string ⟨f.toArray⟩, .string ⟨p.toArray⟩] w fun e w' =>
    e = .returned (.string ⟨(subL f p).toArray⟩) ∧ Below w.heap.size w w' := by
  have hl : 0 < f.length := by
    cases f with
    | nil => exact absurd rfl h0
    | cons x t => simp
  obtain ⟨k, hk⟩ : ∃ k, k + 1 = f.length := ⟨f.length - 1, by omega⟩
  have hkl : k < f.length := by omega
  have ek : (f.length : Int) - 1 = (k : Int) := by omega
  have e2 : (0 : Int) ≤ (k : Int) := by omega
  have e3 : (k : Int) < (f.length : Int) := by omega
  have e4 : (0 : Int) < (f.length : Int) := by omega
  have e5 : (1 : Int) ≤ (f.length : Int) := by omega
  have t1 := suf_at hk hkl
  have t2 := pre_at hl
  have t3 := blank_at hl
  have HB0 := Lib.hid (Below.refl w.heap.size w)
  have I := Lib.hid (fun (q : L) (hq : q.length ≤ 1000000000) w1 => ris_any q w1 hq)
  have K := Lib.hid (fun (q : L) (hq : q.length ≤ 1000000000) w1 => rkind_any q w1 hq)
  have HFK := Lib.hid hk
  clear hk h0
  rw [h1] at t1
  rw [h2] at t2
  have ck := K.out p (by omega) w
  by_cases hk2 : kindL p = 2
  · have EM := Lib.hid (mk_append p f)
    have c1 := fun w1 => I.out (p ++ f) (by simp; omega) w1
    have ht := told_sl h1 h2 hk2
    rw [hk2] at ck
    cases hq : isL (p ++ f) with
    | false =>
      have E := Lib.hid (sub_no ht hq)
      rw [hq, ← EM.out] at c1
      have C1 := Lib.hid c1
      clear h1 h2 t3 hq ht hk2 c1
      go_enter Try.func35, Try.ntmps35
      go_wp2_with (first
        | (go_at_call 25; refine Calls.mono ck ?_; rintro e w1 ⟨rfl, hb⟩; clear ck; have H1 := Lib.hid hb; clear hb; have c1 := C1.out w1)
        | (go_at_call 23; refine Calls.mono c1 ?_; rintro e w2 ⟨rfl, hb⟩; clear c1; have H2 := Lib.hid (bt H1.out hb); clear hb))
      go_ret
      exact ⟨by rw [E.out]; rfl, H2.out⟩
    | true =>
      have E := Lib.hid (sub_yes ht hq)
      rw [hq, ← EM.out] at c1
      have C1 := Lib.hid c1
      clear h1 h2 t3 hq ht hk2 c1
      go_enter Try.func35, Try.ntmps35
      go_wp2_with (first
        | (go_at_call 25; refine Calls.mono ck ?_; rintro e w1 ⟨rfl, hb⟩; clear ck; have H1 := Lib.hid hb; clear hb; have c1 := C1.out w1)
        | (go_at_call 23; refine Calls.mono c1 ?_; rintro e w2 ⟨rfl, hb⟩; clear c1; have H2 := Lib.hid (bt H1.out hb); clear hb))
      go_ret
      exact ⟨by rw [E.out, ← EM.out]; rfl, H2.out⟩
  · have t4 : ((kindL p : Int) == 2) = false := by simp; omega
    have h3 : preB [32] f = false := by
      obtain ⟨u, e⟩ := preB_iff.1 h2
      rw [e]; simp [preB, List.isPrefixOf]
    have h32 : preB [32, 47] f = false := by
      obtain ⟨u, e⟩ := preB_iff.1 h2
      rw [e]; simp [preB, List.isPrefixOf]
    rw [h3] at t3
    have c1 := fun w1 => I.out f (by omega) w1
    have ht := told_as h1 (.inr hk2) h32
    cases hq : isL f with
    | false =>
      have E := Lib.hid (sub_no ht hq)
      rw [hq] at c1
      have C1 := Lib.hid c1
      clear h1 h2 h3 h32 hq ht hk2 c1
      go_enter Try.func35, Try.ntmps35
      go_wp2_with (first
        | (go_at_call 25; refine Calls.mono ck ?_; rintro e w1 ⟨rfl, hb⟩; clear ck; have H1 := Lib.hid hb; clear hb; have c1 := C1.out w1)
        | (go_at_call 23; refine Calls.mono c1 ?_; rintro e w2 ⟨rfl, hb⟩; clear c1; have H2 := Lib.hid (bt H1.out hb); clear hb))
      go_ret
      exact ⟨by rw [E.out]; rfl, H2.out⟩
    | true =>
      have E := Lib.hid (sub_yes ht hq)
      rw [hq] at c1
      have C1 := Lib.hid c1
      clear h1 h2 h3 h32 hq ht hk2 c1
      go_enter Try.func35, Try.ntmps35
      go_wp2_with (first
        | (go_at_call 25; refine Calls.mono ck ?_; rintro e w1 ⟨rfl, hb⟩; clear ck; have H1 := Lib.hid hb; clear hb; have c1 := C1.out w1)
        | (go_at_call 23; refine Calls.mono c1 ?_; rintro e w2 ⟨rfl, hb⟩; clear c1; have H2 := Lib.hid (bt H1.out hb); clear hb))
      go_ret
      exact ⟨by rw [E.out]; rfl, H2.out⟩
set_option maxHeartbeats 1600000 in
theorem rsub_ot (f p : L) (w : World) (h1 : sufL [46] f = false) (h2 : preB [47] f = false) (h0 : f ≠ []) (hs : f.length ≤ 100000) (hp : p.length ≤ 100000) : Calls Try.prog 35 #[.string ⟨f.toArray⟩, .string ⟨p.toArray⟩] w fun e w' =>
    e = .returned (.string ⟨(subL f p).toArray⟩) ∧ Below w.heap.size w w' := by
  have hl : 0 < f.length := by
    cases f with
    | nil => exact absurd rfl h0
    | cons x t => simp
  obtain ⟨k, hk⟩ : ∃ k, k + 1 = f.length := ⟨f.length - 1, by omega⟩
  have hkl : k < f.length := by omega
  have ek : (f.length : Int) - 1 = (k : Int) := by omega
  have e2 : (0 : Int) ≤ (k : Int) := by omega
  have e3 : (k : Int) < (f.length : Int) := by omega
  have e4 : (0 : Int) < (f.length : Int) := by omega
  have e5 : (1 : Int) ≤ (f.length : Int) := by omega
  have t1 := suf_at hk hkl
  have t2 := pre_at hl
  have t3 := blank_at hl
  have HB0 := Lib.hid (Below.refl w.heap.size w)
  have I := Lib.hid (fun (q : L) (hq : q.length ≤ 1000000000) w1 => ris_any q w1 hq)
  have K := Lib.hid (fun (q : L) (hq : q.length ≤ 1000000000) w1 => rkind_any q w1 hq)
  have HFK := Lib.hid hk
  clear hk h0
  rw [h1] at t1
  rw [h2] at t2
  cases h3 : preB [32] f with
  | true =>
    rw [h3] at t3
    have ck := K.out f.tail (by simp; omega) w
    have hsb := sub_blank (p := p) h3 h1
    rw [List.drop_one] at hsb
    by_cases hk2 : kindL f.tail = 2
    · rw [if_pos hk2] at hsb
      have c1 := fun w1 => I.out f.tail (by simp; omega) w1
      rw [hk2] at ck
      rw [(isL_iff f.tail).2 (by omega)] at c1
      have E := Lib.hid hsb
      have C1 := Lib.hid c1
      clear h1 h2 h3 hk2 c1 hsb
      go_enter Try.func35, Try.ntmps35
      go_wp2_with (first
        | (go_at_call 25; refine Calls.mono ck ?_; rintro e w1 ⟨rfl, hb⟩; clear ck; have H1 := Lib.hid hb; clear hb; have c1 := C1.out w1)
        | (go_at_call 23; refine Calls.mono c1 ?_; rintro e w2 ⟨rfl, hb⟩; clear c1; have H2 := Lib.hid (bt H1.out hb); clear hb))
      go_ret
      exact ⟨by rw [E.out]; rfl, H2.out⟩
    · rw [if_neg hk2] at hsb
      have t4 : ((kindL f.tail : Int) == 2) = false := by simp; omega
      have E := Lib.hid hsb
      clear h1 h2 h3 hk2 hsb
      go_enter Try.func35, Try.ntmps35
      go_wp2_with (go_at_call 25; refine Calls.mono ck ?_; rintro e w1 ⟨rfl, hb⟩; clear ck; have H1 := Lib.hid hb; clear hb)
      go_ret
      exact ⟨by rw [E.out]; rfl, H1.out⟩
  | false =>
    rw [h3] at t3
    have h32 : preB [32, 47] f = false := by
      cases q : preB [32, 47] f with
      | false => rfl
      | true =>
        obtain ⟨u, e⟩ := preB_iff.1 q
        have : preB [32] f = true := preB_iff.2 ⟨47 :: u, e⟩
        rw [h3] at this; cases this
    have c1 := I.out f (by omega) w
    have ht := told_as (p := p) h1 (.inl h2) h32
    cases hq : isL f with
    | false =>
      have E := Lib.hid (sub_no ht hq)
      rw [hq] at c1
      clear h1 h2 h3 h32 hq ht
      go_enter Try.func35, Try.ntmps35
      go_wp2_with (go_at_call 23; refine Calls.mono c1 ?_; rintro e w2 ⟨rfl, hb⟩; clear c1; have H2 := Lib.hid hb; clear hb)
      go_ret
      exact ⟨by rw [E.out]; rfl, H2.out⟩
    | true =>
      have E := Lib.hid (sub_yes ht hq)
      rw [hq] at c1
      clear h1 h2 h3 h32 hq ht
      go_enter Try.func35, Try.ntmps35
      go_wp2_with (go_at_call 23; refine Calls.mono c1 ?_; rintro e w2 ⟨rfl, hb⟩; clear c1; have H2 := Lib.hid hb; clear hb)
      go_ret
      exact ⟨by rw [E.out]; rfl, H2.out⟩
theorem rsub_any (f p : L) (w : World) (h0 : f ≠ []) (hs : f.length ≤ 100000) (hp : p.length ≤ 100000) : Calls Try.prog 35 #[.string ⟨f.toArray⟩, .string ⟨p.toArray⟩] w fun e w' =>
    e = .returned (.string ⟨(subL f p).toArray⟩) ∧ Below w.heap.size w w' := by
  cases h1 : sufL [46] f with
  | true => exact rsub_dot f p w h1 h0 hs hp
  | false =>
    cases h2 : preB [47] f with
    | true => exact rsub_sl f p w h1 h2 h0 hs hp
    | false => exact rsub_ot f p w h1 h2 h0 hs hp
end Go.Proofs.Ytmgbhkhkbebfpaa.Tr
