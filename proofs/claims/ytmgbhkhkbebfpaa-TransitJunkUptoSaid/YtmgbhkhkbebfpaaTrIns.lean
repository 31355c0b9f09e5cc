/-
  The code's Insert of chapter 6.
-/
import Derived.Test.YtmgbhkhkbebfpaaTrExp
set_option linter.unusedVariables false
namespace Go.Proofs.Ytmgbhkhkbebfpaa.Tr
open Go.RowKit Go.Proofs.Ytmgbhkhkbebfpaa.Mem Go.Proofs.Ytmgbhkhkbebfpaa.Nm
attribute [local go_sem] mk_at List.getElem_cons_zero List.getElem_cons_succ ext_tail ext_drop ext_mid ext_take

theorem ins_err {s c sv r : L} (h : (expL s c sv).2 ≠ 0) : insL s c sv r = ([], (expL s c sv).2) := by rw [insL, if_pos h]
theorem ins_no {s c sv r : L} (h : (expL s c sv).2 = 0) (h1 : isL r = false) : insL s c sv r = ([], 1) := by rw [insL, if_neg (by omega), if_neg (by simp [h1])]
theorem ins_in {s c sv r : L} (h : (expL s c sv).2 = 0) (h1 : isL r = true) (h2 : r = c ∨ r = sv ∨ r ∈ (expL s c sv).1) : insL s c sv r = (s, 0) := by rw [insL, if_neg (by omega), if_pos h1, if_pos h2]
theorem ins_new {s c sv r : L} (h : (expL s c sv).2 = 0) (h1 : isL r = true) (h2 : ¬ (r = c ∨ r = sv ∨ r ∈ (expL s c sv).1)) : insL s c sv r = compL ((expL s c sv).1 ++ [r]) := by rw [insL, if_neg (by omega), if_pos h1, if_neg h2]

set_option maxHeartbeats 3200000 in
set_option maxRecDepth 100000 in
theorem ins_any (s c sv r : L) (w : World) (hs : s.length ≤ 90000) (hc : c.length ≤ 1000000000) (hv : sv.length ≤ 1000000000) (hr : r.length ≤ 1000000000) :
    Calls Try.prog 18 #[.string ⟨s.toArray⟩, .string ⟨c.toArray⟩, .string ⟨sv.toArray⟩, .string ⟨r.toArray⟩] w fun e w' => e = .returned (.tuple #[.string ⟨(insL s c sv r).1.toArray⟩, .int .i64 ((insL s c sv r).2 : Int)]) ∧ Below w.heap.size w w' := by
  have c1 := exp_any s c sv w hs hc hv
  have hel := exp_len s c sv
  have hea := exp_all s c sv
  have herr := fun h => ins_err (s := s) (c := c) (sv := sv) (r := r) h
  have hno := fun h h1 => ins_no (s := s) (c := c) (sv := sv) (r := r) h h1
  have hin := fun h h1 h2 => ins_in (s := s) (c := c) (sv := sv) (r := r) h h1 h2
  have hnew := fun h h1 h2 => ins_new (s := s) (c := c) (sv := sv) (r := r) h h1 h2
  obtain ⟨X, eX⟩ : ∃ X, X = expL s c sv := ⟨_, rfl⟩
  rw [← eX] at c1 hel hea herr hno hin hnew
  obtain ⟨l, k⟩ := X
  simp only at c1 hel hea herr hno hin hnew
  have C2 := Lib.hid (fun w1 => is_any r w1 hr)
  have CL := Lib.hid (fun w1 => clone_any s w1 (by omega))
  clear eX
  by_cases hk : k = 0
  · subst hk
    cases h1 : isL r with
    | false =>
      have E := Lib.hid (hno rfl h1)
      have c2 := fun w1 => C2.out w1
      rw [h1] at c2
      have C2' := Lib.hid c2
      clear herr hno hin hnew h1 C2 c2 hel hea hs hc hv hr
      go_enter Try.func18, Try.ntmps18
      go_wp2_with (first
        | (go_at_call 16; refine Calls.mono c1 ?_; rintro e w1 ⟨⟨v, rfl, ho⟩, hb⟩; clear c1; have HO := Lib.hid ho; have H1 := Lib.hid hb; clear ho hb; have c2 := C2'.out w1)
        | (go_at_call 26; refine Calls.mono c2 ?_; rintro e w2 ⟨rfl, hd⟩; clear c2; have H2 := Lib.hid (bt H1.out hd.below); clear hd))
      go_ret2
      exact ⟨by rw [E.out]; rfl, H2.out⟩
    | true =>
      have c2 := fun w1 => C2.out w1
      rw [h1] at c2
      have C2' := Lib.hid c2
      have HEL := Lib.hid hel
      have HEA := Lib.hid hea
      by_cases e1 : r = c
      · have E := Lib.hid (hin rfl h1 (.inl e1))
        have t1 : (r == c) = true := by simpa using e1
        clear herr hno hin hnew h1 C2 c2 hel hea hs hc hv hr e1
        go_enter Try.func18, Try.ntmps18
        go_wp2_with (first
          | (go_at_call 16; refine Calls.mono c1 ?_; rintro e w1 ⟨⟨v, rfl, ho⟩, hb⟩; clear c1; have HO := Lib.hid ho; have H1 := Lib.hid hb; clear ho hb; have c2 := C2'.out w1)
          | (go_at_call 26; refine Calls.mono c2 ?_; rintro e w2 ⟨rfl, hd⟩; clear c2; have H2 := Lib.hid (bt H1.out hd.below); clear hd; have c3 := CL.out w2)
          | (go_at_call 38; refine Calls.mono c3 ?_; rintro e w3 ⟨rfl, hb⟩; clear c3; have H3 := Lib.hid (bt H2.out hb); clear hb))
        go_ret2
        exact ⟨by rw [E.out]; rfl, H3.out⟩
      · have t1 : (r == c) = false := by simpa using e1
        by_cases e2 : r = sv
        · have E := Lib.hid (hin rfl h1 (.inr (.inl e2)))
          have t2 : (r == sv) = true := by simpa using e2
          clear herr hno hin hnew h1 C2 c2 hel hea hs hc hv hr e1 e2
          go_enter Try.func18, Try.ntmps18
          go_wp2_with (first
            | (go_at_call 16; refine Calls.mono c1 ?_; rintro e w1 ⟨⟨v, rfl, ho⟩, hb⟩; clear c1; have HO := Lib.hid ho; have H1 := Lib.hid hb; clear ho hb; have c2 := C2'.out w1)
            | (go_at_call 26; refine Calls.mono c2 ?_; rintro e w2 ⟨rfl, hd⟩; clear c2; have H2 := Lib.hid (bt H1.out hd.below); clear hd; have c3 := CL.out w2)
            | (go_at_call 38; refine Calls.mono c3 ?_; rintro e w3 ⟨rfl, hb⟩; clear c3; have H3 := Lib.hid (bt H2.out hb); clear hb))
          go_ret2
          exact ⟨by rw [E.out]; rfl, H3.out⟩
        · have t2 : (r == sv) = false := by simpa using e2
          by_cases e3 : r ∈ l
          · have E := Lib.hid (hin rfl h1 (.inr (.inr e3)))
            have T3 := Lib.hid (decide_eq_true e3)
            clear herr hno hin hnew h1 C2 c2 hel hea hs hc hv hr e1 e2 e3
            go_enter Try.func18, Try.ntmps18
            go_wp2_with (first
              | (go_at_call 16; refine Calls.mono c1 ?_; rintro e w1 ⟨⟨v, rfl, ho⟩, hb⟩; clear c1; obtain ⟨A, c0, rfl, hr0⟩ := ho.slice; have HR := Lib.hid hr0; have H1 := Lib.hid hb; clear ho hb hr0; have c2 := C2'.out w1)
              | (go_at_call 26; refine Calls.mono c2 ?_; rintro e w2 ⟨rfl, hd⟩; clear c2; have H2 := Lib.hid (bt H1.out hd.below); have c4 := contains_any l A c0 _ r w2 (by have := HEL.out; omega) (HR.out.below hd.below); rw [T3.out] at c4; clear hd; have c3 := CL.out w2)
              | (go_at_call 37; refine Calls.mono c4 ?_; rintro e w4 ⟨rfl, rfl⟩; clear c4)
              | (go_at_call 38; refine Calls.mono c3 ?_; rintro e w3 ⟨rfl, hb⟩; clear c3; have H3 := Lib.hid (bt H2.out hb); clear hb))
            go_ret2
            exact ⟨by rw [E.out]; rfl, H3.out⟩
          · have hl9 := hnew rfl h1 (fun g => g.elim e1 fun g => g.elim e2 e3)
            have E := Lib.hid hl9
            have T3 := Lib.hid (decide_eq_false e3)
            have HP := Lib.hid (show ∀ i, i < (l ++ [r]).length → (pl (l ++ [r]) i).length ≤ 1000000000 from fun i hi => by
              have hm := pl_mem hi
              rcases List.mem_append.1 hm with g | g
              · have := real_len (all_isL hea g); omega
              · simp at g; rw [g]; have := real_len ((isL_iff r).1 h1); omega)
            obtain ⟨K, eK⟩ : ∃ K, K = l ++ [r] := ⟨_, rfl⟩
            have c5 := fun A c w1 => comp_any K A c w1 (by rw [eK]; simp; omega)
            rw [← eK] at HP E
            have C5 := Lib.hid c5
            have EK := Lib.hid eK
            clear herr hno hin hnew h1 C2 c2 hel hea hs hc hv hr e1 e2 e3 hl9 c5 eK
            go_enter Try.func18, Try.ntmps18
            go_wp2_with (first
              | (go_at_call 16; refine Calls.mono c1 ?_; rintro e w1 ⟨⟨v, rfl, ho⟩, hb⟩; clear c1; obtain ⟨A, c0, rfl, hr0⟩ := ho.slice; have HR := Lib.hid hr0; have HO := Lib.hid ho; have H1 := Lib.hid hb; clear ho hb hr0; have c2 := C2'.out w1)
              | (go_at_call 26; refine Calls.mono c2 ?_; rintro e w2 ⟨rfl, hd⟩; clear c2; have H2 := Lib.hid (bt H1.out hd.below); have HO2 := Lib.hid (HO.out.below hd.below); have c4 := contains_any l A c0 _ r w2 (by have := HEL.out; omega) (HR.out.below hd.below); rw [T3.out] at c4; clear hd; have c3 := CL.out w2)
              | (go_at_call 37; refine Calls.mono c4 ?_; rintro e w4 ⟨rfl, rfl⟩; clear c4)
              | (at_builtin; refine app_one rfl (.tmp 40) (.tmp 42) rfl w.heap.size _ _ rfl HO2.out r rfl (by have := HEL.out; omega) H2.out.size ?_; intro v' w5 ho5 hb5; rw [← EK.out] at ho5; obtain ⟨A5, c6, rfl, hr5⟩ := ho5.slice; have H5 := Lib.hid (H2.out.trans hb5); have c7 := C5.out A5 c6 w5 hr5 HP.out; clear ho5 hb5 hr5)
              | (go_at_call 14; refine Calls.mono c7 ?_; rintro e w7 ⟨rfl, hb⟩; clear c7; have H7 := Lib.hid (bt H5.out hb); clear hb))
            go_ret2
            exact ⟨by rw [E.out]; rfl, H7.out⟩
  · have E := Lib.hid (herr hk)
    have t : ((k : Int) == 0) = false := by simp; omega
    clear herr hno hin hnew hk hel hea hs hc hv hr
    go_enter Try.func18, Try.ntmps18
    go_wp2_with (go_at_call 16; refine Calls.mono c1 ?_; rintro e w1 ⟨⟨v, rfl, ho⟩, hb⟩; clear c1; have HO := Lib.hid ho; have H1 := Lib.hid hb; clear ho hb)
    go_ret2
    exact ⟨by rw [E.out]; rfl, H1.out⟩
end Go.Proofs.Ytmgbhkhkbebfpaa.Tr
