/-
  The document's own answer of chapter 6: Insert.
-/
import Derived.Test.YtmgbhkhkbebfpaaTrRefE
import Derived.Test.YtmgbhkhkbebfpaaTrIns
set_option linter.unusedVariables false
namespace Go.Proofs.Ytmgbhkhkbebfpaa.Tr
open Go.RowKit Go.Proofs.Ytmgbhkhkbebfpaa.Mem Go.Proofs.Ytmgbhkhkbebfpaa.Nm
attribute [local go_sem] mk_at List.getElem_cons_zero List.getElem_cons_succ ext_tail ext_drop ext_mid ext_take

set_option maxHeartbeats 3200000 in
set_option maxRecDepth 100000 in
theorem rins_any (s c sv r : L) (w : World) (hs : s.length ≤ 90000) (hc : c.length ≤ 1000000000) (hv : sv.length ≤ 1000000000) (hr : r.length ≤ 1000000000) :
    Calls Try.prog 19 #[.string ⟨s.toArray⟩, .string ⟨c.toArray⟩, .string ⟨sv.toArray⟩, .string ⟨r.toArray⟩] w fun e w' => e = .returned (.tuple #[.string ⟨(insL s c sv r).1.toArray⟩, .int .i64 ((insL s c sv r).2 : Int)]) ∧ Below w.heap.size w w' := by
  have c1 := rexp_any s c sv w hs hc hv
  have hel := exp_len s c sv
  have hea := exp_all s c sv
  have herr := fun h => ins_err (s := s) (c := c) (sv := sv) (r := r) h
  have hno := fun h h1 => ins_no (s := s) (c := c) (sv := sv) (r := r) h h1
  have hin := fun h h1 h2 => ins_in (s := s) (c := c) (sv := sv) (r := r) h h1 h2
  have hnew := fun h h1 h2 => ins_new (s := s) (c := c) (sv := sv) (r := r) h h1 h2
  obtain ⟨X, eX⟩ : ∃ X, X = expL s c sv := ⟨_, rfl⟩
  rw [← eX] at c1 hel hea herr hno hin hnew
  obtain ⟨l, k⟩ := X
  simp only at c1 hel hea herr hno hin hnew
  have C2 := Lib.hid (fun w1 => ris_any r w1 hr)
  clear eX
  by_cases hk : k = 0
  · subst hk
    cases h1 : isL r with
    | false =>
      have E := Lib.hid (hno rfl h1)
      have c2 := fun w1 => C2.out w1
      rw [h1] at c2
      have C2' := Lib.hid c2
      clear herr hno hin hnew h1 C2 c2 hel hea hs hc hv hr
      go_enter Try.func19, Try.ntmps19
      go_wp2_with (first
        | (go_at_call 17; refine Calls.mono c1 ?_; rintro e w1 ⟨⟨v, rfl, ho⟩, hb⟩; clear c1; have HO := Lib.hid ho; have H1 := Lib.hid hb; clear ho hb; have c2 := C2'.out w1)
        | (go_at_call 23; refine Calls.mono c2 ?_; rintro e w2 ⟨rfl, hd⟩; clear c2; have H2 := Lib.hid (bt H1.out hd); clear hd))
      go_ret2
      exact ⟨by rw [E.out]; rfl, H2.out⟩
    | true =>
      have c2 := fun w1 => C2.out w1
      rw [h1] at c2
      have C2' := Lib.hid c2
      have HEL := Lib.hid hel
      have HEA := Lib.hid hea
      by_cases e1 : r = c
      · have E := Lib.hid (hin rfl h1 (.inl e1))
        have t1 : (r == c) = true := by simpa using e1
        clear herr hno hin hnew h1 C2 c2 hel hea hs hc hv hr e1
        go_enter Try.func19, Try.ntmps19
        go_wp2_with (first
          | (go_at_call 17; refine Calls.mono c1 ?_; rintro e w1 ⟨⟨v, rfl, ho⟩, hb⟩; clear c1; have HO := Lib.hid ho; have H1 := Lib.hid hb; clear ho hb; have c2 := C2'.out w1)
          | (go_at_call 23; refine Calls.mono c2 ?_; rintro e w2 ⟨rfl, hd⟩; clear c2; have H2 := Lib.hid (bt H1.out hd); clear hd))
        go_ret2
        exact ⟨by rw [E.out]; rfl, H2.out⟩
      · have t1 : (r == c) = false := by simpa using e1
        by_cases e2 : r = sv
        · have E := Lib.hid (hin rfl h1 (.inr (.inl e2)))
          have t2 : (r == sv) = true := by simpa using e2
          clear herr hno hin hnew h1 C2 c2 hel hea hs hc hv hr e1 e2
          go_enter Try.func19, Try.ntmps19
          go_wp2_with (first
            | (go_at_call 17; refine Calls.mono c1 ?_; rintro e w1 ⟨⟨v, rfl, ho⟩, hb⟩; clear c1; have HO := Lib.hid ho; have H1 := Lib.hid hb; clear ho hb; have c2 := C2'.out w1)
            | (go_at_call 23; refine Calls.mono c2 ?_; rintro e w2 ⟨rfl, hd⟩; clear c2; have H2 := Lib.hid (bt H1.out hd); clear hd))
          go_ret2
          exact ⟨by rw [E.out]; rfl, H2.out⟩
        · have t2 : (r == sv) = false := by simpa using e2
          by_cases e3 : r ∈ l
          · have E := Lib.hid (hin rfl h1 (.inr (.inr e3)))
            have T3 := Lib.hid (add_in e3)
            clear herr hno hin hnew h1 C2 c2 hel hea hs hc hv hr e1 e2 e3
            go_enter Try.func19, Try.ntmps19
            go_wp2_with (first
              | (go_at_call 17; refine Calls.mono c1 ?_; rintro e w1 ⟨⟨v, rfl, ho⟩, hb⟩; clear c1; obtain ⟨A, c0, rfl, _⟩ := ho.slice; have HO := Lib.hid ho; have H1 := Lib.hid hb; clear ho hb; have c2 := C2'.out w1)
              | (go_at_call 23; refine Calls.mono c2 ?_; rintro e w2 ⟨rfl, hd⟩; clear c2; have H2 := Lib.hid (bt H1.out hd); have c4 := radd_any _ l r w2 w.heap.size (HO.out.below hd) H2.out.size (by have := HEL.out; omega); rw [T3.out] at c4; clear hd)
              | (go_at_call 36; refine Calls.mono c4 ?_; rintro e w4 ⟨v4, rfl, ho4, _, _, hb4⟩; clear c4; obtain ⟨A4, c4, rfl, _⟩ := ho4.slice; have H4 := Lib.hid (H2.out.trans hb4); clear ho4 hb4))
            go_ret2
            exact ⟨by rw [E.out]; rfl, H4.out⟩
          · have hl9 := hnew rfl h1 (fun g => g.elim e1 fun g => g.elim e2 e3)
            have E := Lib.hid hl9
            have T3 := Lib.hid (decide_eq_false e3)
            have HP := Lib.hid (show ∀ i, i < (l ++ [r]).length → (pl (l ++ [r]) i).length ≤ 1000000000 from fun i hi => by
              have hm := pl_mem hi
              rcases List.mem_append.1 hm with g | g
              · have := real_len (all_isL hea g); omega
              · simp at g; rw [g]; have := real_len ((isL_iff r).1 h1); omega)
            obtain ⟨K, eK⟩ : ∃ K, K = l ++ [r] := ⟨_, rfl⟩
            have c5 := fun A c w1 => rcomp_any K A c w1 (by rw [eK]; simp; omega)
            rw [← eK] at HP E
            have C5 := Lib.hid c5
            have EK := Lib.hid eK
            clear herr hno hin hnew h1 C2 c2 hel hea hs hc hv hr e1 e2 e3 hl9 c5 eK
            have T4 := Lib.hid (show addL l r = K by rw [EK.out]; exact add_new (of_decide_eq_false T3.out))
            have T5 := Lib.hid (show K.length = l.length + 1 by rw [EK.out]; simp)
            have t6 : ((K.length : Int) == (l.length : Int)) = false := by have := T5.out; simp; omega
            go_enter Try.func19, Try.ntmps19
            go_wp2_with (first
              | (go_at_call 17; refine Calls.mono c1 ?_; rintro e w1 ⟨⟨v, rfl, ho⟩, hb⟩; clear c1; obtain ⟨A, c0, rfl, _⟩ := ho.slice; have HO := Lib.hid ho; have H1 := Lib.hid hb; clear ho hb; have c2 := C2'.out w1)
              | (go_at_call 23; refine Calls.mono c2 ?_; rintro e w2 ⟨rfl, hd⟩; clear c2; have H2 := Lib.hid (bt H1.out hd); have c4 := radd_any _ l r w2 w.heap.size (HO.out.below hd) H2.out.size (by have := HEL.out; omega); rw [T4.out] at c4; clear hd)
              | (go_at_call 36; with_reducible refine Calls.mono c4 ?_; rintro e w4 ⟨v4, rfl, ho4, hk4, _, hb4⟩; clear c4; obtain ⟨A4, c4, rfl, _⟩ := ho4.slice; have H4 := Lib.hid (H2.out.trans hb4); have c8 := radd_any _ l r w4 w.heap.size hk4 H4.out.size (by have := HEL.out; omega); rw [T4.out] at c8; clear ho4 hb4 hk4)
              | (go_at_call 36; with_reducible refine Calls.mono c8 ?_; rintro e w8 ⟨v8, rfl, ho8, _, _, hb8⟩; clear c8; obtain ⟨A8, c8, rfl, hr8⟩ := ho8.slice; have H8 := Lib.hid (H4.out.trans hb8); have c7 := C5.out A8 c8 w8 hr8 HP.out; clear ho8 hb8 hr8)
              | (go_at_call 15; refine Calls.mono c7 ?_; rintro e w7 ⟨rfl, hb⟩; clear c7; have H7 := Lib.hid (bt H8.out hb); clear hb))
            go_ret2
            exact ⟨by rw [E.out]; rfl, H7.out⟩
  · have E := Lib.hid (herr hk)
    have t : ((k : Int) == 0) = false := by simp; omega
    clear herr hno hin hnew hk hel hea hs hc hv hr
    go_enter Try.func19, Try.ntmps19
    go_wp2_with (go_at_call 17; refine Calls.mono c1 ?_; rintro e w1 ⟨⟨v, rfl, ho⟩, hb⟩; clear c1; have HO := Lib.hid ho; have H1 := Lib.hid hb; clear ho hb)
    go_ret2
    exact ⟨by rw [E.out]; rfl, H1.out⟩
end Go.Proofs.Ytmgbhkhkbebfpaa.Tr
