/-
  The code's told and further, addOnce and addEach of chapter 6.
-/
import Derived.Test.YtmgbhkhkbebfpaaTrRow
import Derived.Test.YtmgbhkhkbebfpaaNmPrinc
set_option linter.unusedVariables false
namespace Go.Proofs.Ytmgbhkhkbebfpaa.Tr
open Go.RowKit Go.Proofs.Ytmgbhkhkbebfpaa.Mem Go.Proofs.Ytmgbhkhkbebfpaa.Nm
attribute [local go_sem] mk_at List.getElem_cons_zero List.getElem_cons_succ ext_tail ext_drop ext_mid ext_take

theorem told_dot {f p : L} (h : sufL [46] f = true) : toldL f p = f ++ p := by rw [toldL, if_pos h]
theorem told_sl {f p : L} (h : sufL [46] f = false) (h1 : preB [47] f = true) (h2 : kindL p = 2) : toldL f p = p ++ f := by rw [toldL, h, h1, h2]; rfl
theorem told_bl {f p : L} (h : sufL [46] f = false) (h1 : preB [47] f = false ∨ kindL p ≠ 2) (h2 : preB [32, 47] f = true) : toldL f p = f.drop 1 := by
  rw [toldL, h, h2]
  rcases h1 with h1 | h1
  · rw [h1]; rfl
  · rw [decide_eq_false h1]; simp
theorem told_as {f p : L} (h : sufL [46] f = false) (h1 : preB [47] f = false ∨ kindL p ≠ 2) (h2 : preB [32, 47] f = false) : toldL f p = f := by
  rw [toldL, h, h2]
  rcases h1 with h1 | h1
  · rw [h1]; rfl
  · rw [decide_eq_false h1]; simp
theorem tp_blank {f : L} (h : preB [32, 47] f = true) : tpL [32] f = f.drop 1 := by
  obtain ⟨u, rfl⟩ := preB_iff.1 h
  rw [tpL, if_pos (show preB [32] ([32, 47] ++ u) = true from preB_iff.2 ⟨47 :: u, rfl⟩)]; rfl
theorem ts_under {r p : L} (h : underL r p = true) (hk : kindL r = 1) : tsL p r = furL r p := by
  obtain ⟨u, e⟩ := under_one h hk
  rw [tsL, if_pos (suf_iff.2 ⟨u ++ [46], by rw [e]; simp⟩), furL, if_pos h, if_pos hk]
theorem tp_under {r p : L} (h : underL r p = true) (hk : kindL r ≠ 1) : tpL p r = furL r p := by
  have h2 : kindL r = 2 := by have := under_real h; have := kind_le r; omega
  obtain ⟨v, e⟩ := under_two h h2
  rw [tpL, if_pos (preB_iff.2 ⟨_, e⟩), furL, if_pos h, if_neg hk]

set_option maxHeartbeats 800000 in
theorem told_any (f p : L) (w : World) (hs : f.length ≤ 100000) (hp : p.length ≤ 100000) : Calls Try.prog 30 #[.string ⟨f.toArray⟩, .string ⟨p.toArray⟩] w fun e w' =>
    e = .returned (.string ⟨(toldL f p).toArray⟩) ∧ Drawn w w' := by
  have c1 := shassuffix_any f [46] w (by omega) (by decide)
  have HD := Lib.hid (Drawn.refl w)
  cases h : sufL [46] f with
  | true =>
    have E := Lib.hid ((mk_append f p).trans (by rw [← told_dot (p := p) h]))
    rw [h] at c1
    clear h
    go_enter Try.func30, Try.ntmps30
    go_wp2_with (go_at_call 46; refine Calls.mono c1 ?_; rintro e w1 ⟨rfl, rfl⟩)
    go_ret
    exact ⟨by rw [← E.out]; rfl, HD.out⟩
  | false =>
    rw [h] at c1
    have c2 := shasprefix_any f [47] w (by omega) (by decide)
    have C3 := Lib.hid (fun w1 => shasprefix_any f [32, 47] w1 (by omega) (by decide))
    have C4 := Lib.hid (fun w1 => trimprefix_any f [32] w1 (by omega) (by decide))
    have c5 := kind_any p w (by omega)
    cases h1 : preB [47] f with
    | true =>
      rw [h1] at c2
      by_cases h2 : kindL p = 2
      · have E := Lib.hid ((mk_append p f).trans (by rw [← told_sl h h1 h2]))
        rw [h2] at c5
        clear h h1 h2 C3 C4
        go_enter Try.func30, Try.ntmps30
        go_wp2_with (first
          | (go_at_call 46; refine Calls.mono c1 ?_; rintro e w1 ⟨rfl, rfl⟩)
          | (go_at_call 47; refine Calls.mono c2 ?_; rintro e w1 ⟨rfl, rfl⟩)
          | (go_at_call 41; refine Calls.mono c5 ?_; rintro e w2 ⟨rfl, hd⟩; have H2 := Lib.hid hd; clear hd c5))
        go_ret
        exact ⟨by rw [← E.out]; rfl, H2.out⟩
      · have t : ((kindL p : Int) == 2) = false := by simp; omega
        cases h3 : preB [32, 47] f with
        | true =>
          exfalso
          obtain ⟨u, e⟩ := preB_iff.1 h1
          obtain ⟨v, g⟩ := preB_iff.1 h3
          rw [e] at g
          have := congrArg List.head? g
          revert this; simp
        | false =>
          have c3 := fun w1 => C3.out w1
          rw [h3] at c3
          have C3' := Lib.hid c3
          have E := Lib.hid (told_as h (.inr h2) h3)
          clear h h1 h2 h3 C3 C4 c3
          go_enter Try.func30, Try.ntmps30
          go_wp2_with (first
            | (go_at_call 46; refine Calls.mono c1 ?_; rintro e w1 ⟨rfl, rfl⟩)
            | (go_at_call 47; refine Calls.mono c2 ?_; rintro e w1 ⟨rfl, rfl⟩; clear c2)
            | (go_at_call 41; refine Calls.mono c5 ?_; rintro e w2 ⟨rfl, hd⟩; have H2 := Lib.hid hd; clear hd c5; have c3 := C3'.out w2)
            | (go_at_call 47; refine Calls.mono c3 ?_; rintro e w3 ⟨rfl, rfl⟩))
          go_ret
          exact ⟨by rw [E.out]; rfl, H2.out⟩
    | false =>
      rw [h1] at c2
      cases h3 : preB [32, 47] f with
      | true =>
        have c3 := C3.out w
        rw [h3] at c3
        have c4 := C4.out w
        rw [tp_blank h3, ← told_bl (p := p) h (.inl h1) h3] at c4
        clear h h1 h3 C3 C4
        go_enter Try.func30, Try.ntmps30
        go_wp2_with (first
          | (go_at_call 46; refine Calls.mono c1 ?_; rintro e w1 ⟨rfl, rfl⟩)
          | (go_at_call 47; refine Calls.mono c2 ?_; rintro e w1 ⟨rfl, rfl⟩; clear c2)
          | (go_at_call 47; refine Calls.mono c3 ?_; rintro e w3 ⟨rfl, rfl⟩)
          | (go_at_call 44; refine Calls.mono c4 ?_; rintro e w3 ⟨rfl, rfl⟩))
        go_ret
        exact ⟨rfl, HD.out⟩
      | false =>
        have c3 := C3.out w
        rw [h3] at c3
        have E := Lib.hid (told_as (p := p) h (.inl h1) h3)
        clear h h1 h3 C3 C4
        go_enter Try.func30, Try.ntmps30
        go_wp2_with (first
          | (go_at_call 46; refine Calls.mono c1 ?_; rintro e w1 ⟨rfl, rfl⟩)
          | (go_at_call 47; refine Calls.mono c2 ?_; rintro e w1 ⟨rfl, rfl⟩; clear c2)
          | (go_at_call 47; refine Calls.mono c3 ?_; rintro e w3 ⟨rfl, rfl⟩))
        go_ret
        exact ⟨by rw [E.out]; rfl, HD.out⟩

set_option maxHeartbeats 800000 in
theorem further_any (r p : L) (w : World) (hs : r.length ≤ 1000000000) (hp : p.length ≤ 1000000000) : Calls Try.prog 27 #[.string ⟨r.toArray⟩, .string ⟨p.toArray⟩] w fun e w' =>
    e = .returned (.string ⟨(furL r p).toArray⟩) ∧ Below w.heap.size w w' := by
  have c1 := kind_any r w hs
  have c2 := fun w1 => under_any r p w1 hs
  have c3 := fun w1 => trimsuffix_any r p w1 hs hp
  have c4 := fun w1 => trimprefix_any r p w1 hs hp
  have C3 := Lib.hid c3; clear c3
  have C4 := Lib.hid c4; clear c4
  by_cases hk : kindL r = 1
  · rw [hk] at c1
    cases h : underL r p with
    | true =>
      rw [h] at c2
      have C2 := Lib.hid c2
      have E := Lib.hid (ts_under h hk)
      clear h hk c2 hs hp
      go_enter Try.func27, Try.ntmps27
      go_wp2_with (first
        | (go_at_call 41; refine Calls.mono c1 ?_; rintro e w1 ⟨rfl, hd⟩; clear c1; have H1 := Lib.hid hd.below; clear hd; have c2 := C2.out w1)
        | (go_at_call 42; refine Calls.mono c2 ?_; rintro e w2 ⟨rfl, hb⟩; clear c2; have H2 := Lib.hid (H1.out.trans (hb.mono H1.out.size)); clear hb; have c3 := C3.out w2)
        | (go_at_call 43; refine Calls.mono c3 ?_; rintro e w3 ⟨rfl, rfl⟩))
      go_ret
      exact ⟨by rw [← E.out]; rfl, H2.out⟩
    | false =>
      rw [h] at c2
      have C2 := Lib.hid c2
      have E := Lib.hid (fur_not h hk)
      clear h hk c2 hs hp
      go_enter Try.func27, Try.ntmps27
      go_wp2_with (first
        | (go_at_call 41; refine Calls.mono c1 ?_; rintro e w1 ⟨rfl, hd⟩; clear c1; have H1 := Lib.hid hd.below; clear hd; have c2 := C2.out w1)
        | (go_at_call 42; refine Calls.mono c2 ?_; rintro e w2 ⟨rfl, hb⟩; clear c2; have H2 := Lib.hid (H1.out.trans (hb.mono H1.out.size)); clear hb))
      go_ret
      exact ⟨by rw [E.out]; rfl, H2.out⟩
  · have t : ((kindL r : Int) == 1) = false := by simp; omega
    cases h : underL r p with
    | true =>
      rw [h] at c2
      have C2 := Lib.hid c2
      have E := Lib.hid (tp_under h hk)
      clear h hk c2 hs hp
      go_enter Try.func27, Try.ntmps27
      go_wp2_with (first
        | (go_at_call 41; refine Calls.mono c1 ?_; rintro e w1 ⟨rfl, hd⟩; clear c1; have H1 := Lib.hid hd.below; clear hd; have c2 := C2.out w1)
        | (go_at_call 42; refine Calls.mono c2 ?_; rintro e w2 ⟨rfl, hb⟩; clear c2; have H2 := Lib.hid (H1.out.trans (hb.mono H1.out.size)); clear hb; have c4 := C4.out w2)
        | (go_at_call 44; refine Calls.mono c4 ?_; rintro e w3 ⟨rfl, rfl⟩))
      go_ret
      exact ⟨by rw [← E.out]; rfl, H2.out⟩
    | false =>
      rw [h] at c2
      have C2 := Lib.hid c2
      have E := Lib.hid (show ByteArray.mk #[32] ++ ByteArray.mk r.toArray = ByteArray.mk (furL r p).toArray by
        rw [show furL r p = [32] ++ r by rw [furL, if_neg (by simp [h]), if_neg hk]; rfl]
        exact mk_append [32] r)
      clear h hk c2
      go_enter Try.func27, Try.ntmps27
      go_wp2_with (first
        | (go_at_call 41; refine Calls.mono c1 ?_; rintro e w1 ⟨rfl, hd⟩; clear c1; have H1 := Lib.hid hd.below; clear hd; have c2 := C2.out w1)
        | (go_at_call 42; refine Calls.mono c2 ?_; rintro e w2 ⟨rfl, hb⟩; clear c2; have H2 := Lib.hid (H1.out.trans (hb.mono H1.out.size)); clear hb))
      go_ret
      exact ⟨by rw [← E.out]; rfl, H2.out⟩

set_option maxHeartbeats 800000 in
theorem addonce_any (v : Value) (ls : List L) (r : L) (w : World) (base : Nat) (ho : Own w base v ls) (hb : base ≤ w.heap.size) (hl : ls.length ≤ 1000000) (hs : r.length ≤ 1000000000) :
    Calls Try.prog 33 #[v, .string ⟨r.toArray⟩] w fun e w' => ∃ v', e = .returned v' ∧ Own w' base v' (addL ls r) ∧ Far w w' v v' ∧ Below base w w' := by
  obtain ⟨A, c, rfl, hr⟩ := ho.slice
  have c1 := contains_any ls A c _ r w (by omega) hr
  have HB0 := Lib.hid (Below.refl base w)
  have HO := Lib.hid ho; clear ho hr
  have HF0 := Lib.hid (Far.refl w (.slice A ls.length c))
  by_cases h : r ∈ ls
  · rw [decide_eq_true h] at c1
    have E := Lib.hid (add_in h)
    clear h hb hl hs
    go_enter Try.func33, Try.ntmps33
    go_wp2_with (go_at_call 37; refine Calls.mono c1 ?_; rintro e w1 ⟨rfl, rfl⟩)
    go_ret
    exact ⟨_, rfl, by rw [E.out]; exact HO.out, HF0.out, HB0.out⟩
  · rw [decide_eq_false h] at c1
    have E := Lib.hid (add_new h)
    have c2 := clone_any r w hs
    have HBS := Lib.hid hb
    have HL := Lib.hid hl
    clear h hs hb hl
    go_enter Try.func33, Try.ntmps33
    go_wp2_with (first
      | (go_at_call 37; refine Calls.mono c1 ?_; rintro e w1 ⟨rfl, rfl⟩)
      | (go_at_call 38; refine Calls.mono c2 ?_; rintro e w2 ⟨rfl, hb⟩; clear c2; have H2 := Lib.hid (hb.mono HBS.out); have HO2 := Lib.hid (HO.out.below hb); have hsz := Nat.le_trans HBS.out hb.size; have HSZ := Lib.hid hsz; have HF2 := Lib.hid (Far.below (.slice A ls.length c) hb); clear hb hsz)
      | (at_builtin; refine app_keep rfl (.tmp 9) (.tmp 12) rfl base _ _ rfl HO2.out r rfl (by have := HL.out; omega) HSZ.out ?_; intro v' w3 ho3 hk3 hf3 hb3; rw [← E.out] at ho3; have H3 := Lib.hid (H2.out.trans hb3); have HO3 := Lib.hid ho3; have HF3 := Lib.hid (HF2.out.trans hf3); clear ho3 hb3 hk3 hf3))
    go_ret
    exact ⟨_, rfl, HO3.out, HF3.out, H3.out⟩

theorem addsK (l ms : List L) (k : Nat) (h : k < ms.length) : addsL l (ms.take (k + 1)) = addL (addsL l (ms.take k)) (pl ms k) := by
  rw [take_succ_pl h, adds_append]; rfl
set_option maxHeartbeats 1600000 in
theorem addeach_any (v : Value) (ls ms : List L) (A2 : Option Addr) (c2 : Nat) (w : World) (base : Nat) (ho : Own w base v ls) (hb : base ≤ w.heap.size) (hl : ls.length + ms.length ≤ 1000000) (hr : Rd w w.heap.size A2 (strs ms)) (hoff : Off A2 v) (hs : ∀ x ∈ ms, x.length ≤ 1000000000) :
    Calls Try.prog 31 #[v, .slice A2 ms.length c2] w fun e w' => ∃ v', e = .returned v' ∧ Own w' base v' (addsL ls ms) ∧ Far w w' v v' ∧ Below base w w' := by
  have HO := Lib.hid ho; clear ho
  have HR := Lib.hid hr; clear hr
  have HOF := Lib.hid hoff; clear hoff
  have HS := Lib.hid hs; clear hs
  have HB0 := Lib.hid (Below.refl base w)
  have HF0 := Lib.hid (Far.refl w v)
  have HBS := Lib.hid hb; clear hb
  obtain ⟨n, en⟩ : ∃ n, n = ms.length := ⟨_, rfl⟩
  rw [← en] at hl ⊢
  have HL := Lib.hid hl
  have hn : n ≤ 1000000 := by omega
  have EN := Lib.hid en; clear en hl
  go_enter Try.func31, Try.ntmps31
  go_wp2
  go_loopw [0, 9] (fun vv iv wr => ∃ i : Nat, i ≤ n ∧ iv = .int .i64 (i : Int) ∧ Own wr base vv (addsL ls (ms.take i)) ∧ Far w wr v vv ∧ Below base w wr) (fun _ iv _ => n - (intOf iv).toNat)
  case atStart => exact ⟨0, Nat.zero_le _, rfl, HO.out, HF0.out, HB0.out⟩
  case round =>
    obtain ⟨i, hi, rfl, ho, hf, hb⟩ := hrel
    have HOi := Lib.hid ho; clear ho
    have HFi := Lib.hid hf; clear hf
    have HBi := Lib.hid hb; clear hb
    by_cases hlt : i < n
    · have e1 : (i : Int) < (n : Int) := by omega
      have e2 : (0 : Int) ≤ (i : Int) := by omega
      have him : i < ms.length := by rw [← EN.out]; exact hlt
      obtain ⟨b, o, rfl, _, h1⟩ := rd_txt (HFi.out.rd HR.out HOF.out).1 him
      have c1 := addonce_any _ _ (pl ms i) wr base HOi.out (Nat.le_trans HBS.out HBi.out.size) (by have := adds_len (ms.take i) ls; simp at this; have := HL.out; omega) (HS.out _ (pl_mem him))
      rw [← addsK ls ms i him] at c1
      have HM := Lib.hid him; clear him
      go_wp2_with (go_at_call 33; refine Calls.mono c1 ?_; rintro e w1 ⟨v', rfl, ho, hf, hb⟩; clear c1; have HO1 := Lib.hid ho; have HF1 := Lib.hid (HFi.out.trans hf); have H1 := Lib.hid (HBi.out.trans hb); clear ho hb hf)
      go_roundw
      case rel => exact ⟨i + 1, by omega, by go_num, HO1.out, HF1.out, H1.out⟩
      case measure => simp [intOf]; omega
    · have e1 : ¬ (i : Int) < (n : Int) := by omega
      have E := Lib.hid (show ms.take i = ms from List.take_of_length_le (by have := EN.out; omega))
      go_wp2
      go_ret
      exact ⟨_, rfl, by rw [← E.out]; exact HOi.out, HFi.out, HBi.out⟩
end Go.Proofs.Ytmgbhkhkbebfpaa.Tr
