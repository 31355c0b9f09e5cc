/-
  The code's down and Between of chapter 5.
-/
import Derived.Test.YtnalnhplcchdoaaNmRev
set_option linter.unusedVariables false
namespace Go.Proofs.Ytnalnhplcchdoaa.Nm
open Go.RowKit Go.Proofs.Ytnalnhplcchdoaa.Mem

theorem pl_len_le {b : L} (i : Nat) : (pl (ch b) i).length ≤ b.length := by
  rcases Nat.lt_or_ge i (ch b).length with g | g
  · exact mem_len (pl_mem g)
  · rw [pl_ge g]; simp
theorem downW_len (B : List L) (b : L) (k : Nat) : (downW B b k).length ≤ k := by
  induction k with
  | zero => simp [downW]
  | succ k ih => rw [downW, List.length_append]; split <;> simp <;> omega
theorem upW_len (B : List L) (b : L) (k : Nat) : (upW B b k).length ≤ k := by
  induction k with
  | zero => simp [upW]
  | succ k ih => rw [upW, List.length_append]; split <;> simp <;> omega

set_option maxHeartbeats 1600000 in
set_option maxRecDepth 100000 in
theorem down_any (x b : L) (k : Nat) (w : World) (hs : b.length ≤ 1000000000) (hk : k ≤ (ch b).length) (hx : pl (ch b) k = x) (hn : ∀ i, i < k → pl (ch b) i ≠ x) :
    Calls Try.prog 56 #[.string ⟨x.toArray⟩, .string ⟨b.toArray⟩] w fun e w' => ∃ v, e = .returned v ∧ Own w' w.heap.size v (downW (ch b) b k).reverse ∧ Below w.heap.size w w' := by
  have c2 := fun (i : Nat) w1 => up_any (pl (ch b) i) w1 (Nat.le_trans (pl_len_le i) hs)
  have hk4 := ch_len b
  have hup : ∀ i, i < (ch b).length → upL (pl (ch b) i) = pl (ch b) (i + 1) := fun i h => up_at _ h
  have h0 : pl (ch b) 0 = b := by
    by_cases e : b = []
    · subst e; rw [ch_nil]; rfl
    · exact ch_zero e
  obtain ⟨B, eB⟩ : ∃ B, B = ch b := ⟨_, rfl⟩
  rw [← eB] at c2 hk4 hup h0 hk hx hn ⊢
  clear eB
  obtain ⟨N, eN⟩ : ∃ N, N = w.heap.size := ⟨_, rfl⟩
  rw [← eN]
  have HX := Lib.hid hx; clear hx
  have H0 := Lib.hid h0; clear h0
  have HN := Lib.hid hn; clear hn
  have C2 := Lib.hid c2; clear c2
  have HUP := Lib.hid hup; clear hup
  have HB0 := Lib.hid (show Below N w w by exact Below.refl _ _)
  have EN := Lib.hid eN; clear eN
  clear hs
  go_enter Try.func56, Try.ntmps56
  go_wp2
  go_loopg [5, 6] k (fun g vv rv wr => ∃ i : Nat, i + g = k ∧ rv = .string ⟨(pl B i).toArray⟩ ∧ Own wr N vv (downW B b i) ∧ Below N w wr)
  case atStart => exact ⟨0, Nat.zero_add _, by rw [H0.out], Own.nil _ _, HB0.out⟩
  case round =>
    obtain ⟨i, hi, rfl, ho, hb⟩ := hrel
    have HO := Lib.hid ho; clear ho
    have HB := Lib.hid hb; clear hb
    have HI := Lib.hid hi; clear hi
    have HNS := Lib.hid (show N ≤ wr.heap.size by have := HB.out.size; have := EN.out; omega)
    by_cases hlt : i < k
    · have t1 : (pl B i == x) = false := by simpa using HN.out i hlt
      have c3 := fun w1 => C2.out i w1
      rw [HUP.out i (by omega)] at c3
      have C3 := Lib.hid c3; clear c3
      by_cases hb : pl B i = b
      · have t2 : (pl B i == b) = true := by simpa using hb
        have E := Lib.hid (show downW B b (i + 1) = downW B b i by rw [downW, if_pos hb, List.append_nil])
        clear hb
        have c3 := C3.out wr
        go_wp2_with (go_at_call 55; refine Calls.mono c3 ?_; rintro e w3 ⟨rfl, hb⟩; clear c3; have H3 := Lib.hid (HB.out.trans (hb.mono HNS.out)); have HO3 := Lib.hid (HO.out.below hb); clear hb)
        go_roundg (k - (i + 1))
        case measure => have := HI.out; omega
        case rel => exact ⟨i + 1, by have := HI.out; omega, rfl, by rw [E.out]; exact HO3.out, H3.out⟩
      · have t2 : (pl B i == b) = false := by simpa using hb
        have E := Lib.hid (show downW B b (i + 1) = downW B b i ++ [pl B i] by rw [downW, if_neg hb])
        clear hb
        go_wp2_with (first
          | (at_builtin; refine app_one rfl (.tmp 16) (.tmp 18) rfl N _ _ rfl HO.out (pl B i) rfl (by have := downW_len B b i; omega) HNS.out ?_; intro v' w3 ho3 hb3; have H3 := Lib.hid (HB.out.trans hb3); rw [← E.out] at ho3; have HO3 := Lib.hid ho3; clear ho3 hb3; have hns3 : N ≤ w3.heap.size := (by have := H3.out.size; have := EN.out; omega); have HNS3 := Lib.hid hns3; clear hns3; have c3 := C3.out w3)
          | (go_at_call 55; refine Calls.mono c3 ?_; rintro e w4 ⟨rfl, hb⟩; clear c3; have H4 := Lib.hid (H3.out.trans (hb.mono HNS3.out)); have HO4 := Lib.hid (HO3.out.below hb); clear hb))
        go_roundg (k - (i + 1))
        case measure => have := HI.out; omega
        case rel => exact ⟨i + 1, by have := HI.out; omega, rfl, HO4.out, H4.out⟩
    · obtain rfl : i = k := by have := HI.out; omega
      have t1 : (pl B i == x) = true := by simpa using HX.out
      have c4 := reverse_any _ _ wr N HO.out HNS.out (by have := downW_len B b i; omega)
      go_wp2_with (go_at_call 50; refine Calls.mono c4 ?_; rintro e w3 ⟨rfl, ho3, hb⟩; clear c4; have H3 := Lib.hid (HB.out.trans hb); have HO3 := Lib.hid ho3; clear hb ho3)
      go_ret
      exact ⟨_, rfl, HO3.out, H3.out⟩

set_option maxHeartbeats 1600000 in
set_option maxRecDepth 100000 in
theorem between_no (a b : L) (w : World) (hs : a.length ≤ 1000000000) (hs2 : b.length ≤ 1000000000) (h : kindL a = 0 ∨ kindL b = 0) :
    Calls Try.prog 43 #[.string ⟨a.toArray⟩, .string ⟨b.toArray⟩] w fun e w' => ∃ v, e = .returned v ∧ Own w' w.heap.size v (betweenL a b) ∧ Below w.heap.size w w' := by
  have c1 := is_any a w hs
  have C2 := Lib.hid (fun w1 => is_any b w1 hs2)
  have E := Lib.hid (show betweenL a b = [] by rw [betweenL, if_pos h])
  have HB0 := Lib.hid (show Below w.heap.size w w by exact Below.refl _ _)
  by_cases ha : isL a = true
  · have hb : isL b = false := by
      simp only [isL, decide_eq_true_eq] at ha
      simp only [isL, decide_eq_false_iff_not]
      omega
    rw [ha] at c1
    have HB := Lib.hid hb
    clear ha hb h hs hs2
    go_enter Try.func43, Try.ntmps43
    go_wp2_with (first
      | (go_at_call 46; refine Calls.mono c1 ?_; rintro e w1 ⟨rfl, hd⟩; clear c1; have H1 := Lib.hid hd.below; clear hd; have c2 := C2.out w1; rw [HB.out] at c2)
      | (go_at_call 46; refine Calls.mono c2 ?_; rintro e w2 ⟨rfl, hd⟩; clear c2; have H2 := Lib.hid (H1.out.trans (hd.below.mono H1.out.size)); clear hd))
    go_ret
    exact ⟨_, rfl, by rw [E.out]; exact Own.nil _ _, H2.out⟩
  · have ha : isL a = false := by simpa using ha
    rw [ha] at c1
    clear ha h hs hs2
    go_enter Try.func43, Try.ntmps43
    go_wp2_with (go_at_call 46; refine Calls.mono c1 ?_; rintro e w1 ⟨rfl, hd⟩; clear c1; have H1 := Lib.hid hd.below; clear hd)
    go_ret
    exact ⟨_, rfl, by rw [E.out]; exact Own.nil _ _, H1.out⟩

set_option maxHeartbeats 1600000 in
set_option maxRecDepth 100000 in
theorem between_yes (a b : L) (w : World) (hs : a.length ≤ 1000000000) (hs2 : b.length ≤ 1000000000) (ha : kindL a ≠ 0) (hb : kindL b ≠ 0) :
    Calls Try.prog 43 #[.string ⟨a.toArray⟩, .string ⟨b.toArray⟩] w fun e w' => ∃ v, e = .returned v ∧ Own w' w.heap.size v (betweenL a b) ∧ Below w.heap.size w w' := by
  have c1 := is_any a w hs
  have c2 := fun w1 => is_any b w1 hs2
  rw [show isL a = true by simp [isL]; omega] at c1
  rw [show isL b = true by simp [isL]; omega] at c2
  have C2 := Lib.hid c2; clear c2
  have na := ne_of_kind ha
  have nb := ne_of_kind hb
  have e1 := between_loops ha hb
  have la := ch_len a
  have lb := ch_len b
  have hix := ix_le (ch a) (ch b)
  have c3 := fun (i : Nat) w1 => up_any (pl (ch a) i) w1 (Nat.le_trans (pl_len_le i) hs)
  have c4 := fun (i : Nat) w1 => under_any b (pl (ch a) i) w1 hs2
  have hup : ∀ i, i < (ch a).length → upL (pl (ch a) i) = pl (ch a) (i + 1) := fun i h => up_at _ h
  have hne : ∀ i, i < (ch a).length → pl (ch a) i ≠ [] := fun i h => at_ne _ h
  have hout : ∀ i, i < ix (ch a) (ch b) → pl (ch a) i ≠ b ∧ underL b (pl (ch a) i) = false := by
    intro i hi
    have h1 := ix_not hi
    rw [mem_ch_iff nb, not_or] at h1
    exact ⟨h1.1, by simpa using h1.2⟩
  have hin : ix (ch a) (ch b) < (ch a).length → pl (ch a) (ix (ch a) (ch b)) ≠ b → underL b (pl (ch a) (ix (ch a) (ch b))) = true := by
    intro g q
    have h1 := ix_in g
    rw [mem_ch_iff nb] at h1
    exact h1.resolve_left q
  have c5 := fun w1 => down_any (pl (ch a) (ix (ch a) (ch b))) b (ix (ch b) (ch a)) w1 hs2 (ix_le _ _) (by
    rcases Nat.lt_or_ge (ix (ch a) (ch b)) (ch a).length with g | g
    · exact (ix_meet g).2
    · have e : ix (ch a) (ch b) = (ch a).length := by omega
      rw [ix_part e, pl_ge (by omega), pl_ge (by omega)]) (fun i hi q => by
    rcases Nat.lt_or_ge (ix (ch a) (ch b)) (ch a).length with g | g
    · exact ix_not hi (by rw [q]; exact pl_mem g)
    · rw [pl_ge g] at q
      exact at_ne b (Nat.lt_of_lt_of_le hi (ix_le _ _)) q)
  have h0 : pl (ch a) 0 = a := ch_zero na
  have hdl := downW_len (ch b) b (ix (ch b) (ch a))
  have hib := ix_le (ch b) (ch a)
  obtain ⟨W2, eW⟩ : ∃ W2, W2 = (downW (ch b) b (ix (ch b) (ch a))).reverse := ⟨_, rfl⟩
  rw [← eW] at e1 c5
  have hwl : W2.length ≤ 4 := by rw [eW, List.length_reverse]; omega
  clear eW hdl hib lb
  obtain ⟨M, eM⟩ : ∃ M, M = ix (ch a) (ch b) := ⟨_, rfl⟩
  rw [← eM] at e1 hix hout hin c5
  clear eM
  obtain ⟨A, eA⟩ : ∃ A, A = ch a := ⟨_, rfl⟩
  rw [← eA] at e1 hix hout hin c5 h0 hne hup c3 c4 la
  clear eA ha hb hs hs2 na nb
  obtain ⟨N, eN⟩ : ∃ N, N = w.heap.size := ⟨_, rfl⟩
  rw [← eN]
  have HB0 := Lib.hid (show Below N w w by exact Below.refl _ _)
  have EN := Lib.hid eN; clear eN
  have E1 := Lib.hid e1; clear e1
  have C3 := Lib.hid c3; clear c3
  have C4 := Lib.hid c4; clear c4
  have C5 := Lib.hid c5; clear c5
  have HUP := Lib.hid hup; clear hup
  have HNE := Lib.hid hne; clear hne
  have HOUT := Lib.hid hout; clear hout
  have HIN := Lib.hid hin; clear hin
  have H0 := Lib.hid h0; clear h0
  have HNE0 := Lib.hid (show ∀ w1 : World, Below N w w1 → N ≤ w1.heap.size from fun w1 h => by have := h.size; have := EN.out; omega)
  go_enter Try.func43, Try.ntmps43
  go_wp2_with (first
    | (go_at_call 46; refine Calls.mono c1 ?_; rintro e w1 ⟨rfl, hd⟩; clear c1; have H1 := Lib.hid (hd.below.mono (Nat.le_of_eq EN.out)); clear hd; have c2 := C2.out w1)
    | (go_at_call 46; refine Calls.mono c2 ?_; rintro e w2 ⟨rfl, hd⟩; clear c2; have H2 := Lib.hid (H1.out.trans (hd.below.mono (HNE0.out _ H1.out))); clear hd))
  go_loopg [5, 6] M (fun g vv rv wr => ∃ i : Nat, i + g = M ∧ rv = .string ⟨(pl A i).toArray⟩ ∧ Own wr N vv (upW A b i) ∧ Below N w wr)
  case atStart => exact ⟨0, Nat.zero_add _, by rw [H0.out], Own.nil _ _, H2.out⟩
  case round =>
    obtain ⟨i, hi, rfl, ho, hb⟩ := hrel
    have HO := Lib.hid ho; clear ho
    have HB := Lib.hid hb; clear hb
    have HI := Lib.hid hi; clear hi
    have HNS := Lib.hid (HNE0.out _ HB.out)
    by_cases hlt : i < M
    · have t1 : (pl A i == []) = false := by simpa using HNE.out i (by omega)
      have t2 : (pl A i == b) = false := by simpa using (HOUT.out i hlt).1
      have c4 := C4.out i wr
      rw [(HOUT.out i hlt).2] at c4
      have c3 := fun w1 => C3.out i w1
      rw [HUP.out i (by omega)] at c3
      have C3' := Lib.hid c3; clear c3
      by_cases hx : pl A (i + 1) = [] ∨ pl A (i + 1) = b
      · have E := Lib.hid (show upW A b (i + 1) = upW A b i by rw [upW, if_pos hx, List.append_nil])
        by_cases hy : pl A (i + 1) = []
        · have HY := Lib.hid hy
          rw [hy] at C3'
          clear hx hy
          go_wp2_with (first
            | (go_at_call 54; refine Calls.mono c4 ?_; rintro e w3 ⟨rfl, hb⟩; clear c4; have H3 := Lib.hid (HB.out.trans (hb.mono HNS.out)); have HO3 := Lib.hid (HO.out.below hb); clear hb; have c3 := C3'.out w3)
            | (go_at_call 55; refine Calls.mono c3 ?_; rintro e w4 ⟨rfl, hb⟩; clear c3; have H4 := Lib.hid (H3.out.trans (hb.mono (HNE0.out _ H3.out))); have HO4 := Lib.hid (HO3.out.below hb); clear hb))
          go_roundg (M - (i + 1))
          case measure => have := HI.out; omega
          case rel => exact ⟨i + 1, by have := HI.out; omega, by rw [HY.out], by rw [E.out]; exact HO4.out, H4.out⟩
        · have t3 : (pl A (i + 1) == []) = false := by simpa using hy
          have t4 : (pl A (i + 1) == b) = true := by simpa using hx.resolve_left hy
          clear hx hy
          go_wp2_with (first
            | (go_at_call 54; refine Calls.mono c4 ?_; rintro e w3 ⟨rfl, hb⟩; clear c4; have H3 := Lib.hid (HB.out.trans (hb.mono HNS.out)); have HO3 := Lib.hid (HO.out.below hb); clear hb; have c3 := C3'.out w3)
            | (go_at_call 55; refine Calls.mono c3 ?_; rintro e w4 ⟨rfl, hb⟩; clear c3; have H4 := Lib.hid (H3.out.trans (hb.mono (HNE0.out _ H3.out))); have HO4 := Lib.hid (HO3.out.below hb); clear hb))
          go_roundg (M - (i + 1))
          case measure => have := HI.out; omega
          case rel => exact ⟨i + 1, by have := HI.out; omega, rfl, by rw [E.out]; exact HO4.out, H4.out⟩
      · have E := Lib.hid (show upW A b (i + 1) = upW A b i ++ [pl A (i + 1)] by rw [upW, if_neg hx])
        rw [not_or] at hx
        have t3 : (pl A (i + 1) == []) = false := by simpa using hx.1
        have t4 : (pl A (i + 1) == b) = false := by simpa using hx.2
        clear hx
        go_wp2_with (first
          | (go_at_call 54; refine Calls.mono c4 ?_; rintro e w3 ⟨rfl, hb⟩; clear c4; have H3 := Lib.hid (HB.out.trans (hb.mono HNS.out)); have HO3 := Lib.hid (HO.out.below hb); clear hb; have c3 := C3'.out w3)
          | (go_at_call 55; refine Calls.mono c3 ?_; rintro e w4 ⟨rfl, hb⟩; clear c3; have H4 := Lib.hid (H3.out.trans (hb.mono (HNE0.out _ H3.out))); have HO4 := Lib.hid (HO3.out.below hb); clear hb)
          | (at_builtin; refine app_one rfl (.tmp 38) (.tmp 40) rfl N _ _ rfl HO4.out (pl A (i + 1)) rfl (by have := upW_len A b i; omega) (HNE0.out _ H4.out) ?_; intro v' w5 ho5 hb5; have H5 := Lib.hid (H4.out.trans hb5); rw [← E.out] at ho5; have HO5 := Lib.hid ho5; clear ho5 hb5))
        go_roundg (M - (i + 1))
        case measure => have := HI.out; omega
        case rel => exact ⟨i + 1, by have := HI.out; omega, rfl, HO5.out, H5.out⟩
    · obtain rfl : i = M := by have := HI.out; omega
      have c5 := C5.out
      have C5' := Lib.hid c5; clear c5
      by_cases hl : i < A.length
      · have t1 : (pl A i == []) = false := by simpa using HNE.out i hl
        by_cases hx : pl A i = b
        · have t2 : (pl A i == b) = true := by simpa using hx
          have c5 := C5'.out wr
          clear hx
          go_wp2_with (first
            | (go_at_call 56; refine Calls.mono c5 ?_; rintro e w6 ⟨v6, rfl, ho6, hb6⟩; clear c5; obtain ⟨A6, c6, rfl, hr6⟩ := ho6.slice; have H6 := Lib.hid (HB.out.trans (hb6.mono HNS.out)); have HO6 := Lib.hid (HO.out.below hb6); have HR6 := Lib.hid hr6; clear hb6 ho6 hr6)
            | (at_builtin; refine app_rd rfl (.tmp 42) (.tmp 45) rfl N _ _ rfl HO6.out _ _ _ W2 rfl HR6.out (by have := upW_len A b i; omega) (HNE0.out _ H6.out) ?_; intro v' w7 ho7 hb7; rw [E1.out] at ho7; have H7 := Lib.hid (H6.out.trans hb7); have HO7 := Lib.hid ho7; clear ho7 hb7))
          go_ret
          exact ⟨_, rfl, HO7.out, H7.out⟩
        · have t2 : (pl A i == b) = false := by simpa using hx
          have c4 := C4.out i wr
          rw [HIN.out hl hx] at c4
          clear hx
          go_wp2_with (first
            | (go_at_call 54; refine Calls.mono c4 ?_; rintro e w3 ⟨rfl, hb⟩; clear c4; have H3 := Lib.hid (HB.out.trans (hb.mono HNS.out)); have HO3 := Lib.hid (HO.out.below hb); clear hb; have c5 := C5'.out w3)
            | (go_at_call 56; refine Calls.mono c5 ?_; rintro e w6 ⟨v6, rfl, ho6, hb6⟩; clear c5; obtain ⟨A6, c6, rfl, hr6⟩ := ho6.slice; have H6 := Lib.hid (H3.out.trans (hb6.mono (HNE0.out _ H3.out))); have HO6 := Lib.hid (HO3.out.below hb6); have HR6 := Lib.hid hr6; clear hb6 ho6 hr6)
            | (at_builtin; refine app_rd rfl (.tmp 42) (.tmp 45) rfl N _ _ rfl HO6.out _ _ _ W2 rfl HR6.out (by have := upW_len A b i; omega) (HNE0.out _ H6.out) ?_; intro v' w7 ho7 hb7; rw [E1.out] at ho7; have H7 := Lib.hid (H6.out.trans hb7); have HO7 := Lib.hid ho7; clear ho7 hb7))
          go_ret
          exact ⟨_, rfl, HO7.out, H7.out⟩
      · have hz : pl A i = [] := pl_ge (by omega)
        rw [hz] at C5' ⊢
        have c5 := C5'.out wr
        clear hz
        go_wp2_with (first
          | (go_at_call 56; refine Calls.mono c5 ?_; rintro e w6 ⟨v6, rfl, ho6, hb6⟩; clear c5; obtain ⟨A6, c6, rfl, hr6⟩ := ho6.slice; have H6 := Lib.hid (HB.out.trans (hb6.mono HNS.out)); have HO6 := Lib.hid (HO.out.below hb6); have HR6 := Lib.hid hr6; clear hb6 ho6 hr6)
          | (at_builtin; refine app_rd rfl (.tmp 42) (.tmp 45) rfl N _ _ rfl HO6.out _ _ _ W2 rfl HR6.out (by have := upW_len A b i; omega) (HNE0.out _ H6.out) ?_; intro v' w7 ho7 hb7; rw [E1.out] at ho7; have H7 := Lib.hid (H6.out.trans hb7); have HO7 := Lib.hid ho7; clear ho7 hb7))
        go_ret
        exact ⟨_, rfl, HO7.out, H7.out⟩
theorem between_any (a b : L) (w : World) (hs : a.length ≤ 1000000000) (hs2 : b.length ≤ 1000000000) :
    Calls Try.prog 43 #[.string ⟨a.toArray⟩, .string ⟨b.toArray⟩] w fun e w' => ∃ v, e = .returned v ∧ Own w' w.heap.size v (betweenL a b) ∧ Below w.heap.size w w' := by
  by_cases h : kindL a = 0 ∨ kindL b = 0
  · exact between_no a b w hs hs2 h
  · rw [not_or] at h
    exact between_yes a b w hs hs2 h.1 h.2
end Go.Proofs.Ytnalnhplcchdoaa.Nm
