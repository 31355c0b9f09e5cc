/-
  The document's own of chapter 5: Under, Between, Target, IsPrinc.
-/
import Derived.Test.YtnalnhplcchdoaaNmRefK
import Derived.Test.YtnalnhplcchdoaaNmBet
import Derived.Deep.LoopGhost
set_option linter.unusedVariables false
namespace Go.Proofs.Ytnalnhplcchdoaa.Nm
open Go.RowKit Go.Proofs.Ytnalnhplcchdoaa.Mem

theorem under_isl {a b : L} (h : underL a b = true) : isL a = true ∧ isL b = true := by
  have h1 := under_real h
  have h2 := under_kind h
  simp only [isL, decide_eq_true_eq]
  omega
set_option maxHeartbeats 800000 in
theorem runder_yes (a b : L) (w : World) (hs : a.length ≤ 1000000000) (hs2 : b.length ≤ 1000000000) (ka : isL a = true) (kb : isL b = true) : Calls Try.prog 45 #[.string ⟨a.toArray⟩, .string ⟨b.toArray⟩] w fun e w' => e = .returned (.bool (underL a b)) ∧ Below w.heap.size w w' := by
  have c1 := rup_any a w hs
  have c2 := fun (i : Nat) w1 => rup_any (pl (ch (upL a)) i) w1 (by
    rcases Nat.lt_or_ge i (ch (upL a)).length with g | g
    · have h1 := mem_len (pl_mem g); have := up_len a; omega
    · rw [pl_ge g]; simp)
  obtain ⟨A, eA⟩ : ∃ A, A = ch (upL a) := ⟨_, rfl⟩
  have h0 : upL a = pl A 0 := by
    rw [eA]
    by_cases h : upL a = []
    · rw [h, ch_nil]; rfl
    · exact (ch_zero h).symm
  have hup : ∀ i, i < A.length → upL (pl A i) = pl A (i + 1) := by rw [eA]; exact fun i h => up_at _ h
  have hne : ∀ i, i < A.length → pl A i ≠ [] := by rw [eA]; exact fun i h => at_ne _ h
  have hu : underL a b = decide (b ∈ A) := by rw [eA]; rfl
  rw [← eA] at c2
  have c5 := ris_any a w hs
  rw [ka] at c5
  have C6 := Lib.hid (fun w1 => ris_any b w1 hs2)
  have KB := Lib.hid kb
  have C1 := Lib.hid (fun w1 => rup_any a w1 hs)
  clear eA hs hs2 ka kb c1
  have C2 := Lib.hid c2; clear c2
  have HUP := Lib.hid hup; clear hup
  have HNE := Lib.hid hne; clear hne
  have HU := Lib.hid hu; clear hu
  have H00 := Lib.hid h0; clear h0
  have HB0 := Lib.hid (Below.refl w.heap.size w)
  go_enter Try.func45, Try.ntmps45
  go_wp2_with (first
    | (go_at_call 29; refine Calls.mono c5 ?_; rintro e w5 ⟨rfl, hb⟩; clear c5; have H5 := Lib.hid hb; clear hb; have c6 := C6.out w5; rw [KB.out] at c6)
    | (go_at_call 29; refine Calls.mono c6 ?_; rintro e w6 ⟨rfl, hb⟩; clear c6; have H6 := Lib.hid (H5.out.trans (hb.mono H5.out.size)); clear hb; have c1 := C1.out w6; rw [H00.out] at c1)
    | (go_at_call 30; refine Calls.mono c1 ?_; rintro e w1 ⟨rfl, hb⟩; clear c1; have H1 := Lib.hid (H6.out.trans (hb.mono H6.out.size)); clear hb))
  go_loopg [5] A.length (fun g sv wr => ∃ i : Nat, i + g = A.length ∧ sv = .string ⟨(pl A i).toArray⟩ ∧ (∀ k, k < i → pl A k ≠ b) ∧ Below w.heap.size w wr)
  case atStart => exact ⟨0, Nat.zero_add _, rfl, fun k h => absurd h (Nat.not_lt_zero k), H1.out⟩
  case round =>
    obtain ⟨i, hi, rfl, hn, hb⟩ := hrel
    have HN := Lib.hid hn; clear hn
    have HB := Lib.hid hb; clear hb
    by_cases hlt : i < A.length
    · have t1 : (pl A i == []) = false := by simpa using HNE.out i hlt
      have c3 := C2.out i wr
      rw [HUP.out i hlt] at c3
      by_cases hx : pl A i = b
      · have t2 : (pl A i == b) = true := by simpa using hx
        have E := Lib.hid (show underL a b = true by rw [HU.out, ← hx]; simpa using pl_mem hlt)
        clear hx c3
        have HI := Lib.hid hi; clear hi
        go_wp2_with fail
        go_ret
        exact ⟨by rw [E.out]; rfl, HB.out⟩
      · have t2 : (pl A i == b) = false := by simpa using hx
        have HX := Lib.hid hx; clear hx
        have HI := Lib.hid hi; clear hi
        go_wp2_with (go_at_call 30; refine Calls.mono c3 ?_; rintro e w3 ⟨rfl, hb⟩; clear c3; have H3 := Lib.hid (HB.out.trans (hb.mono HB.out.size)); clear hb)
        go_roundg (A.length - (i + 1))
        case measure => have := HI.out; omega
        case rel => exact ⟨i + 1, by have := HI.out; omega, rfl, fun k hk => by
          by_cases q : k = i
          · rw [q]; exact HX.out
          · exact HN.out k (by omega), H3.out⟩
    · have E := Lib.hid (show underL a b = false by
        rw [HU.out, decide_eq_false_iff_not]
        intro hm
        obtain ⟨k, hk, e⟩ := mem_pl hm
        exact HN.out k (by omega) e)
      have t1 : pl A i = [] := pl_ge (by omega)
      rw [t1]
      clear t1 hi hlt
      go_wp2_with fail
      go_ret
      exact ⟨by rw [E.out]; rfl, HB.out⟩

set_option maxHeartbeats 800000 in
theorem runder_any (a b : L) (w : World) (hs : a.length ≤ 1000000000) (hs2 : b.length ≤ 1000000000) : Calls Try.prog 45 #[.string ⟨a.toArray⟩, .string ⟨b.toArray⟩] w fun e w' => e = .returned (.bool (underL a b)) ∧ Below w.heap.size w w' := by
  cases ka : isL a with
  | false =>
    have E := Lib.hid (show underL a b = false by
      cases q : underL a b with
      | false => rfl
      | true => rw [(under_isl q).1] at ka; cases ka)
    have c5 := ris_any a w hs
    rw [ka] at c5
    clear ka hs hs2
    go_enter Try.func45, Try.ntmps45
    go_wp2_with (go_at_call 29; refine Calls.mono c5 ?_; rintro e w5 ⟨rfl, hb⟩; clear c5; have H5 := Lib.hid hb; clear hb)
    go_ret
    exact ⟨by rw [E.out]; rfl, H5.out⟩
  | true =>
    cases kb : isL b with
    | false =>
      have E := Lib.hid (show underL a b = false by
        cases q : underL a b with
        | false => rfl
        | true => rw [(under_isl q).2] at kb; cases kb)
      have c5 := ris_any a w hs
      rw [ka] at c5
      have C6 := Lib.hid (fun w1 => ris_any b w1 hs2)
      have KB := Lib.hid kb
      clear ka kb hs hs2
      go_enter Try.func45, Try.ntmps45
      go_wp2_with (first
        | (go_at_call 29; refine Calls.mono c5 ?_; rintro e w5 ⟨rfl, hb⟩; clear c5; have H5 := Lib.hid hb; clear hb; have c6 := C6.out w5; rw [KB.out] at c6)
        | (go_at_call 29; refine Calls.mono c6 ?_; rintro e w6 ⟨rfl, hb⟩; clear c6; have H6 := Lib.hid (H5.out.trans (hb.mono H5.out.size)); clear hb))
      go_ret
      exact ⟨by rw [E.out]; rfl, H6.out⟩
    | true => exact runder_yes a b w hs hs2 ka kb

theorem between_self (a : L) : betweenL a a = [] := by
  by_cases h : kindL a = 0
  · rw [betweenL, if_pos (.inl h)]
  · have e : ix (ch a) (ch a) = 0 := ix_eq (ch_pos (ne_of_kind h)) (pl_mem (ch_pos (ne_of_kind h))) (by omega)
    rw [← between_loops h h, e]; rfl
theorem own_lit (w : World) (base : Nat) (r : L) (hb : base ≤ w.heap.size) : Own (w.alloc (.cells #[.string ⟨r.toArray⟩] 9)) base (.slice (some ⟨w.heap.size, 0, none⟩) 1 1) [r] :=
  World.ownsRow_lit w _ 1 hb (by decide) rfl
/-- one text and behind it a row -/
theorem app_front {w : World} {ops : Array Oper} {rest : List Oper} {o : Oper} {a : Act} {Q : Exit → Act → World → Prop} (hgd : o.guard = none) (s x : Operand) (ho : o.op = .call { callee := .builtin .append, args := #[s, x], argTypes := #[22, 22] })
    (r : L) (hs : a.eval s = .slice (some ⟨w.heap.size, 0, none⟩) 1 1) (A : Option Addr) (c : Nat) (ms : List L) (hx : a.eval x = .slice A ms.length c) (hr : Rd w w.heap.size A (strs ms))
    (hl : 1 + ms.length ≤ 8000000000000)
    (h : ∀ v' w', Own w' w.heap.size v' (r :: ms) → Below w.heap.size w w' → wpList Try.prog ops Q rest (a.put o.dst v') w') : wpList Try.prog ops Q (o :: rest) a (w.alloc (.cells #[.string ⟨r.toArray⟩] 9)) := by
  refine app_rd hgd s x ho w.heap.size _ [r] hs (own_lit w w.heap.size r (Nat.le_refl _)) w.heap.size A c ms hx (hr.below ((Below.refl _ _).alloc (Nat.le_refl _) _)) hl (by simp) ?_
  intro v' w' h1 h2
  exact h v' w' h1 (((Below.refl _ _).alloc (Nat.le_refl _) _).trans h2)
/-- where the document's way up ends -/
def topIx (A : List L) (M : Nat) : Nat := if M < A.length then M else A.length - 1

set_option maxHeartbeats 1600000 in
set_option maxRecDepth 100000 in
theorem rbetween_no (a b : L) (w : World) (hs : a.length ≤ 1000000000) (hs2 : b.length ≤ 1000000000) (h : isL a = false ∨ isL b = false ∨ a = b) :
    Calls Try.prog 31 #[.string ⟨a.toArray⟩, .string ⟨b.toArray⟩] w fun e w' => ∃ v, e = .returned v ∧ Own w' w.heap.size v (betweenL a b) ∧ Below w.heap.size w w' := by
  have c1 := ris_any a w hs
  have C2 := Lib.hid (fun w1 => ris_any b w1 hs2)
  have E := Lib.hid (show betweenL a b = [] by
    rcases h with h | h | h
    · rw [betweenL, if_pos (.inl (by simp [isL] at h; exact h))]
    · rw [betweenL, if_pos (.inr (by simp [isL] at h; exact h))]
    · rw [h]; exact between_self b)
  cases ha : isL a with
  | false =>
    rw [ha] at c1
    clear ha h hs hs2
    go_enter Try.func31, Try.ntmps31
    go_wp2_with (go_at_call 29; refine Calls.mono c1 ?_; rintro e w1 ⟨rfl, hb⟩; clear c1; have H1 := Lib.hid hb; clear hb)
    go_ret
    exact ⟨_, rfl, by rw [E.out]; exact Own.nil _ _, H1.out⟩
  | true =>
    rw [ha] at c1
    cases hb : isL b with
    | false =>
      have HB := Lib.hid hb
      clear ha hb h hs hs2
      go_enter Try.func31, Try.ntmps31
      go_wp2_with (first
        | (go_at_call 29; refine Calls.mono c1 ?_; rintro e w1 ⟨rfl, hb⟩; clear c1; have H1 := Lib.hid hb; clear hb; have c2 := C2.out w1; rw [HB.out] at c2)
        | (go_at_call 29; refine Calls.mono c2 ?_; rintro e w2 ⟨rfl, hb⟩; clear c2; have H2 := Lib.hid (H1.out.trans (hb.mono H1.out.size)); clear hb))
      go_ret
      exact ⟨_, rfl, by rw [E.out]; exact Own.nil _ _, H2.out⟩
    | true =>
      have t1 : (a == b) = true := by
        have : a = b := by
          rcases h with h | h | h
          · rw [ha] at h; cases h
          · rw [hb] at h; cases h
          · exact h
        simpa using this
      have HB := Lib.hid hb
      clear ha hb h hs hs2
      go_enter Try.func31, Try.ntmps31
      go_wp2_with (first
        | (go_at_call 29; refine Calls.mono c1 ?_; rintro e w1 ⟨rfl, hb⟩; clear c1; have H1 := Lib.hid hb; clear hb; have c2 := C2.out w1; rw [HB.out] at c2)
        | (go_at_call 29; refine Calls.mono c2 ?_; rintro e w2 ⟨rfl, hb⟩; clear c2; have H2 := Lib.hid (H1.out.trans (hb.mono H1.out.size)); clear hb))
      go_ret
      exact ⟨_, rfl, by rw [E.out]; exact Own.nil _ _, H2.out⟩

set_option maxHeartbeats 3200000 in
set_option maxRecDepth 100000 in
theorem rbetween_yes (a b : L) (w : World) (hs : a.length ≤ 1000000000) (hs2 : b.length ≤ 1000000000) (ha : kindL a ≠ 0) (hb : kindL b ≠ 0) (hab : a ≠ b) :
    Calls Try.prog 31 #[.string ⟨a.toArray⟩, .string ⟨b.toArray⟩] w fun e w' => ∃ v, e = .returned v ∧ Own w' w.heap.size v (betweenL a b) ∧ Below w.heap.size w w' := by
  have c1 := ris_any a w hs
  have c2 := fun w1 => ris_any b w1 hs2
  rw [show isL a = true by simp [isL]; omega] at c1
  rw [show isL b = true by simp [isL]; omega] at c2
  have C2 := Lib.hid c2; clear c2
  have t0 : (a == b) = false := by simpa using hab
  have na := ne_of_kind ha
  have nb := ne_of_kind hb
  have e1 := between_loops ha hb
  have la := ch_len a
  have lb := ch_len b
  have pa := ch_pos na
  have pb := ch_pos nb
  have hix := ix_le (ch a) (ch b)
  have hib := ix_le (ch b) (ch a)
  have c3 := fun (i : Nat) w1 => rup_any (pl (ch a) i) w1 (Nat.le_trans (pl_len_le i) hs)
  have c4 := fun (i : Nat) w1 => runder_any b (pl (ch a) i) w1 hs2 (Nat.le_trans (pl_len_le i) hs)
  have c5 := fun (i : Nat) w1 => rup_any (pl (ch b) i) w1 (Nat.le_trans (pl_len_le i) hs2)
  have hup : ∀ i, i < (ch a).length → upL (pl (ch a) i) = pl (ch a) (i + 1) := fun i h => up_at _ h
  have hupb : ∀ i, i < (ch b).length → upL (pl (ch b) i) = pl (ch b) (i + 1) := fun i h => up_at _ h
  have hne : ∀ i, i < (ch a).length → pl (ch a) i ≠ [] := fun i h => at_ne _ h
  have hneb : ∀ i, i < (ch b).length → pl (ch b) i ≠ [] := fun i h => at_ne _ h
  have h0 : pl (ch a) 0 = a := ch_zero na
  have h0b : pl (ch b) 0 = b := ch_zero nb
  have hnb : ∀ i, i < (ch b).length → i ≠ 0 → pl (ch b) i ≠ b := fun i hi hz q => hz (at_inj (a := b) hi pb (by rw [q, h0b]))
  have hout : ∀ i, i < ix (ch a) (ch b) → pl (ch a) i ≠ b ∧ underL b (pl (ch a) i) = false := by
    intro i hi
    have h1 := ix_not hi
    rw [mem_ch_iff nb, not_or] at h1
    exact ⟨h1.1, by simpa using h1.2⟩
  obtain ⟨T, eT⟩ : ∃ T, T = topIx (ch a) (ix (ch a) (ch b)) := ⟨_, rfl⟩
  have hT : T < (ch a).length ∧ T ≤ ix (ch a) (ch b) := by
    rw [eT, topIx]; split <;> omega
  -- at the end of the way up
  have hend : pl (ch a) T = b ∨ underL b (pl (ch a) T) = true ∨ (pl (ch a) T ≠ b ∧ underL b (pl (ch a) T) = false ∧ pl (ch a) (T + 1) = []) := by
    rcases Nat.lt_or_ge (ix (ch a) (ch b)) (ch a).length with g | g
    · have e : T = ix (ch a) (ch b) := by rw [eT, topIx, if_pos g]
      have h1 := ix_in g
      rw [← e, mem_ch_iff nb] at h1
      rcases h1 with h1 | h1
      · exact .inl h1
      · exact .inr (.inl h1)
    · have e : T = (ch a).length - 1 := by rw [eT, topIx, if_neg (by omega)]
      have h1 := hout T (by omega)
      exact .inr (.inr ⟨h1.1, h1.2, pl_ge (by omega)⟩)
  have hTu : upW (ch a) b T = upW (ch a) b (ix (ch a) (ch b)) := by
    rcases Nat.lt_or_ge (ix (ch a) (ch b)) (ch a).length with g | g
    · rw [eT, topIx, if_pos g]
    · have e : ix (ch a) (ch b) = T + 1 := by rw [eT, topIx, if_neg (by omega)]; omega
      rw [e, upW, if_pos (.inl (pl_ge (by omega))), List.append_nil]
  rw [← hTu] at e1
  -- the way down
  have hJ : (pl (ch a) T = b ∧ ix (ch b) (ch a) = 0) ∨ (pl (ch a) T ≠ b ∧ 1 ≤ ix (ch b) (ch a) ∧ (∀ j, j < ix (ch b) (ch a) → pl (ch b) j ≠ pl (ch a) T) ∧ (pl (ch b) (ix (ch b) (ch a)) = [] ∨ (pl (ch b) (ix (ch b) (ch a)) ≠ [] ∧ pl (ch b) (ix (ch b) (ch a)) = pl (ch a) T))) := by
    have hnot : ∀ j, j < ix (ch b) (ch a) → pl (ch b) j ≠ pl (ch a) T := fun j hj q => ix_not hj (by rw [q]; exact pl_mem hT.1)
    rcases Nat.lt_or_ge (ix (ch a) (ch b)) (ch a).length with g | g
    · have e : T = ix (ch a) (ch b) := by rw [eT, topIx, if_pos g]
      obtain ⟨m1, m2⟩ := ix_meet g
      rw [← e] at m2
      by_cases q : pl (ch a) T = b
      · refine .inl ⟨q, ?_⟩
        rcases Nat.eq_zero_or_pos (ix (ch b) (ch a)) with z | z
        · exact z
        · exact absurd (by rw [h0b, q]) (hnot 0 z)
      · refine .inr ⟨q, ?_, hnot, .inr ⟨hneb _ m1, m2⟩⟩
        rcases Nat.eq_zero_or_pos (ix (ch b) (ch a)) with z | z
        · rw [z, h0b] at m2; exact absurd m2.symm q
        · exact z
    · have e : ix (ch a) (ch b) = (ch a).length := by omega
      have e2 := ix_part e
      exact .inr ⟨(hout T (by omega)).1, by omega, hnot, .inl (pl_ge (by omega))⟩
  obtain ⟨M, eM⟩ : ∃ M, M = ix (ch a) (ch b) := ⟨_, rfl⟩
  rw [← eM] at hix hout hT
  obtain ⟨J, eJ⟩ : ∃ J, J = ix (ch b) (ch a) := ⟨_, rfl⟩
  rw [← eJ] at e1 hib hJ
  clear eM eJ eT hTu
  obtain ⟨A, eA⟩ : ∃ A, A = ch a := ⟨_, rfl⟩
  rw [← eA] at e1 hix hout hT h0 hne hup c3 c4 la pa hend hJ
  obtain ⟨B, eB⟩ : ∃ B, B = ch b := ⟨_, rfl⟩
  rw [← eB] at e1 hib hneb hupb c5 h0b hnb lb pb hJ
  clear eA eB ha hb hs hs2 na nb hab
  obtain ⟨N, eN⟩ : ∃ N, N = w.heap.size := ⟨_, rfl⟩
  rw [← eN]
  have HB0 := Lib.hid (show Below N w w by exact Below.refl _ _)
  have EN := Lib.hid eN; clear eN
  have E1 := Lib.hid e1; clear e1
  have C3 := Lib.hid c3; clear c3
  have C4 := Lib.hid c4; clear c4
  have C5 := Lib.hid c5; clear c5
  have HUP := Lib.hid hup; clear hup
  have HUPB := Lib.hid hupb; clear hupb
  have HNE := Lib.hid hne; clear hne
  have HNEB := Lib.hid hneb; clear hneb
  have HNB := Lib.hid hnb; clear hnb
  have HOUT := Lib.hid hout; clear hout
  have HEND := Lib.hid hend; clear hend
  have HJ := Lib.hid hJ; clear hJ
  have H0 := Lib.hid h0; clear h0
  have H0B := Lib.hid h0b; clear h0b
  have HNE0 := Lib.hid (show ∀ w1 : World, Below N w w1 → N ≤ w1.heap.size from fun w1 h => by have := h.size; have := EN.out; omega)
  go_enter Try.func31, Try.ntmps31
  go_wp2_with (first
    | (go_at_call 29; refine Calls.mono c1 ?_; rintro e w1 ⟨rfl, hb⟩; clear c1; have H1 := Lib.hid (hb.mono (Nat.le_of_eq EN.out)); clear hb; have c2 := C2.out w1)
    | (go_at_call 29; refine Calls.mono c2 ?_; rintro e w2 ⟨rfl, hb⟩; clear c2; have H2 := Lib.hid (H1.out.trans (hb.mono (HNE0.out _ H1.out))); clear hb))
  go_loopg [5, 6] T (fun g vv rv wr => ∃ i : Nat, i + g = T ∧ rv = .string ⟨(pl A i).toArray⟩ ∧ Own wr N vv (upW A b i) ∧ Below N w wr)
  case atStart => exact ⟨0, Nat.zero_add _, by rw [H0.out], Own.nil _ _, H2.out⟩
  case round =>
    obtain ⟨i, hi, rfl, ho, hb⟩ := hrel
    have HO := Lib.hid ho; clear ho
    have HB := Lib.hid hb; clear hb
    have HI := Lib.hid hi; clear hi
    by_cases hlt : i < T
    · have hiM : i < M := by have := hT.2; omega
      have hil : i + 1 < A.length := by have := hT.1; omega
      have t2 : (pl A i == b) = false := by simpa using (HOUT.out i hiM).1
      have t3 : (pl A (i + 1) == []) = false := by simpa using HNE.out (i + 1) hil
      have c4 := C4.out i wr
      rw [(HOUT.out i hiM).2] at c4
      have c3 := fun w1 => C3.out i w1
      rw [HUP.out i (by omega)] at c3
      have C3' := Lib.hid c3; clear c3
      have hne1 := HNE.out (i + 1) hil
      by_cases hx : pl A (i + 1) = b
      · have E := Lib.hid (show upW A b (i + 1) = upW A b i by rw [upW, if_pos (.inr hx), List.append_nil])
        have t4 : (pl A (i + 1) == b) = true := by simpa using hx
        clear hx hne1
        go_wp2_with (first
          | (go_at_call 45; refine Calls.mono c4 ?_; rintro e w3 ⟨rfl, hb⟩; clear c4; have H3 := Lib.hid (HB.out.trans (hb.mono (HNE0.out _ HB.out))); have HO3 := Lib.hid (HO.out.below hb); clear hb; have c3 := C3'.out w3)
          | (go_at_call 30; refine Calls.mono c3 ?_; rintro e w4 ⟨rfl, hb⟩; clear c3; have H4 := Lib.hid (H3.out.trans (hb.mono (HNE0.out _ H3.out))); have HO4 := Lib.hid (HO3.out.below hb); clear hb; have c6 := C3'.out w4)
          | (go_at_call 30; refine Calls.mono c6 ?_; rintro e w5 ⟨rfl, hb⟩; clear c6; have H5 := Lib.hid (H4.out.trans (hb.mono (HNE0.out _ H4.out))); have HO5 := Lib.hid (HO4.out.below hb); clear hb))
        go_roundg (T - (i + 1))
        case measure => have := HI.out; omega
        case rel => exact ⟨i + 1, by have := HI.out; omega, rfl, by rw [E.out]; exact HO5.out, H5.out⟩
      · have E := Lib.hid (show upW A b (i + 1) = upW A b i ++ [pl A (i + 1)] by rw [upW, if_neg (by rw [not_or]; exact ⟨hne1, hx⟩)])
        have t4 : (pl A (i + 1) == b) = false := by simpa using hx
        clear hx hne1
        go_wp2_with (first
          | (go_at_call 45; refine Calls.mono c4 ?_; rintro e w3 ⟨rfl, hb⟩; clear c4; have H3 := Lib.hid (HB.out.trans (hb.mono (HNE0.out _ HB.out))); have HO3 := Lib.hid (HO.out.below hb); clear hb; have c3 := C3'.out w3)
          | (go_at_call 30; refine Calls.mono c3 ?_; rintro e w4 ⟨rfl, hb⟩; clear c3; have H4 := Lib.hid (H3.out.trans (hb.mono (HNE0.out _ H3.out))); have HO4 := Lib.hid (HO3.out.below hb); clear hb; have c6 := C3'.out w4)
          | (go_at_call 30; refine Calls.mono c6 ?_; rintro e w5 ⟨rfl, hb⟩; clear c6; have H5 := Lib.hid (H4.out.trans (hb.mono (HNE0.out _ H4.out))); have HO5 := Lib.hid (HO4.out.below hb); clear hb)
          | (at_builtin; refine app_one rfl (.tmp 42) (.tmp 44) rfl N _ _ rfl HO5.out (pl A (i + 1)) rfl (by have := upW_len A b i; omega) (HNE0.out _ H5.out) ?_; intro v' w6 ho6 hb6; have H6 := Lib.hid (H5.out.trans hb6); rw [← E.out] at ho6; have HO6 := Lib.hid ho6; clear ho6 hb6))
        go_roundg (T - (i + 1))
        case measure => have := HI.out; omega
        case rel => exact ⟨i + 1, by have := HI.out; omega, rfl, HO6.out, H6.out⟩
    · obtain rfl : i = T := by have := HI.out; omega
      obtain ⟨x, ex⟩ : ∃ x, x = pl A i := ⟨_, rfl⟩
      have c4 := C4.out i
      have c3 := C3.out i
      have hup1 := HUP.out i hT.1
      have HEND' := HEND.out
      have HJ' := HJ.out
      rw [← ex] at c4 c3 hup1 HEND' HJ' ⊢
      rw [hup1] at c3
      have C3' := Lib.hid c3
      have C4' := Lib.hid c4
      have HJ2 := Lib.hid HJ'
      have HE2 := Lib.hid HEND'
      clear c3 c4 hup1 HEND' HJ' ex HEND HJ C3 C4 HOUT
      have c5 := fun w1 => C5.out 0 w1
      rw [HUPB.out 0 (by omega), H0B.out] at c5
      have C50 := Lib.hid c5; clear c5
      rcases HE2.out with q | q | q
      · have t2 : (x == b) = true := by simpa using q
        have hJ0 : J = 0 := by
          rcases HJ2.out with g | g
          · exact g.2
          · exact absurd q g.1
        have e1 := E1.out
        rw [hJ0] at e1
        have E1' := Lib.hid (show upW A b i ++ [] = betweenL a b from e1)
        have c5 := C50.out wr
        clear q hJ0 e1
        go_wp2_with (go_at_call 30; refine Calls.mono c5 ?_; rintro e w5 ⟨rfl, hb⟩; clear c5; have H5 := Lib.hid (HB.out.trans (hb.mono (HNE0.out _ HB.out))); have HO5 := Lib.hid (HO.out.below hb); clear hb)
        go_loopg [7, 8] 0 (fun _ dv rv wr => dv = .slice none 0 0 ∧ rv = .string ⟨(pl B 1).toArray⟩ ∧ wr = w5)
        case atStart => exact ⟨rfl, rfl, rfl⟩
        case round =>
          obtain ⟨rfl, rfl, rfl⟩ := hrel
          go_wp2_with (at_builtin; refine app_rd rfl (.tmp 66) (.tmp 67) rfl N _ _ rfl HO5.out wr.heap.size none 0 [] rfl (.inl rfl) (by have := upW_len A b i; simp; omega) (HNE0.out _ H5.out) ?_; intro v' w7 ho7 hb7; rw [E1'.out] at ho7; have H7 := Lib.hid (H5.out.trans hb7); have HO7 := Lib.hid ho7; clear ho7 hb7)
          go_ret
          exact ⟨_, rfl, HO7.out, H7.out⟩
      all_goals (
        have hxb : x ≠ b := by
          first
            | exact q.1
            | (intro e; rw [e, under_self] at q; cases q)
        have t2 : (x == b) = false := by simpa using hxb
        have hj : 1 ≤ J ∧ (∀ j, j < J → pl B j ≠ x) ∧ (pl B J = [] ∨ (pl B J ≠ [] ∧ pl B J = x)) := by
          rcases HJ2.out with g | g
          · exact absurd g.1 hxb
          · exact g.2
        have HJ3 := Lib.hid hj
        have hj1 := hj.1
        clear hj hxb
        have c4 := C4'.out wr
        have HQ := Lib.hid q
        first
          | rw [q] at c4
          | (rw [q.2.1] at c4; rw [q.2.2] at C3')
        clear q
        go_wp2_with (first
          | (go_at_call 45; refine Calls.mono c4 ?_; rintro e w3 ⟨rfl, hb⟩; clear c4; have H3 := Lib.hid (HB.out.trans (hb.mono (HNE0.out _ HB.out))); have HO3 := Lib.hid (HO.out.below hb); clear hb; have c5 := C50.out w3; have c3 := C3'.out w3)
          | (go_at_call 30; with_reducible refine Calls.mono c3 ?_; rintro e w4 ⟨rfl, hb⟩; clear c3 c5; have H3' := H3; have HO3' := HO3; clear H3 HO3; have H3 := Lib.hid (H3'.out.trans (hb.mono (HNE0.out _ H3'.out))); have HO3 := Lib.hid (HO3'.out.below hb); clear hb H3' HO3'; have c5 := C50.out w4)
          | (go_at_call 30; refine Calls.mono c5 ?_; rintro e w5 ⟨rfl, hb⟩; clear c5; have H5 := Lib.hid (H3.out.trans (hb.mono (HNE0.out _ H3.out))); have HO5 := Lib.hid (HO3.out.below hb); clear hb))
        have hg := HO5.out.slice
        go_loopg [7, 8] (J - 1) (fun g dv rv wr => ∃ (j : Nat) (dA : Option Addr) (dc : Nat), 1 ≤ j ∧ j + g = J ∧ rv = .string ⟨(pl B j).toArray⟩ ∧ dv = .slice dA (downW B b j).reverse.length dc ∧ Rd wr wr.heap.size dA (strs (downW B b j).reverse) ∧ Own wr N _ (upW A b i) ∧ Below N w wr)
        case atStart =>
          have e0 : downW B b 1 = [] := by rw [downW, downW, if_pos H0B.out]; rfl
          exact ⟨1, none, 0, Nat.le_refl _, by omega, rfl, by rw [e0]; rfl, by rw [e0]; exact .inl rfl, HO5.out, H5.out⟩
        case round =>
          obtain ⟨j, dA, dc, hj1, hj, rfl, rfl, hd, ho, hb⟩ := hrel
          have HD := Lib.hid hd; clear hd
          have HOL := Lib.hid ho; clear ho
          have HBL := Lib.hid hb; clear hb
          have HI2 := Lib.hid hj; clear hj
          have hdl := downW_len B b j
          by_cases hlt : j < J
          · have t3 : (pl B j == []) = false := by simpa using HNEB.out j (by omega)
            have t4 : (pl B j == x) = false := by simpa using HJ3.out.2.1 j hlt
            have E := Lib.hid (show (downW B b (j + 1)).reverse = pl B j :: (downW B b j).reverse by
              rw [downW, if_neg (HNB.out j (by omega) (by omega))]; simp)
            have c5 := fun w1 => C5.out j w1
            rw [HUPB.out j (by omega)] at c5
            have C5j := Lib.hid c5; clear c5
            go_wp2_with (first
              | (at_builtin; refine app_front rfl (.tmp 63) (.tmp 64) rfl (pl B j) rfl dA dc _ rfl HD.out (by rw [List.length_reverse]; omega) ?_; intro v' w7 ho7 hb7; rw [← E.out] at ho7; obtain ⟨A7, c7, rfl, hr7⟩ := ho7.slice; have H7 := Lib.hid (HBL.out.trans (hb7.mono (HNE0.out _ HBL.out))); have HOL7 := Lib.hid (HOL.out.below hb7); have HR7 := Lib.hid hr7; clear ho7 hb7 hr7; have c5 := C5j.out w7)
              | (go_at_call 30; refine Calls.mono c5 ?_; rintro e w8 ⟨rfl, hb⟩; clear c5; have H8 := Lib.hid (H7.out.trans (hb.mono (HNE0.out _ H7.out))); have HOL8 := Lib.hid (HOL7.out.below hb); have HR8 := Lib.hid ((HR7.out.below hb).more hb.size); clear hb))
            go_roundg (J - (j + 1))
            case measure => have := HI2.out; omega
            case rel => exact ⟨j + 1, A7, c7, by omega, by have := HI2.out; omega, rfl, by rw [List.length_reverse], HR8.out, HOL8.out, H8.out⟩
          · obtain rfl : j = J := by have := HI2.out; omega
            rcases HJ3.out.2.2 with z | z
            · rw [z]
              have HZ := Lib.hid z; clear z
              go_wp2_with (at_builtin; refine app_rd rfl (.tmp 66) (.tmp 67) rfl N _ _ rfl HOL.out _ _ _ (downW B b j).reverse rfl HD.out (by have := upW_len A b i; rw [List.length_reverse]; omega) (HNE0.out _ HBL.out) ?_; intro v' w7 ho7 hb7; rw [E1.out] at ho7; have H7 := Lib.hid (HBL.out.trans hb7); have HO7 := Lib.hid ho7; clear ho7 hb7)
              go_ret
              exact ⟨_, rfl, HO7.out, H7.out⟩
            · have t3 : (pl B j == []) = false := by simpa using z.1
              have t4 : (pl B j == x) = true := by simpa using z.2
              clear z
              go_wp2_with (at_builtin; refine app_rd rfl (.tmp 66) (.tmp 67) rfl N _ _ rfl HOL.out _ _ _ (downW B b j).reverse rfl HD.out (by have := upW_len A b i; rw [List.length_reverse]; omega) (HNE0.out _ HBL.out) ?_; intro v' w7 ho7 hb7; rw [E1.out] at ho7; have H7 := Lib.hid (HBL.out.trans hb7); have HO7 := Lib.hid ho7; clear ho7 hb7)
              go_ret
              exact ⟨_, rfl, HO7.out, H7.out⟩)
theorem rbetween_any (a b : L) (w : World) (hs : a.length ≤ 1000000000) (hs2 : b.length ≤ 1000000000) :
    Calls Try.prog 31 #[.string ⟨a.toArray⟩, .string ⟨b.toArray⟩] w fun e w' => ∃ v, e = .returned v ∧ Own w' w.heap.size v (betweenL a b) ∧ Below w.heap.size w w' := by
  by_cases h : isL a = false ∨ isL b = false ∨ a = b
  · exact rbetween_no a b w hs hs2 h
  · rw [not_or, not_or] at h
    exact rbetween_yes a b w hs hs2 (by have := h.1; simp [isL] at this; exact this) (by have := h.2.1; simp [isL] at this; exact this) h.2.2
end Go.Proofs.Ytnalnhplcchdoaa.Nm
