/-
  The document's own of chapter 5: Kind, Is, Up, Under, Target, IsPrinc.
-/
import Derived.Test.YtnalnhplcchdoaaNmRefL
set_option linter.unusedVariables false
namespace Go.Proofs.Ytnalnhplcchdoaa.Nm
open Go.RowKit Go.Proofs.Ytnalnhplcchdoaa.Mem
attribute [local go_sem] mk_at List.getElem_cons_zero List.getElem_cons_succ ext_tail ext_drop ext_take

theorem split_mem (c : UInt8) (l : L) : ∀ x, x ∈ split c l → x.length ≤ l.length := by
  induction l with
  | nil => intro x hx; simp [split] at hx; simp [hx]
  | cons a r ih =>
    intro x hx
    rw [split] at hx
    split at hx
    · rcases List.mem_cons.1 hx with rfl | h
      · simp
      · have := ih x h; simp; omega
    · cases hs : split c r with
      | nil => rw [hs] at hx; simp at hx; subst hx; simp
      | cons u t =>
        rw [hs] at hx ih
        rcases List.mem_cons.1 hx with rfl | h
        · have := ih u List.mem_cons_self; simp; omega
        · have := ih x (List.mem_cons_of_mem _ h); simp; omega
theorem slab_any (l : L) (c : UInt8) (w' : World) (base : Nat) (v : Value) (hs : l.length ≤ 1000000000) (ho : Own w' base v (split c l)) :
    ∃ A n cap, v = .slice A n cap ∧ ∀ w1, Below w'.heap.size w' w1 → Calls Try.prog 57 #[.slice A n cap] w1 fun e w2 => e = .returned (.bool (labsL (split c l))) ∧ w1 = w2 := by
  obtain ⟨A, cap, rfl, hr⟩ := ho.slice
  refine ⟨A, _, cap, rfl, fun w1 hb => ?_⟩
  exact labels_any (split c l) A cap w'.heap.size w1 (split_len c l) (by have := split_le c l; omega) (fun i hi => by have := split_mem c l _ (pl_mem hi); omega) (hr.below hb)

set_option maxHeartbeats 1600000 in
set_option maxRecDepth 100000 in
theorem rkind_any (l : L) (w : World) (hs : l.length ≤ 1000000000) : Calls Try.prog 44 #[.string ⟨l.toArray⟩] w fun e w' => e = .returned (.int .i64 (kindL l : Int)) ∧ Below w.heap.size w w' := by
  have C2 := Lib.hid (fun w1 => split_any l 46 w1 hs)
  have S2 := Lib.hid (fun w' base v ho => slab_any l 46 w' base v hs ho)
  have HB0 := Lib.hid (Below.refl w.heap.size w)
  cases l with
  | nil =>
    have E := Lib.hid kind_nil
    have c2 := C2.out w
    have EL := Lib.hid (show labsL (split 46 []) = false by decide)
    clear hs
    go_enter Try.func44, Try.ntmps44
    go_wp2_with (first
      | (go_at_call 58; refine Calls.mono c2 ?_; rintro e w1 ⟨v, rfl, ho, hb⟩; clear c2; obtain ⟨A, n, cap, rfl, hc⟩ := S2.out w1 _ v ho; have c3 := hc w1 (Below.refl _ _); rw [EL.out] at c3; have H1 := Lib.hid hb; clear hb ho hc)
      | (go_at_call 57; refine Calls.mono c3 ?_; rintro e w2 ⟨rfl, rfl⟩; clear c3))
    go_ret
    exact ⟨by rw [E.out]; rfl, H1.out⟩
  | cons x r =>
    have e0 : (0 : Int) < (r.length : Int) + 1 := by omega
    have hs' : r.length ≤ 1000000000 := by simp at hs; omega
    have ek : kindL (x :: r) = if slL (x :: r) then 2 else if labsL (split 46 (x :: r)) then 1 else 0 := rfl
    by_cases hx : x = 47
    · subst hx
      have esl : slL (47 :: r) = labsL (split 47 r) := by simp [slL]
      rw [esl] at ek
      have c1 := split_any r 47 w hs'
      have S1 := Lib.hid (fun w' base v ho => slab_any r 47 w' base v hs' ho)
      cases h1 : labsL (split 47 r) with
      | true =>
        have E := Lib.hid (show kindL (47 :: r) = 2 by rw [ek, h1]; rfl)
        have H := Lib.hid h1
        clear ek esl h1 hs hs'
        go_enter Try.func44, Try.ntmps44
        go_wp2_with (first
          | (go_at_call 58; refine Calls.mono c1 ?_; rintro e w1 ⟨v, rfl, ho, hb⟩; clear c1; obtain ⟨A, n, cap, rfl, hc⟩ := S1.out w1 _ v ho; have c3 := hc w1 (Below.refl _ _); rw [H.out] at c3; have H1 := Lib.hid hb; clear hb ho hc)
          | (go_at_call 57; refine Calls.mono c3 ?_; rintro e w2 ⟨rfl, rfl⟩; clear c3))
        go_ret
        exact ⟨by rw [E.out]; rfl, H1.out⟩
      | false =>
        rw [h1, if_neg (by simp)] at ek
        have H := Lib.hid h1
        have hd : labsL (split 46 (47 :: r)) = false := by
          cases q : labsL (split 46 (47 :: r)) with
          | false => rfl
          | true => exact absurd rfl (dom_head q)
        have HD := Lib.hid hd
        have E := Lib.hid (show kindL (47 :: r) = 0 by rw [ek, hd]; rfl)
        clear ek esl h1 hd hs hs'
        go_enter Try.func44, Try.ntmps44
        go_wp2_with (first
          | (go_at_call 58; refine Calls.mono c1 ?_; rintro e w1 ⟨v, rfl, ho, hb⟩; clear c1; obtain ⟨A, n, cap, rfl, hc⟩ := S1.out w1 _ v ho; have c3 := hc w1 (Below.refl _ _); rw [H.out] at c3; have H1 := Lib.hid hb; clear hb ho hc; have c2 := C2.out w1)
          | (go_at_call 57; refine Calls.mono c3 ?_; rintro e w2 ⟨rfl, rfl⟩; clear c3)
          | (go_at_call 58; refine Calls.mono c2 ?_; rintro e w4 ⟨v4, rfl, ho, hb⟩; clear c2; obtain ⟨A4, n4, cap4, rfl, hc⟩ := S2.out w4 _ v4 ho; have c5 := hc w4 (Below.refl _ _); rw [HD.out] at c5; have H4 := Lib.hid (H1.out.trans (hb.mono H1.out.size)); clear hb ho hc)
          | (go_at_call 57; refine Calls.mono c5 ?_; rintro e w6 ⟨rfl, rfl⟩; clear c5))
        go_ret
        exact ⟨by rw [E.out]; rfl, H4.out⟩
    · have t1 : ((x.toNat : Int) == 47) = false := by
        simp only [beq_eq_false_iff_ne, ne_eq]
        intro q
        exact hx (UInt8.toNat_inj.1 (by have : (47 : UInt8).toNat = 47 := rfl; omega))
      have esl : slL (x :: r) = false := by simp [slL, hx]
      rw [esl, if_neg (by simp)] at ek
      have c2 := C2.out w
      cases h1 : labsL (split 46 (x :: r)) with
      | true =>
        have E := Lib.hid (show kindL (x :: r) = 1 by rw [ek, h1]; rfl)
        have H := Lib.hid h1
        clear ek esl h1 hs hs' hx
        go_enter Try.func44, Try.ntmps44
        go_wp2_with (first
          | (go_at_call 58; refine Calls.mono c2 ?_; rintro e w1 ⟨v, rfl, ho, hb⟩; clear c2; obtain ⟨A, n, cap, rfl, hc⟩ := S2.out w1 _ v ho; have c3 := hc w1 (Below.refl _ _); rw [H.out] at c3; have H1 := Lib.hid hb; clear hb ho hc)
          | (go_at_call 57; refine Calls.mono c3 ?_; rintro e w2 ⟨rfl, rfl⟩; clear c3))
        go_ret
        exact ⟨by rw [E.out]; rfl, H1.out⟩
      | false =>
        have E := Lib.hid (show kindL (x :: r) = 0 by rw [ek, h1]; rfl)
        have H := Lib.hid h1
        clear ek esl h1 hs hs' hx
        go_enter Try.func44, Try.ntmps44
        go_wp2_with (first
          | (go_at_call 58; refine Calls.mono c2 ?_; rintro e w1 ⟨v, rfl, ho, hb⟩; clear c2; obtain ⟨A, n, cap, rfl, hc⟩ := S2.out w1 _ v ho; have c3 := hc w1 (Below.refl _ _); rw [H.out] at c3; have H1 := Lib.hid hb; clear hb ho hc)
          | (go_at_call 57; refine Calls.mono c3 ?_; rintro e w2 ⟨rfl, rfl⟩; clear c3))
        go_ret
        exact ⟨by rw [E.out]; rfl, H1.out⟩

set_option maxHeartbeats 400000 in
theorem ris_any (l : L) (w : World) (hs : l.length ≤ 1000000000) : Calls Try.prog 29 #[.string ⟨l.toArray⟩] w fun e w' => e = .returned (.bool (isL l)) ∧ Below w.heap.size w w' := by
  have c1 := rkind_any l w hs
  by_cases h : 1 ≤ kindL l
  · have E := Lib.hid (show isL l = true by simp [isL, h])
    have t : decide (0 < kindL l) = true := by simp; omega
    clear h
    go_enter Try.func29, Try.ntmps29
    go_wp2_with (go_at_call 44; refine Calls.mono c1 ?_; rintro e w1 ⟨rfl, hd⟩; clear c1; have H1 := Lib.hid hd; clear hd)
    go_ret
    exact ⟨by rw [E.out]; rfl, H1.out⟩
  · have E := Lib.hid (show isL l = false by simp [isL]; omega)
    have e0 : kindL l = 0 := by omega
    rw [e0] at c1
    clear h e0
    go_enter Try.func29, Try.ntmps29
    go_wp2_with (go_at_call 44; refine Calls.mono c1 ?_; rintro e w1 ⟨rfl, hd⟩; clear c1; have H1 := Lib.hid hd; clear hd)
    go_ret
    exact ⟨by rw [E.out]; rfl, H1.out⟩

theorem at_split {l : L} {i : Nat} (h : i < l.length) : l = l.take i ++ l[i] :: l.drop (i + 1) := by
  conv => lhs; rw [← List.take_append_drop i l, List.drop_eq_getElem_cons h]
theorem mem_take_succ {l : L} {i : Nat} {c : UInt8} (h : i < l.length) (hc : c ∉ l.take i) (hn : l[i] ≠ c) : c ∉ l.take (i + 1) := by
  rw [List.take_succ_eq_append_getElem h, List.mem_append, not_or]
  exact ⟨hc, by simpa using fun q : c = l[i] => hn q.symm⟩
theorem up2_at {l : L} {i : Nat} (hk : kindL l = 2) (h : i < l.length) (hc : (47 : UInt8) ∉ l.drop (i + 1)) (hx : l[i] = 47) : upL l = l.take i := by
  rw [upL, if_neg (by omega), if_pos hk]
  have e := at_split h
  rw [hx] at e
  have := up_last (u := l.take i) hc
  rwa [← e] at this
theorem mem_drop_prev {l : L} {i : Nat} {c : UInt8} (h : i < l.length) (hc : c ∉ l.drop (i + 1)) (hn : l[i] ≠ c) : c ∉ l.drop i := by
  rw [List.drop_eq_getElem_cons h, List.mem_cons, not_or]
  exact ⟨fun q => hn q.symm, hc⟩

set_option maxHeartbeats 1600000 in
set_option maxRecDepth 100000 in
theorem rup_any (l : L) (w : World) (hs : l.length ≤ 1000000000) : Calls Try.prog 30 #[.string ⟨l.toArray⟩] w fun e w' => e = .returned (.string ⟨(upL l).toArray⟩) ∧ Below w.heap.size w w' := by
  have c1 := rkind_any l w hs
  by_cases h1 : kindL l = 1
  · rw [h1] at c1
    have EU := Lib.hid (show upL l = aft 46 l by rw [upL, if_pos h1])
    clear h1
    go_enter Try.func30, Try.ntmps30
    go_wp2_with (go_at_call 44; refine Calls.mono c1 ?_; rintro e w1 ⟨rfl, hd⟩; clear c1; have H1 := Lib.hid hd; clear hd)
    go_loop [3] (fun iv => ∃ i : Nat, i ≤ l.length ∧ iv = .int .i64 (i : Int) ∧ (46 : UInt8) ∉ l.take i) (fun iv => l.length - (intOf iv).toNat)
    case atStart => exact ⟨0, Nat.zero_le _, rfl, by simp⟩
    case round =>
      obtain ⟨i, hi, rfl, hc⟩ := hrel
      have HC := Lib.hid hc; clear hc
      by_cases hlt : i < l.length
      · have e1 : (i : Int) < (l.length : Int) := by omega
        by_cases hx : l[i] = 46
        · have t1 : ((l[i].toNat : Int) == 46) = true := by simp [hx]
          have E := Lib.hid (show upL l = l.drop (i + 1) by
            rw [EU.out]
            have e := at_split hlt
            rw [hx] at e
            have := aft_at (v := l.drop (i + 1)) HC.out
            rwa [← e] at this)
          have e3 : (i : Int) + 1 ≤ (l.length : Int) := by omega
          clear hx
          go_wp2
          go_ret
          exact ⟨by rw [E.out]; rfl, H1.out⟩
        · have t1 : ((l[i].toNat : Int) == 46) = false := by
            simp only [beq_eq_false_iff_ne, ne_eq]
            intro q
            exact hx (UInt8.toNat_inj.1 (by have : (46 : UInt8).toNat = 46 := rfl; omega))
          have HC1 := Lib.hid (mem_take_succ hlt HC.out hx)
          clear hx
          go_wp2
          go_round
          case rel => exact ⟨i + 1, by omega, by go_num, HC1.out⟩
          case measure => simp [intOf]; omega
      · have e1 : ¬ (i : Int) < (l.length : Int) := by omega
        have E := Lib.hid (show upL l = [] by
          rw [EU.out]
          have := HC.out
          rw [List.take_of_length_le (by omega)] at this
          exact aft_none this)
        go_wp2
        go_ret
        exact ⟨by rw [E.out]; rfl, H1.out⟩
  · by_cases h2 : kindL l = 2
    · rw [h2] at c1
      have HK := Lib.hid h2
      have hne := ne_of_kind (l := l) (by omega)
      have hpos : 1 ≤ l.length := by
        cases l with
        | nil => exact absurd rfl hne
        | cons x r => simp
      have hz : l[0]'(by omega) = 47 := by
        have h3 := kind_two h2
        simp only [slL, Bool.and_eq_true, decide_eq_true_eq] at h3
        cases l with
        | nil => exact absurd rfl hne
        | cons x r => simpa using h3.1
      have HZ := Lib.hid hz
      clear h1 h2 hne hz
      go_enter Try.func30, Try.ntmps30
      go_wp2_with (go_at_call 44; refine Calls.mono c1 ?_; rintro e w1 ⟨rfl, hd⟩; clear c1; have H1 := Lib.hid hd; clear hd)
      go_loop [4] (fun iv => ∃ i : Nat, i < l.length ∧ iv = .int .i64 (i : Int) ∧ (47 : UInt8) ∉ l.drop (i + 1)) (fun iv => (intOf iv).toNat)
      case atStart => exact ⟨l.length - 1, by omega, by congr 1; omega, by rw [List.drop_of_length_le (by omega)]; simp⟩
      case round =>
        obtain ⟨i, hi, rfl, hc⟩ := hrel
        have HC := Lib.hid hc; clear hc
        by_cases hlt : 0 < i
        · have e1 : (0 : Int) < (i : Int) := by omega
          by_cases hx : l[i] = 47
          · have t1 : ((l[i].toNat : Int) == 47) = true := by simp [hx]
            have E := Lib.hid (up2_at HK.out hi HC.out hx)
            clear hx
            have e3 : (i : Int) ≤ (l.length : Int) := by omega
            go_wp2
            go_ret
            exact ⟨by rw [E.out]; rfl, H1.out⟩
          · have t1 : ((l[i].toNat : Int) == 47) = false := by
              simp only [beq_eq_false_iff_ne, ne_eq]
              intro q
              exact hx (UInt8.toNat_inj.1 (by have : (47 : UInt8).toNat = 47 := rfl; omega))
            have HC1 := Lib.hid (mem_drop_prev hi HC.out hx)
            clear hx
            go_wp2
            go_round
            case rel => exact ⟨i - 1, by omega, by congr 1; omega, by rw [show i - 1 + 1 = i by omega]; exact HC1.out⟩
            case measure => simp [intOf]; omega
        · obtain rfl : i = 0 := by omega
          have E := Lib.hid (show upL l = [] by rw [up2_at HK.out hi HC.out HZ.out]; rfl)
          go_wp2
          go_ret
          exact ⟨by rw [E.out]; rfl, H1.out⟩
    · have hk := kind_le l
      have e0 : kindL l = 0 := by omega
      have E := Lib.hid (up_none e0)
      rw [e0] at c1
      clear e0 hk h1 h2 hs
      go_enter Try.func30, Try.ntmps30
      go_wp2_with (go_at_call 44; refine Calls.mono c1 ?_; rintro e w1 ⟨rfl, hd⟩; clear c1; have H1 := Lib.hid hd; clear hd)
      go_ret
      exact ⟨by rw [E.out]; rfl, H1.out⟩
end Go.Proofs.Ytnalnhplcchdoaa.Nm
