import Derived.Deep.LoopGhost
import Derived.Lib.MinMax
import Derived.Deep.RegionHeld3
import Derived.Test.YteeabfplnaknfaaZMsgOthers1
import Derived.Test.YteeabfplnaknfaaZMsgOthers2
import Derived.Test.YteeabfplnaknfaaZMsgOthers3
section
set_option linter.unusedVariables false
namespace Go.Proofs.Yteeabfplnaknfaa.Nm
open Go.RowKit Go.Proofs.Yteeabfplnaknfaa.Mem
attribute [local go_sem] mk_at List.getElem_cons_zero List.getElem_cons_succ ext_rng

theorem labs_bad {ls : List L} {i : Nat} (hi : i < ls.length) (h : wordL capB (pl ls i) = false) : labsL ls = false := by
  cases e : labsL ls with
  | false => rfl
  | true =>
    have := ((labsL_iff ls).1 e).2.2
    rw [List.all_eq_true] at this
    have := this _ (pl_mem hi)
    rw [h] at this; cases this
theorem labs_all {ls : List L} (h : ∀ i, i < ls.length → wordL capB (pl ls i) = true) (h1 : 1 ≤ ls.length) : labsL ls = decide (ls.length ≤ 4) := by
  have ha : ls.all (wordL capB) = true := by
    rw [List.all_eq_true]
    intro x hx
    obtain ⟨i, hi, rfl⟩ := mem_pl hx
    exact h i hi
  rw [labsL, ha, decide_eq_true h1]; simp

set_option maxHeartbeats 3200000 in
set_option maxRecDepth 100000 in
theorem labels_some (ls : List L) (b o c : Nat) (w : World) (h1 : 1 ≤ ls.length) (hl : ls.length ≤ 8000000000000) (hs : ∀ i, i < ls.length → (pl ls i).length ≤ 1000000000)
    (hc : ∀ i, i < ls.length → w.cell? ⟨b, o + i, none⟩ = some (.string ⟨(pl ls i).toArray⟩)) :
    Calls Try.prog 77 #[.slice (some ⟨b, o, none⟩) ls.length c] w fun e w' => e = .returned (.bool (labsL ls)) ∧ w = w' := by
  obtain ⟨n, en⟩ : ∃ n, n = ls.length := ⟨_, rfl⟩
  rw [← en] at h1 hl hs hc ⊢
  have HS := Lib.hid hs; clear hs
  have HC := Lib.hid hc; clear hc
  have EN := Lib.hid en; clear en
  go_enter Try.func77, Try.ntmps77
  go_wp2
  go_loop [3] (fun iv => ∃ i : Nat, i ≤ n ∧ iv = .int .i64 (i : Int) ∧ ∀ j, j < i → wordL capB (pl ls j) = true) (fun iv => n - (intOf iv).toNat)
  case atStart => exact ⟨0, Nat.zero_le _, rfl, fun j h => absurd h (Nat.not_lt_zero j)⟩
  case round =>
    obtain ⟨i, hi, rfl, hw⟩ := hrel
    have HW := Lib.hid hw; clear hw
    by_cases hlt : i < n
    · have e1 : (i : Int) < (n : Int) := by omega
      have hc := HC.out i hlt
      have hsz := HS.out i hlt
      obtain ⟨l, el⟩ : ∃ l, l = pl ls i := ⟨_, rfl⟩
      rw [← el] at hc hsz
      have EL := Lib.hid el; clear el
      by_cases g1 : l.length < 1
      · have t1 : decide ((l.length : Int) < 1) = true := by simp; omega
        have E := Lib.hid (labs_bad (by rw [← EN.out]; exact hlt) (by rw [← EL.out]; exact word_short g1))
        clear g1
        go_wp2
        go_ret
        exact ⟨by rw [E.out]; rfl, rfl⟩
      · have t1 : decide ((l.length : Int) < 1) = false := by simp; omega
        by_cases g2 : 8 < l.length
        · have t2 : decide (8 < (l.length : Int)) = true := by simp; omega
          have E := Lib.hid (labs_bad (by rw [← EN.out]; exact hlt) (by rw [← EL.out]; exact word_long g2))
          clear g1 g2
          go_wp2
          go_ret
          exact ⟨by rw [E.out]; rfl, rfl⟩
        · have t2 : decide (8 < (l.length : Int)) = false := by simp; omega
          have HA := Lib.hid (fun h => word_all (p := capB) (l := l) h (by omega) (by omega))
          clear g1 g2
          go_wp2
          go_loop [4] (fun kv => ∃ k : Nat, k ≤ l.length ∧ kv = .int .i64 (k : Int) ∧ Fit capB l k) (fun kv => l.length - (intOf kv).toNat)
          case atStart => exact ⟨0, Nat.zero_le _, rfl, fun i _ h => by omega⟩
          case round =>
            obtain ⟨k, hk, rfl, hf⟩ := hrel
            have HF := Lib.hid hf; clear hf
            by_cases hkl : k < l.length
            · have e2 : (k : Int) < (l.length : Int) := by omega
              have hb := u8_le l[k]
              by_cases q1 : l[k].toNat < 65
              · have s1 : decide ((l[k].toNat : Int) < 65) = true := by simp; omega
                have E := Lib.hid (labs_bad (ls := ls) (i := i) (by rw [← EN.out]; exact hlt) (by rw [← EL.out]; exact word_bad hkl (by simp [capB]; omega)))
                clear q1
                go_wp2
                go_ret
                exact ⟨by rw [E.out]; rfl, rfl⟩
              · have s1 : decide ((l[k].toNat : Int) < 65) = false := by simp; omega
                by_cases q2 : 90 < l[k].toNat
                · have s2 : decide (90 < (l[k].toNat : Int)) = true := by simp; omega
                  have E := Lib.hid (labs_bad (ls := ls) (i := i) (by rw [← EN.out]; exact hlt) (by rw [← EL.out]; exact word_bad hkl (by simp [capB]; omega)))
                  clear q1 q2
                  go_wp2
                  go_ret
                  exact ⟨by rw [E.out]; rfl, rfl⟩
                · have s2 : decide (90 < (l[k].toNat : Int)) = false := by simp; omega
                  have HP := Lib.hid (show capB l[k] = true by simp [capB]; omega)
                  clear q1 q2
                  go_wp2
                  go_round
                  case rel => exact ⟨k + 1, by omega, by go_num, fun i hi hik => by
                    by_cases q : i = k
                    · subst q; exact HP.out
                    · exact HF.out i hi (by omega)⟩
                  case measure => simp [intOf]; omega
            · have e2 : ¬ (k : Int) < (l.length : Int) := by omega
              have E := Lib.hid (HA.out (fun i hi => HF.out i hi (by omega)))
              go_wp2
              go_round
              case rel => exact ⟨i + 1, by omega, by go_num, fun j hj => by
                by_cases q : j = i
                · rw [q, ← EL.out]; exact E.out
                · exact HW.out j (by omega)⟩
              case measure => simp [intOf]; omega
    · obtain rfl : i = n := by omega
      have e1 : ¬ (i : Int) < (i : Int) := by omega
      have hE := labs_all (ls := ls) (fun j hj => HW.out j (by rw [EN.out]; exact hj)) (by rw [← EN.out]; exact h1)
      rw [← EN.out] at hE
      have E := Lib.hid hE; clear hE
      have t1 : decide ((1 : Int) ≤ (i : Int)) = true := by simp; omega
      by_cases g : i ≤ 4
      · have t2 : decide ((i : Int) ≤ 4) = true := by simp; omega
        have E2 := Lib.hid (decide_eq_true g)
        clear g
        go_wp2
        go_ret
        exact ⟨by rw [E.out, E2.out]; rfl, rfl⟩
      · have t2 : decide ((i : Int) ≤ 4) = false := by simp; omega
        have E2 := Lib.hid (decide_eq_false g)
        clear g
        go_wp2
        go_ret
        exact ⟨by rw [E.out, E2.out]; rfl, rfl⟩
theorem labels_any (ls : List L) (A : Option Addr) (c B : Nat) (w : World) (h1 : 1 ≤ ls.length) (hl : ls.length ≤ 8000000000000) (hs : ∀ i, i < ls.length → (pl ls i).length ≤ 1000000000) (hr : Rd w B A (strs ls)) :
    Calls Try.prog 77 #[.slice A ls.length c] w fun e w' => e = .returned (.bool (labsL ls)) ∧ w = w' := by
  obtain ⟨b, o, rfl, _, _⟩ := rd_txt hr (i := 0) h1
  refine labels_some ls b o c w h1 hl hs fun i hi => ?_
  obtain ⟨b', o', e, _, hc⟩ := rd_txt hr hi
  injection e with e
  injection e with e1 e2
  subst e1; subst e2
  exact hc
end Go.Proofs.Yteeabfplnaknfaa.Nm
end

section
set_option linter.unusedVariables false
namespace Go.Proofs.Yteeabfplnaknfaa.Nm
open Go.RowKit Go.Proofs.Yteeabfplnaknfaa.Mem
attribute [local go_sem] mk_at List.getElem_cons_zero List.getElem_cons_succ ext_tail ext_drop ext_take

theorem split_mem (c : UInt8) (l : L) : ∀ x, x ∈ split c l → x.length ≤ l.length := by
  induction l with
  | nil => intro x hx; simp [split] at hx; simp [hx]
  | cons a r ih =>
    intro x hx
    rw [split] at hx
    split at hx
    · rcases List.mem_cons.1 hx with rfl | h
      · simp
      · have := ih x h; simp; omega
    · cases hs : split c r with
      | nil => rw [hs] at hx; simp at hx; subst hx; simp
      | cons u t =>
        rw [hs] at hx ih
        rcases List.mem_cons.1 hx with rfl | h
        · have := ih u List.mem_cons_self; simp; omega
        · have := ih x (List.mem_cons_of_mem _ h); simp; omega
theorem slab_any (l : L) (c : UInt8) (w' : World) (base : Nat) (v : Value) (hs : l.length ≤ 1000000000) (ho : Own w' base v (split c l)) :
    ∃ A n cap, v = .slice A n cap ∧ ∀ w1, Below w'.heap.size w' w1 → Calls Try.prog 77 #[.slice A n cap] w1 fun e w2 => e = .returned (.bool (labsL (split c l))) ∧ w1 = w2 := by
  obtain ⟨A, cap, rfl, hr⟩ := ho.slice
  refine ⟨A, _, cap, rfl, fun w1 hb => ?_⟩
  exact labels_any (split c l) A cap w'.heap.size w1 (split_len c l) (by have := split_le c l; omega) (fun i hi => by have := split_mem c l _ (pl_mem hi); omega) (hr.below hb)

set_option maxHeartbeats 1600000 in
set_option maxRecDepth 100000 in
theorem rkind_any (l : L) (w : World) (hs : l.length ≤ 1000000000) : Calls Try.prog 57 #[.string ⟨l.toArray⟩] w fun e w' => e = .returned (.int .i64 (kindL l : Int)) ∧ Below w.heap.size w w' := by
  have C2 := Lib.hid (fun w1 => split_any l 46 w1 hs)
  have S2 := Lib.hid (fun w' base v ho => slab_any l 46 w' base v hs ho)
  have HB0 := Lib.hid (Below.refl w.heap.size w)
  cases l with
  | nil =>
    have E := Lib.hid kind_nil
    have c2 := C2.out w
    have EL := Lib.hid (show labsL (split 46 []) = false by decide)
    clear hs
    go_enter Try.func57, Try.ntmps57
    go_wp2_with (first
      | (go_at_call 78; refine Calls.mono c2 ?_; rintro e w1 ⟨v, rfl, ho, hb⟩; clear c2; obtain ⟨A, n, cap, rfl, hc⟩ := S2.out w1 _ v ho; have c3 := hc w1 (Below.refl _ _); rw [EL.out] at c3; have H1 := Lib.hid hb; clear hb ho hc)
      | (go_at_call 77; refine Calls.mono c3 ?_; rintro e w2 ⟨rfl, rfl⟩; clear c3))
    go_ret
    exact ⟨by rw [E.out]; rfl, H1.out⟩
  | cons x r =>
    have e0 : (0 : Int) < (r.length : Int) + 1 := by omega
    have hs' : r.length ≤ 1000000000 := by simp at hs; omega
    have ek : kindL (x :: r) = if slL (x :: r) then 2 else if labsL (split 46 (x :: r)) then 1 else 0 := rfl
    by_cases hx : x = 47
    · subst hx
      have esl : slL (47 :: r) = labsL (split 47 r) := by simp [slL]
      rw [esl] at ek
      have c1 := split_any r 47 w hs'
      have S1 := Lib.hid (fun w' base v ho => slab_any r 47 w' base v hs' ho)
      cases h1 : labsL (split 47 r) with
      | true =>
        have E := Lib.hid (show kindL (47 :: r) = 2 by rw [ek, h1]; rfl)
        have H := Lib.hid h1
        clear ek esl h1 hs hs'
        go_enter Try.func57, Try.ntmps57
        go_wp2_with (first
          | (go_at_call 78; refine Calls.mono c1 ?_; rintro e w1 ⟨v, rfl, ho, hb⟩; clear c1; obtain ⟨A, n, cap, rfl, hc⟩ := S1.out w1 _ v ho; have c3 := hc w1 (Below.refl _ _); rw [H.out] at c3; have H1 := Lib.hid hb; clear hb ho hc)
          | (go_at_call 77; refine Calls.mono c3 ?_; rintro e w2 ⟨rfl, rfl⟩; clear c3))
        go_ret
        exact ⟨by rw [E.out]; rfl, H1.out⟩
      | false =>
        rw [h1, if_neg (by simp)] at ek
        have H := Lib.hid h1
        have hd : labsL (split 46 (47 :: r)) = false := by
          cases q : labsL (split 46 (47 :: r)) with
          | false => rfl
          | true => exact absurd rfl (dom_head q)
        have HD := Lib.hid hd
        have E := Lib.hid (show kindL (47 :: r) = 0 by rw [ek, hd]; rfl)
        clear ek esl h1 hd hs hs'
        go_enter Try.func57, Try.ntmps57
        go_wp2_with (first
          | (go_at_call 78; refine Calls.mono c1 ?_; rintro e w1 ⟨v, rfl, ho, hb⟩; clear c1; obtain ⟨A, n, cap, rfl, hc⟩ := S1.out w1 _ v ho; have c3 := hc w1 (Below.refl _ _); rw [H.out] at c3; have H1 := Lib.hid hb; clear hb ho hc; have c2 := C2.out w1)
          | (go_at_call 77; refine Calls.mono c3 ?_; rintro e w2 ⟨rfl, rfl⟩; clear c3)
          | (go_at_call 78; refine Calls.mono c2 ?_; rintro e w4 ⟨v4, rfl, ho, hb⟩; clear c2; obtain ⟨A4, n4, cap4, rfl, hc⟩ := S2.out w4 _ v4 ho; have c5 := hc w4 (Below.refl _ _); rw [HD.out] at c5; have H4 := Lib.hid (H1.out.trans (hb.mono H1.out.size)); clear hb ho hc)
          | (go_at_call 77; refine Calls.mono c5 ?_; rintro e w6 ⟨rfl, rfl⟩; clear c5))
        go_ret
        exact ⟨by rw [E.out]; rfl, H4.out⟩
    · have t1 : ((x.toNat : Int) == 47) = false := by
        simp only [beq_eq_false_iff_ne, ne_eq]
        intro q
        exact hx (UInt8.toNat_inj.1 (by have : (47 : UInt8).toNat = 47 := rfl; omega))
      have esl : slL (x :: r) = false := by simp [slL, hx]
      rw [esl, if_neg (by simp)] at ek
      have c2 := C2.out w
      cases h1 : labsL (split 46 (x :: r)) with
      | true =>
        have E := Lib.hid (show kindL (x :: r) = 1 by rw [ek, h1]; rfl)
        have H := Lib.hid h1
        clear ek esl h1 hs hs' hx
        go_enter Try.func57, Try.ntmps57
        go_wp2_with (first
          | (go_at_call 78; refine Calls.mono c2 ?_; rintro e w1 ⟨v, rfl, ho, hb⟩; clear c2; obtain ⟨A, n, cap, rfl, hc⟩ := S2.out w1 _ v ho; have c3 := hc w1 (Below.refl _ _); rw [H.out] at c3; have H1 := Lib.hid hb; clear hb ho hc)
          | (go_at_call 77; refine Calls.mono c3 ?_; rintro e w2 ⟨rfl, rfl⟩; clear c3))
        go_ret
        exact ⟨by rw [E.out]; rfl, H1.out⟩
      | false =>
        have E := Lib.hid (show kindL (x :: r) = 0 by rw [ek, h1]; rfl)
        have H := Lib.hid h1
        clear ek esl h1 hs hs' hx
        go_enter Try.func57, Try.ntmps57
        go_wp2_with (first
          | (go_at_call 78; refine Calls.mono c2 ?_; rintro e w1 ⟨v, rfl, ho, hb⟩; clear c2; obtain ⟨A, n, cap, rfl, hc⟩ := S2.out w1 _ v ho; have c3 := hc w1 (Below.refl _ _); rw [H.out] at c3; have H1 := Lib.hid hb; clear hb ho hc)
          | (go_at_call 77; refine Calls.mono c3 ?_; rintro e w2 ⟨rfl, rfl⟩; clear c3))
        go_ret
        exact ⟨by rw [E.out]; rfl, H1.out⟩

set_option maxHeartbeats 400000 in
theorem ris_any (l : L) (w : World) (hs : l.length ≤ 1000000000) : Calls Try.prog 28 #[.string ⟨l.toArray⟩] w fun e w' => e = .returned (.bool (isL l)) ∧ Below w.heap.size w w' := by
  have c1 := rkind_any l w hs
  by_cases h : 1 ≤ kindL l
  · have E := Lib.hid (show isL l = true by simp [isL, h])
    have t : decide (0 < kindL l) = true := by simp; omega
    clear h
    go_enter Try.func28, Try.ntmps28
    go_wp2_with (go_at_call 57; refine Calls.mono c1 ?_; rintro e w1 ⟨rfl, hd⟩; clear c1; have H1 := Lib.hid hd; clear hd)
    go_ret
    exact ⟨by rw [E.out]; rfl, H1.out⟩
  · have E := Lib.hid (show isL l = false by simp [isL]; omega)
    have e0 : kindL l = 0 := by omega
    rw [e0] at c1
    clear h e0
    go_enter Try.func28, Try.ntmps28
    go_wp2_with (go_at_call 57; refine Calls.mono c1 ?_; rintro e w1 ⟨rfl, hd⟩; clear c1; have H1 := Lib.hid hd; clear hd)
    go_ret
    exact ⟨by rw [E.out]; rfl, H1.out⟩

end Go.Proofs.Yteeabfplnaknfaa.Nm
end

section
set_option linter.unusedVariables false
namespace Go.Proofs.Yteeabfplnaknfaa.Nm
open Go.RowKit Go.Proofs.Yteeabfplnaknfaa.Mem
attribute [local go_sem] mk_at List.getElem_cons_zero List.getElem_cons_succ ext_tail ext_drop ext_take

theorem tg_short {n : L} (h : n.length < 8) : tgL n = false := by
  cases q : preL krb n with
  | false => rw [tgL, q]; rfl
  | true =>
    have h1 : n.drop 7 = [] := List.drop_of_length_le (by omega)
    have h2 : cpL krb n = [] := by rw [cpL, q, if_pos rfl]; exact h1
    rw [tgL, h2, show isL [] = false from by decide, Bool.and_false]
theorem tg_eq (n : L) : tgL n = ((n.take 7 == krb) && isL (n.drop 7)) := by
  have e := pre_take krb n
  rw [show krb.length = 7 from rfl] at e
  rw [tgL, e]
  cases q : preL krb n with
  | false => rfl
  | true => rw [cpL, q]; rfl

set_option maxHeartbeats 800000 in
theorem rtarget_any (n : L) (w : World) (hs : n.length ≤ 1000000000) : Calls Try.prog 29 #[.string ⟨n.toArray⟩] w fun e w' => e = .returned (.tuple #[.string ⟨(tgR n).toArray⟩, .bool (tgL n)]) ∧ Below w.heap.size w w' := by
  have c2 := ris_any (n.drop 7) w (by simp; omega)
  have HB0 := Lib.hid (Below.refl w.heap.size w)
  by_cases h8 : n.length < 8
  · have E1 := Lib.hid (tg_short h8)
    have E2 := Lib.hid (show tgR n = [] by rw [tgR, E1.out]; rfl)
    have t1 : decide ((n.length : Int) < 8) = true := by simp; omega
    clear h8 hs
    go_enter Try.func29, Try.ntmps29
    go_wp2_with fail
    go_ret2
    exact ⟨by rw [E1.out, E2.out]; rfl, HB0.out⟩
  · have t1 : decide ((n.length : Int) < 8) = false := by simp; omega
    have e7 : (7 : Int) ≤ (n.length : Int) := by omega
    have eq := tg_eq n
    clear h8
    cases h1 : (n.take 7 == krb) with
    | false =>
      rw [h1] at eq
      have t2 : (n.take 7 == [107, 114, 98, 116, 103, 116, 47]) = false := h1
      have E1 := Lib.hid (show tgL n = false from eq)
      have E2 := Lib.hid (show tgR n = [] by rw [tgR, E1.out]; rfl)
      clear eq h1 hs
      go_enter Try.func29, Try.ntmps29
      go_wp2_with fail
      go_ret2
      exact ⟨by rw [E1.out, E2.out]; rfl, HB0.out⟩
    | true =>
      rw [h1, Bool.true_and] at eq
      have t2 : (n.take 7 == [107, 114, 98, 116, 103, 116, 47]) = true := h1
      clear h1 hs
      cases h2 : isL (n.drop 7) with
      | false =>
        rw [h2] at c2 eq
        have E1 := Lib.hid eq
        have E2 := Lib.hid (show tgR n = [] by rw [tgR, E1.out]; rfl)
        clear eq h2
        go_enter Try.func29, Try.ntmps29
        go_wp2_with (go_at_call 28; refine Calls.mono c2 ?_; rintro e w2 ⟨rfl, hd⟩; clear c2; have H2 := Lib.hid hd; clear hd)
        go_ret2
        exact ⟨by rw [E1.out, E2.out]; rfl, H2.out⟩
      | true =>
        rw [h2] at c2 eq
        have E1 := Lib.hid eq
        have E2 := Lib.hid (show tgR n = n.drop 7 by rw [tgR, E1.out]; rfl)
        clear eq h2
        go_enter Try.func29, Try.ntmps29
        go_wp2_with (go_at_call 28; refine Calls.mono c2 ?_; rintro e w2 ⟨rfl, hd⟩; clear c2; have H2 := Lib.hid hd; clear hd)
        go_ret2
        exact ⟨by rw [E1.out, E2.out]; rfl, H2.out⟩

theorem word_fit {p : UInt8 → Bool} {l : L} (h : ∀ i (h : i < l.length), p l[i] = true) : wordL p l = (decide (1 ≤ l.length) && decide (l.length ≤ 8)) := by
  have ha : l.all p = true := by
    rw [List.all_eq_true]
    intro x hx
    obtain ⟨i, hi, rfl⟩ := List.getElem_of_mem hx
    exact h i hi
  rw [wordL, ha, Bool.and_true]
set_option maxHeartbeats 1600000 in
set_option maxRecDepth 100000 in
theorem risprinc_any (r n : L) (w : World) (hs : r.length ≤ 1000000000) (hs2 : n.length ≤ 1000000000) : Calls Try.prog 17 #[.agg #[.string ⟨r.toArray⟩, .string ⟨n.toArray⟩]] w fun e w' => e = .returned (.bool (princL r n)) ∧ Below w.heap.size w w' := by
  have c1 := ris_any r (w.alloc (.cells #[.string ⟨r.toArray⟩, .string ⟨n.toArray⟩] 23)) hs
  have hk := Blk.new w 23 #[.string ⟨r.toArray⟩, .string ⟨n.toArray⟩]
  have hb0 := (Below.refl w.heap.size w).alloc (Nat.le_refl _) (.cells #[.string ⟨r.toArray⟩, .string ⟨n.toArray⟩] 23)
  have hsz : w.heap.size < (w.alloc (.cells #[.string ⟨r.toArray⟩, .string ⟨n.toArray⟩] 23)).heap.size := by simp
  obtain ⟨N, eN⟩ : ∃ N, N = w.heap.size := ⟨_, rfl⟩
  have C2 := Lib.hid (fun w1 => rtarget_any n w1 hs2)
  have E1 := Lib.hid (show princL r n = (isL r && (tgL n || wordL wordB n)) from rfl)
  rw [← eN] at hk hb0 hsz ⊢
  have EN := Lib.hid eN; clear eN
  have HK := Lib.hid hk; clear hk
  have HB0 := Lib.hid hb0; clear hb0
  have HSZ := Lib.hid hsz; clear hsz hs
  cases h1 : isL r with
  | false =>
    rw [h1] at c1
    have E := Lib.hid (show princL r n = false by rw [E1.out, h1]; rfl)
    clear h1
    go_enter Try.func17, Try.ntmps17
    go_wp2_with (go_at_call 28; refine Calls.mono c1 ?_; rintro e w1 ⟨rfl, hd⟩; clear c1; have H1 := Lib.hid (HB0.out.trans (hd.mono (Nat.le_of_lt HSZ.out))); clear hd)
    go_ret
    exact ⟨by rw [E.out]; rfl, H1.out⟩
  | true =>
    rw [h1] at c1
    cases h2 : tgL n with
    | true =>
      have E := Lib.hid (show princL r n = true by rw [E1.out, h1, h2]; rfl)
      have HT := Lib.hid h2
      clear h1 h2
      go_enter Try.func17, Try.ntmps17
      go_wp2_with (first
        | (go_at_call 28; refine Calls.mono c1 ?_; rintro e w1 ⟨rfl, hd⟩; clear c1; have H1 := Lib.hid (HB0.out.trans (hd.mono (Nat.le_of_lt HSZ.out))); have hkk := HK.out.below hd; have HKK := Lib.hid hkk; have hk1 := hkk.cell 1; have hs1 : N < w1.heap.size := (by have := hd.size; have := HSZ.out; omega); have HS1 := Lib.hid hs1; rw [EN.out] at hk1; clear hd hs1 hkk; have c2 := C2.out w1; rw [HT.out] at c2)
        | (go_at_call 29; refine Calls.mono c2 ?_; rintro e w2 ⟨rfl, hb⟩; clear c2 hk1; have H2 := Lib.hid (H1.out.trans (hb.mono (Nat.le_of_lt HS1.out))); have hk2 := (HKK.out.below hb).cell 1; rw [EN.out] at hk2; clear hb))
      go_ret
      exact ⟨by rw [E.out]; rfl, H2.out⟩
    | false =>
      have E := Lib.hid (show princL r n = wordL wordB n by rw [E1.out, h1, h2]; rfl)
      have HT := Lib.hid h2
      clear h1 h2
      go_enter Try.func17, Try.ntmps17
      go_wp2_with (first
        | (go_at_call 28; refine Calls.mono c1 ?_; rintro e w1 ⟨rfl, hd⟩; clear c1; have H1 := Lib.hid (HB0.out.trans (hd.mono (Nat.le_of_lt HSZ.out))); have hkk := HK.out.below hd; have HKK := Lib.hid hkk; have hk1 := hkk.cell 1; have hs1 : N < w1.heap.size := (by have := hd.size; have := HSZ.out; omega); have HS1 := Lib.hid hs1; rw [EN.out] at hk1; clear hd hs1 hkk; have c2 := C2.out w1; rw [HT.out] at c2)
        | (go_at_call 29; refine Calls.mono c2 ?_; rintro e w2 ⟨rfl, hb⟩; clear c2 hk1; have H2 := Lib.hid (H1.out.trans (hb.mono (Nat.le_of_lt HS1.out))); have hk2 := (HKK.out.below hb).cell 1; rw [EN.out] at hk2; clear hb))
      go_loop [5] (fun iv => ∃ k : Nat, k ≤ n.length ∧ iv = .int .i64 (k : Int) ∧ Fit wordB n k) (fun iv => n.length - (intOf iv).toNat)
      case atStart => exact ⟨0, Nat.zero_le _, rfl, fun i _ h => by omega⟩
      case round =>
        obtain ⟨k, hk, rfl, hf⟩ := hrel
        have HF := Lib.hid hf; clear hf
        by_cases hlt : k < n.length
        · have e1 : (k : Int) < (n.length : Int) := by omega
          have hb := u8_le n[k]
          have hbad : wordB n[k] = false → Hid (princL r n = false) := fun h => Lib.hid (by rw [E.out]; exact word_bad hlt h)
          have HBAD := Lib.hid hbad; clear hbad
          have hgood : wordB n[k] = true → Hid (Fit wordB n (k + 1)) := fun h => Lib.hid (fun i hi hik => by
            by_cases q : i = k
            · subst q; exact h
            · exact HF.out i hi (by omega))
          have HGOOD := Lib.hid hgood; clear hgood
          by_cases q1 : n[k].toNat < 97
          · have s1 : decide ((n[k].toNat : Int) < 97) = true := by simp; omega
            by_cases q2 : n[k].toNat < 48
            · have s2 : decide ((n[k].toNat : Int) < 48) = true := by simp; omega
              have E2 := HBAD.out (by simp [wordB, smallB]; omega)
              clear q1 q2
              go_wp2
              go_ret
              exact ⟨by rw [E2.out]; rfl, H2.out⟩
            · have s2 : decide ((n[k].toNat : Int) < 48) = false := by simp; omega
              by_cases q3 : 57 < n[k].toNat
              · have s3 : decide (57 < (n[k].toNat : Int)) = true := by simp; omega
                have E2 := HBAD.out (by simp [wordB, smallB]; omega)
                clear q1 q2 q3
                go_wp2
                go_ret
                exact ⟨by rw [E2.out]; rfl, H2.out⟩
              · have s3 : decide (57 < (n[k].toNat : Int)) = false := by simp; omega
                have E2 := HGOOD.out (by simp [wordB, smallB]; omega)
                clear q1 q2 q3
                go_wp2
                go_round
                case rel => exact ⟨k + 1, by omega, by go_num, E2.out⟩
                case measure => simp [intOf]; omega
          · have s1 : decide ((n[k].toNat : Int) < 97) = false := by simp; omega
            by_cases q2 : 122 < n[k].toNat
            · have s2 : decide (122 < (n[k].toNat : Int)) = true := by simp; omega
              have s3 : decide ((n[k].toNat : Int) < 48) = false := by simp; omega
              have s4 : decide (57 < (n[k].toNat : Int)) = true := by simp; omega
              have E2 := HBAD.out (by simp [wordB, smallB]; omega)
              clear q1 q2
              go_wp2
              go_ret
              exact ⟨by rw [E2.out]; rfl, H2.out⟩
            · have s2 : decide (122 < (n[k].toNat : Int)) = false := by simp; omega
              have E2 := HGOOD.out (by simp [wordB, smallB]; omega)
              clear q1 q2
              go_wp2
              go_round
              case rel => exact ⟨k + 1, by omega, by go_num, E2.out⟩
              case measure => simp [intOf]; omega
        · obtain rfl : k = n.length := by omega
          have e1 : ¬ (n.length : Int) < (n.length : Int) := by omega
          have E2 := Lib.hid (E.out.trans (word_fit (fun i hi => HF.out i hi hi)))
          by_cases g1 : 1 ≤ n.length
          · have t1 : decide ((1 : Int) ≤ (n.length : Int)) = true := by simp; omega
            by_cases g2 : n.length ≤ 8
            · have t2 : decide ((n.length : Int) ≤ 8) = true := by simp; omega
              have E3 := Lib.hid (E2.out.trans (show (decide (1 ≤ n.length) && decide (n.length ≤ 8)) = true by simp; omega))
              clear g1 g2
              go_wp2
              go_ret
              exact ⟨by rw [E3.out]; rfl, H2.out⟩
            · have t2 : decide ((n.length : Int) ≤ 8) = false := by simp; omega
              have E3 := Lib.hid (E2.out.trans (show (decide (1 ≤ n.length) && decide (n.length ≤ 8)) = false by simp; omega))
              clear g1 g2
              go_wp2
              go_ret
              exact ⟨by rw [E3.out]; rfl, H2.out⟩
          · have t1 : decide ((1 : Int) ≤ (n.length : Int)) = false := by simp; omega
            have E3 := Lib.hid (E2.out.trans (show (decide (1 ≤ n.length) && decide (n.length ≤ 8)) = false by simp; omega))
            clear g1
            go_wp2
            go_ret
            exact ⟨by rw [E3.out]; rfl, H2.out⟩
end Go.Proofs.Yteeabfplnaknfaa.Nm
end

section
namespace Go.Proofs.Yteeabfplnaknfaa.Tr
open Go.Proofs.Yteeabfplnaknfaa.Nm

theorem split_sum (c : UInt8) (l : L) : ((split c l).map fun p => p.length + 1).sum = l.length + 1 := by
  induction l with
  | nil => simp [split]
  | cons y r ih =>
    rw [split]
    by_cases e : y = c
    · rw [if_pos e]; simp [ih]; omega
    · rw [if_neg e]
      cases hs : split c r with
      | nil => exact absurd hs (split_ne c r)
      | cons a t =>
        rw [hs] at ih
        simp only [List.map_cons, List.sum_cons, List.length_cons] at ih ⊢
        omega
theorem sum_le {ls : List L} (h : ls.all (wordL capB) = true) : (ls.map fun p => p.length + 1).sum ≤ 9 * ls.length := by
  induction ls with
  | nil => simp
  | cons a t ih =>
    simp only [List.all_cons, Bool.and_eq_true] at h
    have h1 := ((wordL_iff _ _).1 h.1).2.1
    have := ih h.2
    simp only [List.map_cons, List.sum_cons, List.length_cons]
    omega
theorem labs_len {c : UInt8} {l : L} (h : labsL (split c l) = true) : l.length ≤ 35 := by
  have h1 := (labsL_iff _).1 h
  have h2 := sum_le h1.2.2
  have h3 := split_sum c l
  omega
theorem kind_two' {l : L} (h : kindL l = 2) : ∃ t, l = 47 :: t ∧ labsL (split 47 t) = true := by
  have h1 := kind_two h
  simp only [slL, Bool.and_eq_true, decide_eq_true_eq] at h1
  cases l with
  | nil => simp at h1
  | cons x t =>
    simp only [List.head?_cons, Option.some.injEq, List.tail_cons] at h1
    exact ⟨t, by rw [h1.1], h1.2⟩
theorem kind_cases {l : L} (h : kindL l ≠ 0) : kindL l = 1 ∨ kindL l = 2 := by have := kind_le l; omega
theorem real_len {l : L} (h : kindL l ≠ 0) : l.length ≤ 36 := by
  rcases kind_cases h with h | h
  · have := labs_len (kind_one h); omega
  · obtain ⟨t, rfl, ht⟩ := kind_two' h
    have := labs_len ht
    simp only [List.length_cons]; omega
end Go.Proofs.Yteeabfplnaknfaa.Tr
end

section
set_option linter.unusedVariables false
namespace Go.Proofs.Yteeabfplnaknfaa.Ms
open Go.Proofs.Yteeabfplnaknfaa.DerP
open Go.Proofs.Yteeabfplnaknfaa.Nm (princL isL tgL wordL wordB kindL)

abbrev Pr := L × L
structure Tk where
  s : Pr
  k : Int
  b : L
deriving DecidableEq
structure Pt where
  c : Pr
  ss : L
  tr : L
  st : Int
  en : Int
deriving DecidableEq
structure As where
  c : Pr
  s : Pr
  t : Int
  no : Int
deriving DecidableEq
structure Tg where
  t : Tk
  a : L
  s : Pr
  u : Int
  no : Int
deriving DecidableEq
structure Re where
  c : Pr
  t : Tk
  b : L
deriving DecidableEq
structure Ap where
  t : Tk
  a : L
deriving DecidableEq
structure Fa where
  e : Int
  no : Int
deriving DecidableEq
structure Mg where
  k : Int
  aq : As
  tg : Tg
  re : Re
  ap : Ap
  fa : Fa
deriving DecidableEq

def pr0 : Pr := ([], [])
def tk0 : Tk := ⟨pr0, 0, []⟩
def as0 : As := ⟨pr0, pr0, 0, 0⟩
def tg0 : Tg := ⟨tk0, [], pr0, 0, 0⟩
def re0 : Re := ⟨pr0, tk0, []⟩
def ap0 : Ap := ⟨tk0, []⟩
def fa0 : Fa := ⟨0, 0⟩
def key0 : L := List.replicate 32 0
def pt0 : Pt := ⟨pr0, key0, [], 0, 0⟩
def inB (n a b : Int) : Bool := decide (a ≤ n) && decide (n ≤ b)
def blobB (b : L) : Bool := decide (1 ≤ b.length) && decide (b.length ≤ 800)
def prB (p : Pr) : Bool := princL p.1 p.2
def tmB (n : Int) : Bool := inB n 0 1073741824
def tkB (t : Tk) : Bool := prB t.s && (inB t.k 1 255 && blobB t.b)
def txtB (l : L) : Bool := l.all fun x => decide (32 ≤ x.toNat) && decide (x.toNat ≤ 126)
def ptB (p : Pt) : Bool := txtB p.tr && (prB p.c && (decide (p.tr.length ≤ 300) && (tmB p.st && tmB p.en)))
def asB (q : As) : Bool := prB q.c && (prB q.s && (tmB q.t && tmB q.no))
def tgB (q : Tg) : Bool := tkB q.t && (blobB q.a && (prB q.s && (tmB q.u && tmB q.no)))
def reB (q : Re) : Bool := prB q.c && (tkB q.t && blobB q.b)
def apB (q : Ap) : Bool := tkB q.t && blobB q.a
def faB (q : Fa) : Bool := inB q.e 1 255 && tmB q.no
def mgB (m : Mg) : Bool :=
  if m.k = 1 then asB m.aq && decide (m = ⟨1, m.aq, tg0, re0, ap0, fa0⟩)
  else if m.k = 2 then tgB m.tg && decide (m = ⟨2, as0, m.tg, re0, ap0, fa0⟩)
  else if m.k = 3 then reB m.re && decide (m = ⟨3, as0, tg0, m.re, ap0, fa0⟩)
  else if m.k = 4 then apB m.ap && decide (m = ⟨4, as0, tg0, re0, m.ap, fa0⟩)
  else if m.k = 5 then faB m.fa && decide (m = ⟨5, as0, tg0, re0, ap0, m.fa⟩)
  else false

def prE (p : Pr) : L := elem 48 [elem 27 p.1, elem 27 p.2].flatten
def tkE (t : Tk) : L := elem 97 [prE t.s, encI t.k, elem 4 t.b].flatten
def ptE (p : Pt) : L := elem 99 [prE p.c, elem 4 p.ss, elem 27 p.tr, encI p.st, encI p.en].flatten
def asE (q : As) : L := elem 106 [prE q.c, prE q.s, encI q.t, encI q.no].flatten
def tgE (q : Tg) : L := elem 108 [tkE q.t, elem 4 q.a, prE q.s, encI q.u, encI q.no].flatten
def reE (q : Re) : L := elem 107 [prE q.c, tkE q.t, elem 4 q.b].flatten
def apE (q : Ap) : L := elem 110 [tkE q.t, elem 4 q.a].flatten
def faE (q : Fa) : L := elem 126 [encI q.e, encI q.no].flatten
def mgE (m : Mg) : L := if m.k = 1 then asE m.aq else if m.k = 2 then tgE m.tg else if m.k = 3 then reE m.re else if m.k = 4 then apE m.ap else faE m.fa
def limO (ok : Bool) (l : L) : Option L := if ok = true ∧ l.length ≤ 2000 then some l else none
def mgO (m : Mg) : Option L := limO (mgB m) (mgE m)
def ptO (p : Pt) : Option L := limO (ptB p) (ptE p)
def whC (c : Option L) : Bool := decide (c = some [])
def txC (c : Option L) : L := (bodyC 27 c).getD []
def ocC (c : Option L) : L := (bodyC 4 c).getD []
def prI (d : Option L) : Pr := (txC d, txC (nextC 27 d))
def prP (c : Option L) : Pr × Option L := (prI (bodyC 48 c), if whC (nextC 27 (nextC 27 (bodyC 48 c))) then nextC 48 c else none)
def nmP (c : Option L) : Int × Option L := (((intC c).1 : Int), (intC c).2)
def keP (c : Option L) : L × Option L := if (ocC c).length = 32 then (ocC c, nextC 4 c) else (key0, none)
def ptP (b : L) : Pt × Option L :=
  let c1 := prP (bodyC 99 (some b)); let c2 := keP c1.2; let c3 := nextC 27 c2.2; let c4 := nmP c3; let c5 := nmP c4.2
  (⟨c1.1, c2.1, txC c2.2, c4.1, c5.1⟩, c5.2)
def ptD (b : L) : Option Pt := if ptO (ptP b).1 = some b then some (ptP b).1 else none
theorem elem_len (t : UInt8) (p : L) : (elem t p).length ≤ p.length + 4 := by
  rw [length_elem, length_szL]; split
  · omega
  · split <;> omega
theorem encI_le (n : Int) : (encI n).length ≤ 12 := by
  have := elem_len 2 (dig (clampN n)); have := encI_len n; rw [encI]; omega
theorem name_len {n : L} (h : (tgL n || wordL wordB n) = true) : n.length ≤ 43 := by
  rw [Bool.or_eq_true] at h
  rcases h with h | h
  · rw [Nm.tgL, Bool.and_eq_true] at h
    have h1 : kindL (Nm.cpL Nm.krb n) ≠ 0 := by have := h.2; simp only [isL, decide_eq_true_eq] at this; omega
    have h2 := Tr.real_len h1
    have h3 : Nm.cpL Nm.krb n = n.drop 7 := by rw [Nm.cpL, h.1]; rfl
    rw [h3, List.length_drop] at h2
    omega
  · have := (Nm.wordL_iff _ _).1 h
    omega
theorem pr_len {p : Pr} (h : prB p = true) : p.1.length ≤ 36 ∧ p.2.length ≤ 43 := by
  rw [prB, princL, Bool.and_eq_true] at h
  refine ⟨Tr.real_len ?_, name_len h.2⟩
  have := h.1
  simp only [isL, decide_eq_true_eq] at this
  omega
theorem flat2 (a b : L) : [a, b].flatten = a ++ b := by simp
theorem flat3 (a b c : L) : [a, b, c].flatten = a ++ (b ++ c) := by simp
theorem flat4 (a b c d : L) : [a, b, c, d].flatten = a ++ (b ++ (c ++ d)) := by simp
theorem flat5 (a b c d e : L) : [a, b, c, d, e].flatten = a ++ (b ++ (c ++ (d ++ e))) := by simp
theorem prE_len {p : Pr} (h : prB p = true) : (prE p).length ≤ 91 ∧ [elem 27 p.1, elem 27 p.2].flatten.length ≤ 87 := by
  have h1 := pr_len h
  have h2 := elem_len 27 p.1
  have h3 := elem_len 27 p.2
  have h4 := elem_len 48 [elem 27 p.1, elem 27 p.2].flatten
  have h5 : [elem 27 p.1, elem 27 p.2].flatten.length = (elem 27 p.1).length + (elem 27 p.2).length := by simp
  rw [prE]; omega
theorem tk_parts {t : Tk} (h : tkB t = true) : prB t.s = true ∧ (1 ≤ t.k ∧ t.k ≤ 255) ∧ (1 ≤ t.b.length ∧ t.b.length ≤ 800) := by
  simpa [tkB, inB, blobB] using h
theorem tkE_len {t : Tk} (h : tkB t = true) : (tkE t).length ≤ 911 ∧ [prE t.s, encI t.k, elem 4 t.b].flatten.length ≤ 907 := by
  obtain ⟨h1, _, h2⟩ := tk_parts h
  have h3 := (prE_len h1).1
  have h4 := encI_le t.k
  have h5 := elem_len 4 t.b
  have h6 := elem_len 97 [prE t.s, encI t.k, elem 4 t.b].flatten
  have h7 : [prE t.s, encI t.k, elem 4 t.b].flatten.length = (prE t.s).length + ((encI t.k).length + (elem 4 t.b).length) := by simp
  rw [tkE]; omega

section
variable {t : UInt8} {p r : L}
theorem be (h : p.length ≤ 65535) (r : L) : bodyC t (some (elem t p ++ r)) = some p := (body_some (split_elem t p r h)).1
theorem ne (h : p.length ≤ 65535) (r : L) : nextC t (some (elem t p ++ r)) = some r := (body_some (split_elem t p r h)).2
theorem be0 (h : p.length ≤ 65535) : bodyC t (some (elem t p)) = some p := by have := be (t := t) h []; rwa [List.append_nil] at this
theorem ne0 (h : p.length ≤ 65535) : nextC t (some (elem t p)) = some [] := by have := ne (t := t) h []; rwa [List.append_nil] at this
theorem tx_at (h : p.length ≤ 65535) (r : L) : txC (some (elem 27 p ++ r)) = p := by rw [txC, be h]; rfl
theorem tx_at0 (h : p.length ≤ 65535) : txC (some (elem 27 p)) = p := by rw [txC, be0 h]; rfl
theorem oc_at (h : p.length ≤ 65535) (r : L) : ocC (some (elem 4 p ++ r)) = p := by rw [ocC, be h]; rfl
end
theorem nm_back {n : Int} (h0 : 0 ≤ n) (h1 : n ≤ 4611686018427387904) (r : L) : nmP (some (encI n ++ r)) = (n, some r) := by
  rw [nmP, int_enc, clampN_of n h0 h1]
  congr 1
  omega
theorem nm_back0 {n : Int} (h0 : 0 ≤ n) (h1 : n ≤ 4611686018427387904) : nmP (some (encI n)) = (n, some []) := by
  have := nm_back h0 h1 []; rwa [List.append_nil] at this
theorem pr_back {p : Pr} (h : prB p = true) (r : L) : prP (some (prE p ++ r)) = (p, some r) := by
  have h1 := pr_len h
  have h2 := (prE_len h).2
  rw [prP, prE, be (by omega), ne (by omega), flat2, prI, tx_at (by omega), ne (by omega), tx_at0 (by omega), ne0 (by omega)]
  rfl
theorem ke_back {k : L} (h : k.length = 32) (r : L) : keP (some (elem 4 k ++ r)) = (k, some r) := by
  rw [keP, oc_at (by omega), if_pos h, ne (by omega)]
theorem tm_parts {n : Int} (h : tmB n = true) : 0 ≤ n ∧ n ≤ 1073741824 := by simpa [tmB, inB] using h
theorem pt_parts {p : Pt} (h : ptB p = true) : txtB p.tr = true ∧ prB p.c = true ∧ p.tr.length ≤ 300 ∧ tmB p.st = true ∧ tmB p.en = true := by
  simpa [ptB] using h
theorem pt_back {p : Pt} (h : ptB p = true) (hk : p.ss.length = 32) : ptP (ptE p) = (p, some []) := by
  obtain ⟨_, h2, h3, h4, h5⟩ := pt_parts h
  have t4 := tm_parts h4; have t5 := tm_parts h5
  have l1 := (prE_len h2).1
  have l2 := elem_len 4 p.ss
  have l3 := elem_len 27 p.tr
  have l4 := encI_le p.st
  have l5 := encI_le p.en
  have l6 : [prE p.c, elem 4 p.ss, elem 27 p.tr, encI p.st, encI p.en].flatten.length ≤ 65535 := by simp only [List.flatten_cons, List.flatten_nil, List.length_append, List.length_nil]; omega
  rw [ptP, ptE, be0 l6, flat5, pr_back h2]
  simp only
  rw [ke_back hk]
  simp only
  rw [tx_at (by omega), ne (by omega), nm_back (by omega) (by omega)]
  simp only
  rw [nm_back0 (by omega) (by omega)]
theorem blob_parts {b : L} (h : blobB b = true) : 1 ≤ b.length ∧ b.length ≤ 800 := by simpa [blobB] using h
theorem mg_cases {m : Mg} (h : mgB m = true) :
    (asB m.aq = true ∧ m = ⟨1, m.aq, tg0, re0, ap0, fa0⟩) ∨ (tgB m.tg = true ∧ m = ⟨2, as0, m.tg, re0, ap0, fa0⟩) ∨ (reB m.re = true ∧ m = ⟨3, as0, tg0, m.re, ap0, fa0⟩) ∨
    (apB m.ap = true ∧ m = ⟨4, as0, tg0, re0, m.ap, fa0⟩) ∨ (faB m.fa = true ∧ m = ⟨5, as0, tg0, re0, ap0, m.fa⟩) := by
  unfold mgB at h
  split at h
  · rw [Bool.and_eq_true, decide_eq_true_eq] at h; exact .inl h
  · split at h
    · rw [Bool.and_eq_true, decide_eq_true_eq] at h; exact .inr (.inl h)
    · split at h
      · rw [Bool.and_eq_true, decide_eq_true_eq] at h; exact .inr (.inr (.inl h))
      · split at h
        · rw [Bool.and_eq_true, decide_eq_true_eq] at h; exact .inr (.inr (.inr (.inl h)))
        · split at h
          · rw [Bool.and_eq_true, decide_eq_true_eq] at h; exact .inr (.inr (.inr (.inr h)))
          · cases h
theorem lim_iff {ok : Bool} {l b : L} : limO ok l = some b ↔ ok = true ∧ l.length ≤ 2000 ∧ l = b := by
  unfold limO
  split
  · rename_i h
    exact ⟨fun e => ⟨h.1, h.2, Option.some.inj e⟩, fun e => by rw [e.2.2]⟩
  · rename_i h
    exact ⟨fun e => by (cases e), fun e => False.elim (h (And.intro e.1 e.2.1))⟩
theorem pt_iff {b : L} {p : Pt} (hk : p.ss.length = 32) : ptD b = some p ↔ ptO p = some b := by
  unfold ptD
  constructor
  · intro h
    split at h
    · rename_i h2; injection h with h; rw [← h]; exact h2
    · cases h
  · intro h
    have h2 := lim_iff.1 h
    have e : (ptP b).1 = p := by rw [← h2.2.2, pt_back h2.1 hk]
    rw [e, if_pos h]
theorem ke_len (c : Option L) : (keP c).1.length = 32 := by
  unfold keP
  split
  · assumption
  · rfl
theorem pt_ok {b : L} {p : Pt} (h : ptD b = some p) : ptO p = some b ∧ (ptP b) = (p, some []) := by
  unfold ptD at h
  split at h
  · rename_i h2
    injection h with h
    have hk : p.ss.length = 32 := by rw [← h]; exact ke_len _
    rw [h] at h2
    have h3 := lim_iff.1 h2
    exact ⟨h2, by rw [← h3.2.2]; exact pt_back h3.1 hk⟩
  · cases h
end Go.Proofs.Yteeabfplnaknfaa.Ms
end

section
set_option linter.unusedVariables false
namespace Go.Proofs.Yteeabfplnaknfaa.Ms
open Go.RowKit Go.Proofs.Yteeabfplnaknfaa.Mem Go.Proofs.Yteeabfplnaknfaa.DerP

abbrev prV (p : Pr) : Value := .agg #[.string ⟨p.1.toArray⟩, .string ⟨p.2.toArray⟩]
def SlB (w : World) (B : Nat) (v : Value) (l : L) : Prop := ∃ A c, v = .slice A l.length c ∧ l.length ≤ c ∧ Rd w B A (bvs l)
theorem SlB.keep {w w' : World} {B : Nat} {v : Value} {l : L} (h : SlB w B v l) (hb : Below B w w') : SlB w' B v l := by
  obtain ⟨A, c, h1, h2, h3⟩ := h
  exact ⟨A, c, h1, h2, h3.below hb⟩
theorem SlB.more {w : World} {B B' : Nat} {v : Value} {l : L} (h : SlB w B v l) (hB : B ≤ B') : SlB w B' v l := by
  obtain ⟨A, c, h1, h2, h3⟩ := h
  exact ⟨A, c, h1, h2, h3.more hB⟩
theorem SlB.nil (w : World) (B : Nat) : SlB w B (.slice none 0 0) [] := ⟨none, 0, rfl, Nat.le_refl _, .inl rfl⟩
def prC (p : Pr) : List Value := [.string ⟨p.1.toArray⟩, .string ⟨p.2.toArray⟩]
def tkC (t : Tk) (b : Value) : List Value := [.string ⟨t.s.1.toArray⟩, .string ⟨t.s.2.toArray⟩, .int .i64 t.k, b]
def asC (q : As) : List Value := [.string ⟨q.c.1.toArray⟩, .string ⟨q.c.2.toArray⟩, .string ⟨q.s.1.toArray⟩, .string ⟨q.s.2.toArray⟩, .int .i64 q.t, .int .i64 q.no]
def tgC (q : Tg) (b a : Value) : List Value := tkC q.t b ++ [a, .string ⟨q.s.1.toArray⟩, .string ⟨q.s.2.toArray⟩, .int .i64 q.u, .int .i64 q.no]
def reC (q : Re) (b d : Value) : List Value := prC q.c ++ (tkC q.t b ++ [d])
def apC (q : Ap) (b a : Value) : List Value := tkC q.t b ++ [a]
def faC (q : Fa) : List Value := [.int .i64 q.e, .int .i64 q.no]
def ptC (p : Pt) : List Value := prC p.c ++ (bvs p.ss ++ [.string ⟨p.tr.toArray⟩, .int .i64 p.st, .int .i64 p.en])
structure Six where
  b1 : Value
  a1 : Value
  b2 : Value
  d2 : Value
  b3 : Value
  a3 : Value
structure SixR (w : World) (B : Nat) (m : Mg) (s : Six) : Prop where
  b1 : SlB w B s.b1 m.tg.t.b
  a1 : SlB w B s.a1 m.tg.a
  b2 : SlB w B s.b2 m.re.t.b
  d2 : SlB w B s.d2 m.re.b
  b3 : SlB w B s.b3 m.ap.t.b
  a3 : SlB w B s.a3 m.ap.a
theorem SixR.keep {w w' : World} {B : Nat} {m : Mg} {s : Six} (h : SixR w B m s) (hb : Below B w w') : SixR w' B m s := ⟨h.b1.keep hb, h.a1.keep hb, h.b2.keep hb, h.d2.keep hb, h.b3.keep hb, h.a3.keep hb⟩

theorem rd_on {w w' : World} {A : Option Addr} {l : L} (h : Rd w w.heap.size A (bvs l)) (hb : Below w.heap.size w w') : Rd w' w'.heap.size A (bvs l) := (h.below hb).more hb.size
section
variable {w : World} {t : TypeId} {A1 A2 A3 A4 A5 : Option Addr} {l1 l2 l3 l4 l5 : L} {c1 c2 c3 c4 c5 : Nat}
theorem lay_two (h1 : Rd w w.heap.size A1 (bvs l1)) (h2 : Rd w w.heap.size A2 (bvs l2)) :
    DerW.Rds (w.alloc (.cells #[.slice A1 l1.length c1, .slice A2 l2.length c2] t)) (w.heap.size + 1) (some ⟨w.heap.size, 0, none⟩) [l1, l2] := by
  refine .inr ⟨w.heap.size, 0, rfl, by omega, fun i l hi => ?_⟩
  match i, hi with
  | 0, hi => injection hi with hi; subst hi; exact ⟨A1, c1, (Blk.new w t _).cell 0, (h1.alloc (Nat.le_refl _) _).more (by omega)⟩
  | 1, hi => injection hi with hi; subst hi; exact ⟨A2, c2, (Blk.new w t _).cell 1, (h2.alloc (Nat.le_refl _) _).more (by omega)⟩
  | i + 2, hi => rw [List.getElem?_eq_none (by simp)] at hi; cases hi
theorem lay_three (h1 : Rd w w.heap.size A1 (bvs l1)) (h2 : Rd w w.heap.size A2 (bvs l2)) (h3 : Rd w w.heap.size A3 (bvs l3)) :
    DerW.Rds (w.alloc (.cells #[.slice A1 l1.length c1, .slice A2 l2.length c2, .slice A3 l3.length c3] t)) (w.heap.size + 1) (some ⟨w.heap.size, 0, none⟩) [l1, l2, l3] := by
  refine .inr ⟨w.heap.size, 0, rfl, by omega, fun i l hi => ?_⟩
  match i, hi with
  | 0, hi => injection hi with hi; subst hi; exact ⟨A1, c1, (Blk.new w t _).cell 0, (h1.alloc (Nat.le_refl _) _).more (by omega)⟩
  | 1, hi => injection hi with hi; subst hi; exact ⟨A2, c2, (Blk.new w t _).cell 1, (h2.alloc (Nat.le_refl _) _).more (by omega)⟩
  | 2, hi => injection hi with hi; subst hi; exact ⟨A3, c3, (Blk.new w t _).cell 2, (h3.alloc (Nat.le_refl _) _).more (by omega)⟩
  | i + 3, hi => rw [List.getElem?_eq_none (by simp)] at hi; cases hi
theorem lay_four (h1 : Rd w w.heap.size A1 (bvs l1)) (h2 : Rd w w.heap.size A2 (bvs l2)) (h3 : Rd w w.heap.size A3 (bvs l3)) (h4 : Rd w w.heap.size A4 (bvs l4)) :
    DerW.Rds (w.alloc (.cells #[.slice A1 l1.length c1, .slice A2 l2.length c2, .slice A3 l3.length c3, .slice A4 l4.length c4] t)) (w.heap.size + 1) (some ⟨w.heap.size, 0, none⟩) [l1, l2, l3, l4] := by
  refine .inr ⟨w.heap.size, 0, rfl, by omega, fun i l hi => ?_⟩
  match i, hi with
  | 0, hi => injection hi with hi; subst hi; exact ⟨A1, c1, (Blk.new w t _).cell 0, (h1.alloc (Nat.le_refl _) _).more (by omega)⟩
  | 1, hi => injection hi with hi; subst hi; exact ⟨A2, c2, (Blk.new w t _).cell 1, (h2.alloc (Nat.le_refl _) _).more (by omega)⟩
  | 2, hi => injection hi with hi; subst hi; exact ⟨A3, c3, (Blk.new w t _).cell 2, (h3.alloc (Nat.le_refl _) _).more (by omega)⟩
  | 3, hi => injection hi with hi; subst hi; exact ⟨A4, c4, (Blk.new w t _).cell 3, (h4.alloc (Nat.le_refl _) _).more (by omega)⟩
  | i + 4, hi => rw [List.getElem?_eq_none (by simp)] at hi; cases hi
theorem lay_five (h1 : Rd w w.heap.size A1 (bvs l1)) (h2 : Rd w w.heap.size A2 (bvs l2)) (h3 : Rd w w.heap.size A3 (bvs l3)) (h4 : Rd w w.heap.size A4 (bvs l4)) (h5 : Rd w w.heap.size A5 (bvs l5)) :
    DerW.Rds (w.alloc (.cells #[.slice A1 l1.length c1, .slice A2 l2.length c2, .slice A3 l3.length c3, .slice A4 l4.length c4, .slice A5 l5.length c5] t)) (w.heap.size + 1) (some ⟨w.heap.size, 0, none⟩) [l1, l2, l3, l4, l5] := by
  refine .inr ⟨w.heap.size, 0, rfl, by omega, fun i l hi => ?_⟩
  match i, hi with
  | 0, hi => injection hi with hi; subst hi; exact ⟨A1, c1, (Blk.new w t _).cell 0, (h1.alloc (Nat.le_refl _) _).more (by omega)⟩
  | 1, hi => injection hi with hi; subst hi; exact ⟨A2, c2, (Blk.new w t _).cell 1, (h2.alloc (Nat.le_refl _) _).more (by omega)⟩
  | 2, hi => injection hi with hi; subst hi; exact ⟨A3, c3, (Blk.new w t _).cell 2, (h3.alloc (Nat.le_refl _) _).more (by omega)⟩
  | 3, hi => injection hi with hi; subst hi; exact ⟨A4, c4, (Blk.new w t _).cell 3, (h4.alloc (Nat.le_refl _) _).more (by omega)⟩
  | 4, hi => injection hi with hi; subst hi; exact ⟨A5, c5, (Blk.new w t _).cell 4, (h5.alloc (Nat.le_refl _) _).more (by omega)⟩
  | i + 5, hi => rw [List.getElem?_eq_none (by simp)] at hi; cases hi
end
end Go.Proofs.Yteeabfplnaknfaa.Ms
end

section
set_option linter.unusedVariables false
namespace Go.Proofs.Yteeabfplnaknfaa.Ms
open Go.RowKit Go.Proofs.Yteeabfplnaknfaa.Mem Go.Proofs.Yteeabfplnaknfaa.DerP

theorem rin_any (n a b : Int) (w : World) : Calls Try.prog 20 #[.int .i64 n, .int .i64 a, .int .i64 b] w fun e w' => e = .returned (.bool (inB n a b)) ∧ w = w' := by
  cases h1 : decide (a ≤ n) with
  | false =>
    go_enter Try.func20, Try.ntmps20
    go_wp2
    go_ret
    exact ⟨by rw [inB, h1]; rfl, rfl⟩
  | true =>
    go_enter Try.func20, Try.ntmps20
    go_wp2
    go_ret
    exact ⟨by rw [inB, h1]; rfl, rfl⟩
theorem rtm_any (n : Int) (w : World) : Calls Try.prog 20 #[.int .i64 n, .int .i64 0, .int .i64 1073741824] w fun e w' => e = .returned (.bool (tmB n)) ∧ w = w' := rin_any n 0 1073741824 w
theorem blob_in (b : L) : inB (b.length : Int) 1 800 = blobB b := by
  rw [inB, blobB]
  have e1 : decide ((1 : Int) ≤ (b.length : Int)) = decide (1 ≤ b.length) := by rw [decide_eq_decide]; omega
  have e2 : decide ((b.length : Int) ≤ 800) = decide (b.length ≤ 800) := by rw [decide_eq_decide]; omega
  rw [e1, e2]
theorem rblob_any (b : L) (A : Option Addr) (c : Nat) (w : World) : Calls Try.prog 19 #[.slice A b.length c] w fun e w' => e = .returned (.bool (blobB b)) ∧ w = w' := by
  have c1 := rin_any (b.length : Int) 1 800 w
  rw [blob_in] at c1
  go_enter Try.func19, Try.ntmps19
  go_wp2_with (go_at_call 20; refine Calls.mono c1 ?_; rintro e w1 ⟨rfl, rfl⟩)
  go_ret
  exact ⟨rfl, rfl⟩
theorem isprinc_any (p : Pr) (w : World) (h1 : p.1.length ≤ 1000000000) (h2 : p.2.length ≤ 1000000000) : Calls Try.prog 17 #[prV p] w fun e w' => e = .returned (.bool (prB p)) ∧ Below w.heap.size w w' := Nm.risprinc_any p.1 p.2 w h1 h2
def pSm (p : Pr) : Prop := p.1.length ≤ 1000000000 ∧ p.2.length ≤ 1000000000
set_option maxHeartbeats 1600000 in
theorem rticket_any (t : Tk) (A : Option Addr) (c : Nat) (w : World) (hs : pSm t.s) : Calls Try.prog 18 #[.agg #[.string ⟨t.s.1.toArray⟩, .string ⟨t.s.2.toArray⟩, .int .i64 t.k, .slice A t.b.length c]] w fun e w' => e = .returned (.bool (tkB t)) ∧ Below w.heap.size w w' := by
  have hb0 := (Below.refl w.heap.size w).alloc (Nat.le_refl _) (.cells #[.string ⟨t.s.1.toArray⟩, .string ⟨t.s.2.toArray⟩, .int .i64 t.k, .slice A t.b.length c] 28)
  have HB := Lib.hid hb0
  have HK := Lib.hid (Blk.new w 28 #[.string ⟨t.s.1.toArray⟩, .string ⟨t.s.2.toArray⟩, .int .i64 t.k, .slice A t.b.length c])
  have c1 := isprinc_any t.s (w.alloc (.cells #[.string ⟨t.s.1.toArray⟩, .string ⟨t.s.2.toArray⟩, .int .i64 t.k, .slice A t.b.length c] 28)) hs.1 hs.2
  have C2 := Lib.hid (fun w1 => rin_any t.k 1 255 w1)
  have C3 := Lib.hid (fun w1 => rblob_any t.b A c w1)
  unfold prV at c1
  clear hb0
  cases h1 : prB t.s with
  | false =>
    rw [h1] at c1
    have E := Lib.hid (show tkB t = false by rw [tkB, h1]; rfl)
    clear h1
    go_enter Try.func18, Try.ntmps18
    go_wp2_with (go_at_call 17; refine Calls.mono c1 ?_; rintro e w1 ⟨rfl, hb⟩; replace HB := Lib.hid (HB.out.trans (hb.mono HB.out.size)); clear hb c1)
    go_ret
    exact ⟨by rw [E.out]; rfl, HB.out⟩
  | true =>
    rw [h1] at c1
    cases h2 : inB t.k 1 255 with
    | false =>
      rw [h2] at C2
      have E := Lib.hid (show tkB t = false by rw [tkB, h1, h2]; rfl)
      clear h1 h2
      go_enter Try.func18, Try.ntmps18
      go_wp2_with (first
        | (go_at_call 17; refine Calls.mono c1 ?_; rintro e w1 ⟨rfl, hb⟩; replace HK := Lib.hid (HK.out.below hb); replace HB := Lib.hid (HB.out.trans (hb.mono HB.out.size)); clear hb c1; have k2 := HK.out.cell 2; simp only [List.getElem?_toArray, List.getElem?_cons_zero, List.getElem?_cons_succ] at k2)
        | (go_at_call 20; refine Calls.mono (C2.out _) ?_; rintro e w2 ⟨rfl, rfl⟩))
      go_ret
      exact ⟨by rw [E.out]; rfl, HB.out⟩
    | true =>
      rw [h2] at C2
      have E := Lib.hid (show tkB t = blobB t.b by rw [tkB, h1, h2]; rfl)
      clear h1 h2
      go_enter Try.func18, Try.ntmps18
      go_wp2_with (first
        | (go_at_call 17; refine Calls.mono c1 ?_; rintro e w1 ⟨rfl, hb⟩; replace HK := Lib.hid (HK.out.below hb); replace HB := Lib.hid (HB.out.trans (hb.mono HB.out.size)); clear hb c1; have k2 := HK.out.cell 2; have k3 := HK.out.cell 3; simp only [List.getElem?_toArray, List.getElem?_cons_zero, List.getElem?_cons_succ] at k2 k3)
        | (go_at_call 20; refine Calls.mono (C2.out _) ?_; rintro e w2 ⟨rfl, rfl⟩)
        | (go_at_call 19; refine Calls.mono (C3.out _) ?_; rintro e w3 ⟨rfl, rfl⟩))
      go_ret
      exact ⟨by rw [E.out]; rfl, HB.out⟩
end Go.Proofs.Yteeabfplnaknfaa.Ms
end

section
set_option linter.unusedVariables false
namespace Go.Proofs.Yteeabfplnaknfaa.Ms
open Go.RowKit Go.Proofs.Yteeabfplnaknfaa.Mem Go.Proofs.Yteeabfplnaknfaa.DerP Go.Proofs.Yteeabfplnaknfaa.DerR

theorem gives_on {w0 w : World} {l : L} {e : Ending} {w' : World} (h : Gives w l e w') (hb : Below w0.heap.size w0 w) : Gives w0 l e w' := by
  obtain ⟨⟨g, c, h1, h2, h3, h4⟩, h5⟩ := h
  exact ⟨⟨g, c, h1, Nat.le_trans hb.size h2, h3, h4⟩, hb.trans (h5.mono hb.size)⟩
end Go.Proofs.Yteeabfplnaknfaa.Ms
end
