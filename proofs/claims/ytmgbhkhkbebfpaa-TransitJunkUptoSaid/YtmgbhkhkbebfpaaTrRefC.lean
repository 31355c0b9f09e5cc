/-
  The document's own answer of chapter 6: Compress.
-/
import Derived.Test.YtmgbhkhkbebfpaaTrRef
import Derived.Test.YtmgbhkhkbebfpaaTrComp
set_option linter.unusedVariables false
namespace Go.Proofs.Ytmgbhkhkbebfpaa.Tr
open Go.RowKit Go.Proofs.Ytmgbhkhkbebfpaa.Mem Go.Proofs.Ytmgbhkhkbebfpaa.Nm
attribute [local go_sem] mk_at List.getElem_cons_zero List.getElem_cons_succ ext_tail ext_drop ext_mid ext_take

set_option maxHeartbeats 3200000 in
set_option maxRecDepth 100000 in
theorem rcomp_any (ls : List L) (A : Option Addr) (c : Nat) (w : World) (hl : ls.length ≤ 9000000000000000) (hr : Rd w w.heap.size A (strs ls)) (hs : ∀ i, i < ls.length → (pl ls i).length ≤ 1000000000) :
    Calls Try.prog 15 #[.slice A ls.length c] w fun e w' => e = .returned (.tuple #[.string ⟨(compL ls).1.toArray⟩, .int .i64 ((compL ls).2 : Int)]) ∧ Below w.heap.size w w' := by
  have HR := Lib.hid hr; clear hr
  have HS := Lib.hid hs; clear hs
  obtain ⟨N, eN⟩ : ∃ N, N = w.heap.size := ⟨_, rfl⟩
  rw [← eN] at HR ⊢
  have HB0 := Lib.hid (show Below N w w by exact Below.refl _ _)
  have EN := Lib.hid eN; clear eN
  have HN := Lib.hid (show ∀ w1 : World, Below N w w1 → N ≤ w1.heap.size from fun w1 h => by have := h.size; have := EN.out; omega)
  have IS := Lib.hid (fun (i : Nat) (h : i < ls.length) w1 => ris_any (pl ls i) w1 (HS.out i h))
  obtain ⟨n, en⟩ : ∃ n, n = ls.length := ⟨_, rfl⟩
  rw [← en] at hl ⊢
  have EL := Lib.hid en; clear en
  go_enter Try.func15, Try.ntmps15
  go_wp2
  go_loopw [4] (fun iv wr => ∃ i : Nat, i ≤ n ∧ iv = .int .i64 (i : Int) ∧ (ls.take i).all isL = true ∧ Below N w wr) (fun iv _ => n - (intOf iv).toNat)
  case atStart => exact ⟨0, Nat.zero_le _, rfl, by simp, HB0.out⟩
  case round =>
    obtain ⟨i, hi, rfl, ha, hb⟩ := hrel
    have HA := Lib.hid ha; clear ha
    have HB := Lib.hid hb; clear hb
    by_cases hlt : i < n
    · have e1 : (i : Int) < (n : Int) := by omega
      have e2 : (0 : Int) ≤ (i : Int) := by omega
      have him : i < ls.length := by rw [← EL.out]; exact hlt
      have c1 := IS.out i him wr
      have h1 := rd_txt (HR.out.below HB.out) him
      obtain ⟨b, o, rfl, _, h1⟩ := h1
      cases hx : isL (pl ls i) with
      | false =>
        rw [hx] at c1
        have E := Lib.hid (comp_bad (all_bad him hx))
        clear hx him
        go_wp2_with (go_at_call 23; refine Calls.mono c1 ?_; rintro e w1 ⟨rfl, hb⟩; clear c1; have H1 := Lib.hid (HB.out.trans (hb.mono (HN.out _ HB.out))); clear hb)
        go_ret2
        exact ⟨by rw [E.out]; rfl, H1.out⟩
      | true =>
        rw [hx] at c1
        have HX := Lib.hid (all_take HA.out him hx)
        clear hx him
        go_wp2_with (go_at_call 23; refine Calls.mono c1 ?_; rintro e w1 ⟨rfl, hb⟩; clear c1; have H1 := Lib.hid (HB.out.trans (hb.mono (HN.out _ HB.out))); clear hb)
        go_roundw
        case rel => exact ⟨i + 1, by omega, by go_num, HX.out, H1.out⟩
        case measure => simp [intOf]; omega
    · have e1 : ¬ (i : Int) < (n : Int) := by omega
      have ha : ls.all isL = true := by
        have := HA.out
        rwa [List.take_of_length_le (by have := EL.out; omega)] at this
      clear HA
      by_cases h8 : 8 < n
      · have g8 : decide (8 < (n : Int)) = true := by simp; omega
        have E := Lib.hid (comp_full ha (by rw [← EL.out]; exact h8))
        clear h8 ha
        go_wp2
        go_ret2
        exact ⟨by rw [E.out]; rfl, HB.out⟩
      · have g8 : decide (8 < (n : Int)) = false := by simp; omega
        have hn8 : n ≤ 8 := by omega
        have E := Lib.hid (comp_ok ha (by rw [← EL.out]; exact hn8))
        have HC := Lib.hid (show ∀ k, (compK ls k).length ≤ 304 from fun k => by have := compK_len ha k; have := EL.out; omega)
        have HK := Lib.hid (show ∀ i, i < n → kindL (pl ls i) ≠ 0 from fun i hi => all_isL ha (pl_mem (by rw [← EL.out]; exact hi)))
        clear h8 ha
        go_wp2
        go_loopw [5, 6] (fun sv iv wr => ∃ k : Nat, k ≤ n ∧ iv = .int .i64 (k : Int) ∧ sv = .string ⟨(compK ls k).toArray⟩ ∧ Below N w wr) (fun _ iv _ => n - (intOf iv).toNat)
        case atStart => exact ⟨0, Nat.zero_le _, rfl, by rw [comp_zero], HB.out⟩
        case round =>
          obtain ⟨k, hk, rfl, rfl, hb⟩ := hrel
          replace HB := Lib.hid hb; clear hb
          by_cases hlt : k < n
          · have e1 : (k : Int) < (n : Int) := by omega
            have e2 : (0 : Int) ≤ (k : Int) := by omega
            have hkm : k < ls.length := by rw [← EL.out]; exact hlt
            have hkind := HK.out k hlt
            have hkl := real_len hkind
            have hcl := HC.out k
            have c1 := rkind_any (pl ls k) wr (by omega)
            by_cases hk0 : k = 0
            · subst hk0
              have h1 := rd_txt (HR.out.below HB.out) hkm
              obtain ⟨b, o, rfl, _, h1⟩ := h1
              have h1' := h1
              rw [Nat.add_zero] at h1'
              have EQ := Lib.hid (show ByteArray.mk (compK ls 0).toArray ++ ByteArray.mk (pl ls 0).toArray = ByteArray.mk (compK ls (0 + 1)).toArray by rw [mk_append, comp_zero, comp_first hkm]; rfl)
              clear hkm hkind
              go_wp2_with (go_at_call 25; refine Calls.mono c1 ?_; rintro e w1 ⟨rfl, hb⟩; clear c1; have H1 := Lib.hid (HB.out.trans (hb.mono (HN.out _ HB.out))); clear hb)
              go_roundw
              case rel => exact ⟨0 + 1, by omega, rfl, by rw [← EQ.out], H1.out⟩
              case measure => simp [intOf]; omega
            · obtain ⟨j, rfl⟩ : ∃ j, k = j + 1 := ⟨k - 1, by omega⟩
              have hjm : j < ls.length := by omega
              have hjl := real_len (HK.out j (by omega))
              obtain ⟨q, eq⟩ : ∃ q, q = j + 1 := ⟨_, rfl⟩
              have EQ := Lib.hid (show (ByteArray.mk (compK ls (j + 1)).toArray ++ ByteArray.mk #[44]) ++ ByteArray.mk (furL (pl ls (j + 1)) (pl ls j)).toArray = ByteArray.mk (compK ls (j + 1 + 1)).toArray by
                rw [show ByteArray.mk #[44] = ByteArray.mk ([44] : L).toArray from rfl, mk_append, mk_append, comp_next hkm]; simp)
              have e3 : ((j + 1 : Nat) : Int) - 1 = (j : Int) := by omega
              have g0 : decide (0 < ((j + 1 : Nat) : Int)) = true := decide_eq_true (by omega)
              have hR := HR.out
              have hj1 := fun w1 (hb : Below N w w1) => rd_txt (hR.below hb) hkm
              have hj2 := fun w1 (hb : Below N w w1) => rd_txt (hR.below hb) hjm
              obtain ⟨r, er⟩ : ∃ r, r = pl ls (j + 1) := ⟨_, rfl⟩
              obtain ⟨p, ep⟩ : ∃ p, p = pl ls j := ⟨_, rfl⟩
              have c2 := fun w1 => runder_any r p w1 (by rw [er]; omega) (by rw [ep]; omega)
              rw [← er] at hkind hkl c1 EQ hj1
              rw [← ep] at hjl EQ hj2
              rw [← eq] at EQ e3 hk hlt e1 e2 hj1 hkm hcl g0 ⊢
              have hq1 : q ≠ 0 := by omega
              have HJ1 := Lib.hid hj1
              have HJ2 := Lib.hid hj2
              have e4 : (0 : Int) ≤ (j : Int) := by omega
              have e5 : (j : Int) < (n : Int) := by omega
              have QE := Lib.hid eq
              clear hj1 hj2 hR eq hk0 er ep hkm hjm
              obtain ⟨b, o, rfl, _, h1⟩ := HJ1.out wr HB.out
              have C2 := Lib.hid c2; clear c2
              rcases kind_cases hkind with hk1 | hk2
              · rw [hk1] at c1
                cases hu : underL r p with
                | true =>
                  obtain ⟨u, eu⟩ := under_one hu hk1
                  obtain ⟨m, em⟩ : ∃ m, r.length = m + p.length := ⟨u.length + 1, by rw [eu]; simp; omega⟩
                  have EF := Lib.hid (show r.take m = furL r p by rw [furL, if_pos hu, if_pos hk1]; congr 1; omega)
                  have c2 := fun w1 => C2.out w1
                  rw [hu] at c2
                  have C2' := Lib.hid c2
                  have e6 : (r.length : Int) - (p.length : Int) = (m : Int) := by omega
                  have e7 : (m : Int) ≤ (r.length : Int) := by omega
                  have EM := Lib.hid em
                  clear c2 C2 hu eu em u hkind hk1
                  go_wp2_with (first
                    | (go_at_call 25; refine Calls.mono c1 ?_; rintro e w1 ⟨rfl, hb⟩; clear c1 h1; have H1 := Lib.hid (HB.out.trans (hb.mono (HN.out _ HB.out))); clear hb; have c2 := C2'.out w1; have g1 := HJ2.out w1 H1.out; obtain ⟨b2, o2, eb, _, g1⟩ := g1; injection eb with eb; injection eb with eb1 eb2; subst eb1; subst eb2)
                    | (go_at_call 28; refine Calls.mono c2 ?_; rintro e w2 ⟨rfl, hb⟩; clear c2 g1; have H2 := Lib.hid (H1.out.trans (hb.mono (HN.out _ H1.out))); clear hb))
                  go_roundw
                  case rel => exact ⟨q + 1, by omega, by go_num, by rw [← EQ.out, ← EF.out], H2.out⟩
                  case measure => simp [intOf]; omega
                | false =>
                  have EF := Lib.hid (fur_not hu hk1)
                  have c2 := fun w1 => C2.out w1
                  rw [hu] at c2
                  have C2' := Lib.hid c2
                  clear c2 C2 hu hkind hk1
                  go_wp2_with (first
                    | (go_at_call 25; refine Calls.mono c1 ?_; rintro e w1 ⟨rfl, hb⟩; clear c1 h1; have H1 := Lib.hid (HB.out.trans (hb.mono (HN.out _ HB.out))); clear hb; have c2 := C2'.out w1; have g1 := HJ2.out w1 H1.out; obtain ⟨b2, o2, eb, _, g1⟩ := g1; injection eb with eb; injection eb with eb1 eb2; subst eb1; subst eb2)
                    | (go_at_call 28; with_reducible refine Calls.mono c2 ?_; rintro e w2 ⟨rfl, hb⟩; clear c2 g1; have H2 := Lib.hid (H1.out.trans (hb.mono (HN.out _ H1.out))); clear hb; have c3 := C2'.out w2)
                    | (go_at_call 28; with_reducible refine Calls.mono c3 ?_; rintro e w3 ⟨rfl, hb⟩; clear c3; have H3 := Lib.hid (H2.out.trans (hb.mono (HN.out _ H2.out))); clear hb))
                  go_roundw
                  case rel => exact ⟨q + 1, by omega, by go_num, by rw [← EQ.out, EF.out], H3.out⟩
                  case measure => simp [intOf]; omega
              · rw [hk2] at c1
                cases hu : underL r p with
                | true =>
                  obtain ⟨u, eu⟩ := under_two hu hk2
                  have e7 : (p.length : Int) ≤ (r.length : Int) := by rw [eu]; simp; omega
                  have EF := Lib.hid (show r.drop p.length = furL r p by rw [furL, if_pos hu, if_neg (by omega)])
                  have c2 := fun w1 => C2.out w1
                  rw [hu] at c2
                  have C2' := Lib.hid c2
                  clear c2 C2 hu eu u hkind hk2
                  go_wp2_with (first
                    | (go_at_call 25; refine Calls.mono c1 ?_; rintro e w1 ⟨rfl, hb⟩; clear c1 h1; have H1 := Lib.hid (HB.out.trans (hb.mono (HN.out _ HB.out))); clear hb; have c2 := C2'.out w1; have g1 := HJ2.out w1 H1.out; obtain ⟨b2, o2, eb, _, g1⟩ := g1; injection eb with eb; injection eb with eb1 eb2; subst eb1; subst eb2)
                    | (go_at_call 28; with_reducible refine Calls.mono c2 ?_; rintro e w2 ⟨rfl, hb⟩; clear c2 g1; have H2 := Lib.hid (H1.out.trans (hb.mono (HN.out _ H1.out))); clear hb; have c3 := C2'.out w2)
                    | (go_at_call 28; with_reducible refine Calls.mono c3 ?_; rintro e w3 ⟨rfl, hb⟩; clear c3; have H3 := Lib.hid (H2.out.trans (hb.mono (HN.out _ H2.out))); clear hb))
                  go_roundw
                  case rel => exact ⟨q + 1, by omega, by go_num, by rw [← EQ.out, ← EF.out], H3.out⟩
                  case measure => simp [intOf]; omega
                | false =>
                  have EF := Lib.hid (show ByteArray.mk #[32] ++ ByteArray.mk r.toArray = ByteArray.mk (furL r p).toArray by rw [fur_blank hu hk2]; exact mk_append [32] r)
                  have c2 := fun w1 => C2.out w1
                  rw [hu] at c2
                  have C2' := Lib.hid c2
                  clear c2 C2 hu hkind hk2
                  go_wp2_with (first
                    | (go_at_call 25; refine Calls.mono c1 ?_; rintro e w1 ⟨rfl, hb⟩; clear c1 h1; have H1 := Lib.hid (HB.out.trans (hb.mono (HN.out _ HB.out))); clear hb; have c2 := C2'.out w1; have g1 := HJ2.out w1 H1.out; obtain ⟨b2, o2, eb, _, g1⟩ := g1; injection eb with eb; injection eb with eb1 eb2; subst eb1; subst eb2)
                    | (go_at_call 28; with_reducible refine Calls.mono c2 ?_; rintro e w2 ⟨rfl, hb⟩; clear c2 g1; have H2 := Lib.hid (H1.out.trans (hb.mono (HN.out _ H1.out))); clear hb; have c3 := C2'.out w2)
                    | (go_at_call 28; with_reducible refine Calls.mono c3 ?_; rintro e w3 ⟨rfl, hb⟩; clear c3; have H3 := Lib.hid (H2.out.trans (hb.mono (HN.out _ H2.out))); clear hb))
                  go_roundw
                  case rel => exact ⟨q + 1, by omega, by go_num, by rw [← EQ.out, ← EF.out], H3.out⟩
                  case measure => simp [intOf]; omega
          · have e1 : ¬ (k : Int) < (n : Int) := by omega
            have ek := Lib.hid (show compK ls k = compT ls by rw [← comp_all ls, show k = ls.length by rw [← EL.out]; omega])
            go_wp2
            go_ret2
            exact ⟨by rw [E.out, ← ek.out]; rfl, HB.out⟩
end Go.Proofs.Ytmgbhkhkbebfpaa.Tr
