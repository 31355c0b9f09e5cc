/-
  What the laws of chapter 6 call of their own: once and the examples.
-/
import Derived.Test.YtmgbhkhkbebfpaaTrKnown
set_option linter.unusedVariables false
namespace Go.Proofs.Ytmgbhkhkbebfpaa.Tr
open Go.RowKit Go.Proofs.Ytmgbhkhkbebfpaa.Mem Go.Proofs.Ytmgbhkhkbebfpaa.Nm

/-- texts laid down in a row -/
theorem own_lits (w : World) (base : Nat) (ls : List L) (hb : base ≤ w.heap.size) (hl : ls.length ≤ 1000) : Own (w.alloc (.cells (strs ls).toArray 9)) base (.slice (some ⟨w.heap.size, 0, none⟩) ls.length ls.length) ls := by
  have h := World.ownsRow_lit (base := base) (e := 9) (size := 1) w (strs ls).toArray ls.length hb (by unfold maxLen; omega) (by simp [strs])
  simpa [Own] using h
theorem lits_rd (w : World) (ls : List L) : Rd (w.alloc (.cells (strs ls).toArray 9)) (w.heap.size + 1) (some ⟨w.heap.size, 0, none⟩) (strs ls) := by
  refine .inr ⟨w.heap.size, 0, rfl, by omega, fun i u hu => ?_⟩
  rw [Nat.zero_add, (Blk.new w 9 _).cell i, List.getElem?_toArray]
  exact hu

def onceR (ls : List L) : List L × Bool := if ls.all isL then (onceL ls, decide ((onceL ls).length ≤ 8)) else ([], false)
theorem once_bad {ls : List L} (h : ls.all isL = false) : onceR ls = ([], false) := by rw [onceR, if_neg (by simp [h])]
theorem once_ok {ls : List L} (h : ls.all isL = true) : onceR ls = (onceL ls, decide ((onceL ls).length ≤ 8)) := by rw [onceR, if_pos h]
theorem once_take {ls : List L} {i : Nat} (h : i < ls.length) : onceL (ls.take (i + 1)) = addL (onceL (ls.take i)) (pl ls i) := addsK [] ls i h

set_option maxHeartbeats 1600000 in
set_option maxRecDepth 100000 in
theorem once_any (ls : List L) (A : Option Addr) (c : Nat) (w : World) (hl : ls.length ≤ 1048576) (hr : Rd w w.heap.size A (strs ls)) (hs : ∀ i, i < ls.length → (pl ls i).length ≤ 1000000000) :
    Calls Try.prog 22 #[.slice A ls.length c] w fun e w' => ∃ v, e = .returned (.tuple #[v, .bool (onceR ls).2]) ∧ Own w' w.heap.size v (onceR ls).1 ∧ Below w.heap.size w w' := by
  have HR := Lib.hid hr; clear hr
  have HS := Lib.hid hs; clear hs
  obtain ⟨N, eN⟩ : ∃ N, N = w.heap.size := ⟨_, rfl⟩
  rw [← eN] at HR ⊢
  have HB0 := Lib.hid (show Below N w w by exact Below.refl _ _)
  have EN := Lib.hid eN; clear eN
  have HN := Lib.hid (show ∀ w1 : World, Below N w w1 → N ≤ w1.heap.size from fun w1 h => by have := h.size; have := EN.out; omega)
  have IS := Lib.hid (fun (i : Nat) (h : i < ls.length) w1 => ris_any (pl ls i) w1 (HS.out i h))
  obtain ⟨n, en⟩ : ∃ n, n = ls.length := ⟨_, rfl⟩
  rw [← en] at hl ⊢
  have EL := Lib.hid en; clear en
  go_enter Try.func22, Try.ntmps22
  go_wp2
  go_loopw [4, 5] (fun vv iv wr => ∃ i : Nat, i ≤ n ∧ iv = .int .i64 (i : Int) ∧ (ls.take i).all isL = true ∧ Own wr N vv (onceL (ls.take i)) ∧ Below N w wr) (fun _ iv _ => n - (intOf iv).toNat)
  case atStart => exact ⟨0, Nat.zero_le _, rfl, by simp, Own.nil _ _, HB0.out⟩
  case round =>
    obtain ⟨i, hi, rfl, ha, ho, hb⟩ := hrel
    have HA := Lib.hid ha; clear ha
    have HB := Lib.hid hb; clear hb
    have HO := Lib.hid ho; clear ho
    obtain ⟨A0, c0, rfl, hr0⟩ := HO.out.slice
    by_cases hlt : i < n
    · have e1 : (i : Int) < (n : Int) := by omega
      have e2 : (0 : Int) ≤ (i : Int) := by omega
      have him : i < ls.length := by rw [← EL.out]; exact hlt
      have c1 := IS.out i him wr
      have hot := once_take him
      have hol := Nat.le_trans (once_len (ls.take i)) (by rw [List.length_take]; exact Nat.min_le_left _ _)
      obtain ⟨O, eO⟩ : ∃ O, O = onceL (ls.take i) := ⟨_, rfl⟩
      rw [← eO] at HO hot hol hr0 ⊢
      have HR0 := Lib.hid hr0; clear hr0
      have HOT := Lib.hid hot; clear hot
      obtain ⟨k9, ek9⟩ : ∃ k, k = O.length := ⟨_, rfl⟩
      rw [← ek9] at HO hol ⊢
      have EK9 := Lib.hid ek9; clear ek9 eO
      have hk9 : k9 ≤ 1048576 := by omega
      have h1 := rd_txt (HR.out.below HB.out) him
      obtain ⟨b, o, rfl, _, h1⟩ := h1
      cases hx : isL (pl ls i) with
      | false =>
        rw [hx] at c1
        have E := Lib.hid (once_bad (all_bad him hx))
        clear hx him hol
        go_wp2_with (go_at_call 23; refine Calls.mono c1 ?_; rintro e w1 ⟨rfl, hb⟩; clear c1; have H1 := Lib.hid (HB.out.trans (hb.mono (HN.out _ HB.out))); clear hb)
        go_ret2
        exact ⟨_, by rw [E.out]; rfl, by rw [E.out]; exact Own.nil _ _, H1.out⟩
      | true =>
        rw [hx] at c1
        have HX := Lib.hid (all_take HA.out him hx)
        have HIM := Lib.hid him
        obtain ⟨x, ex⟩ : ∃ x, x = pl ls i := ⟨_, rfl⟩
        rw [← ex] at h1 c1 HOT
        have EX := Lib.hid ex
        clear hx him hol ex
        go_wp2_with (go_at_call 23; refine Calls.mono c1 ?_; rintro e w1 ⟨rfl, hb⟩; clear c1 h1; have H1 := Lib.hid (HB.out.trans (hb.mono (HN.out _ HB.out))); have HO1 := Lib.hid (HO.out.below hb); have HR1 := Lib.hid ((HR0.out.below hb).more hb.size); clear hb)
        have HD0 := Lib.hid (Drawn.refl w1)
        go_loopw [6, 7] (fun fv kv wr => ∃ k : Nat, k ≤ k9 ∧ kv = .int .i64 (k : Int) ∧ fv = .bool (decide (x ∈ O.take k)) ∧ Drawn w1 wr) (fun _ kv _ => k9 - (intOf kv).toNat)
        case atStart => exact ⟨0, Nat.zero_le _, rfl, by simp, HD0.out⟩
        case round =>
          obtain ⟨k, hk, rfl, rfl, hd⟩ := hrel
          have hrr : ∀ B A xs, Rd w1 B A xs → Rd wr B A xs := by obtain ⟨m, rfl⟩ := hd; exact fun B A xs h => h.drewN m
          have HRR := Lib.hid hrr; clear hrr
          have HD := Lib.hid hd; clear hd
          by_cases hkl : k < k9
          · have k1 : (k : Int) < (k9 : Int) := by omega
            have k2 : (0 : Int) ≤ (k : Int) := by omega
            have hko : k < O.length := by rw [← EK9.out]; exact hkl
            have g1 := rd_txt (HRR.out _ _ _ HR1.out) hko
            have g2 := rd_txt (HRR.out _ _ _ (HR.out.below H1.out)) HIM.out
            rw [← EX.out] at g2
            obtain ⟨b0, o0, rfl, _, g1⟩ := g1
            obtain ⟨b2, o2, eb, _, g2⟩ := g2
            injection eb with eb; injection eb with eb1 eb2; subst eb1; subst eb2
            have htk := take_succ_pl hko
            cases hf : decide (x ∈ O.take k) with
            | true =>
              have HF := Lib.hid (show decide (x ∈ O.take (k + 1)) = true by
                rw [decide_eq_true_eq] at hf ⊢
                rw [htk]; exact List.mem_append_left _ hf)
              clear hf htk hko
              go_wp2
              go_quiet (fail)
              go_wp2
              go_roundw
              case rel => exact ⟨k + 1, by omega, by go_num, by rw [HF.out], HD.out.trans ⟨_, rfl⟩⟩
              case measure => simp [intOf]; omega
            | false =>
              have HF := Lib.hid (show (pl O k == x) = decide (x ∈ O.take (k + 1)) by
                rw [decide_eq_false_iff_not] at hf
                rw [Bool.eq_iff_iff, htk, decide_eq_true_eq]
                simp only [beq_iff_eq, List.mem_append, List.mem_singleton]
                exact ⟨fun e => .inr e.symm, fun e => (e.resolve_left hf).symm⟩)
              clear hf htk hko
              go_wp2
              go_quiet (fail)
              go_wp2
              go_roundw
              case rel => exact ⟨k + 1, by omega, by go_num, by rw [← HF.out], HD.out.trans ⟨_, rfl⟩⟩
              case measure => simp [intOf]; omega
          · have k1 : ¬ (k : Int) < (k9 : Int) := by omega
            have ek : O.take k = O := List.take_of_length_le (by have := EK9.out; omega)
            rw [ek]
            have HBW := Lib.hid (bt (Below.refl _ _) HD.out.below : Below w1.heap.size w1 wr)
            have H2 := Lib.hid (H1.out.trans (HBW.out.mono (HN.out _ H1.out)))
            have HO2 := Lib.hid (HO1.out.below HBW.out)
            by_cases hin : x ∈ O
            · have HF := Lib.hid (HOT.out.trans (add_in hin))
              rw [decide_eq_true hin]
              clear hin ek
              go_wp2
              go_roundw
              case rel => exact ⟨i + 1, by omega, by go_num, HX.out, by rw [HF.out]; exact HO2.out, H2.out⟩
              case measure => simp [intOf]; omega
            · have HF := Lib.hid (HOT.out.trans (add_new hin))
              rw [decide_eq_false hin]
              have g2 := rd_txt (HR.out.below H2.out) HIM.out
              rw [← EX.out] at g2
              obtain ⟨b2, o2, eb, _, g2⟩ := g2
              injection eb with eb; injection eb with eb1 eb2; subst eb1; subst eb2
              clear hin ek
              go_wp2_with (at_builtin; refine app_one rfl (.tmp 40) (.tmp 45) rfl N _ _ rfl HO2.out x rfl (by have := EK9.out; omega) (HN.out _ H2.out) ?_; intro v' w3 ho3 hb3; rw [← HF.out] at ho3; have H3 := Lib.hid (H2.out.trans hb3); have HO3 := Lib.hid ho3; clear ho3 hb3)
              go_roundw
              case rel => exact ⟨i + 1, by omega, by go_num, HX.out, HO3.out, H3.out⟩
              case measure => simp [intOf]; omega
    · have e1 : ¬ (i : Int) < (n : Int) := by omega
      have ei : ls.take i = ls := List.take_of_length_le (by have := EL.out; omega)
      rw [ei] at HO HA ⊢
      have E := Lib.hid (once_ok HA.out)
      clear ei hr0
      obtain ⟨K, eK⟩ : ∃ K, K = onceL ls := ⟨_, rfl⟩
      rw [← eK] at HO E ⊢
      clear eK
      by_cases h8 : K.length ≤ 8
      · have g8 : decide ((K.length : Int) ≤ 8) = true := by simp; omega
        have E8 := Lib.hid (decide_eq_true h8)
        clear h8
        go_wp2
        go_ret2
        exact ⟨_, by rw [E.out]; simp only [E8.out]; rfl, by rw [E.out]; exact HO.out, HB.out⟩
      · have g8 : decide ((K.length : Int) ≤ 8) = false := by simp; omega
        have E8 := Lib.hid (decide_eq_false h8)
        clear h8
        go_wp2
        go_ret2
        exact ⟨_, by rw [E.out]; simp only [E8.out]; rfl, by rw [E.out]; exact HO.out, HB.out⟩
end Go.Proofs.Ytmgbhkhkbebfpaa.Tr
