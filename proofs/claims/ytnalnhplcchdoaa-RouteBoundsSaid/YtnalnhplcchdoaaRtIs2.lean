/-
  The code's Is: a path's Via, paths, all of it.
-/
import Derived.Test.YtnalnhplcchdoaaRtIs
set_option linter.unusedVariables false
namespace Go.Proofs.Ytnalnhplcchdoaa.Rt
open Go.RowKit Go.Proofs.Ytnalnhplcchdoaa.Mem Go.Proofs.Ytnalnhplcchdoaa.Nm

set_option maxHeartbeats 800000 in
theorem via_any (p : Pa) (R : List L) (u : Value) (A2 : Option Addr) (c2 B : Nat) (w : World) (hl : p.v.length ≤ 1000000) (hl2 : R.length ≤ 1000000) (hr : SlV w B u p.v) (hr2 : Rd w B A2 (strs R)) (hB : B ≤ w.heap.size) :
    Calls Try.prog 49 #[.agg #[.string ⟨p.f.toArray⟩, .string ⟨p.t.toArray⟩, u], .slice A2 R.length c2] w fun e w' => e = .returned (.bool (viaB R p)) ∧ Below w.heap.size w w' := by
  obtain ⟨A, c, rfl, hc, hr⟩ := hr
  have HB0 := Lib.hid ((Below.refl w.heap.size w).alloc (Nat.le_refl _) (.cells #[.string ⟨p.f.toArray⟩, .string ⟨p.t.toArray⟩, .slice A p.v.length c] 48))
  have HK := Lib.hid (Blk.new w 48 #[.string ⟨p.f.toArray⟩, .string ⟨p.t.toArray⟩, .slice A p.v.length c])
  have HR := Lib.hid (hr.below (HB0.out.mono hB)); clear hr
  have HR2 := Lib.hid (hr2.below (HB0.out.mono hB)); clear hr2
  have C1 := Lib.hid (fun x w1 (h : Rd w1 B A2 (strs R)) => Tr.contains_any R A2 c2 B x w1 (by omega) h)
  have C2 := Lib.hid (fun w1 h => once_any p.v A c B w1 hl hc h)
  obtain ⟨n, en⟩ : ∃ n, n = p.v.length := ⟨_, rfl⟩
  obtain ⟨m, em⟩ : ∃ m, m = R.length := ⟨_, rfl⟩
  rw [← en] at hl hc C2 HB0 HK HR HR2 ⊢
  rw [← em] at hl2 C1 ⊢
  have EN := Lib.hid en; clear en em
  by_cases h4 : n ≤ 4
  · have g4 : decide (4 < (n : Int)) = false := by simp; omega
    have H4 := Lib.hid h4
    go_enter Try.func49, Try.ntmps49
    go_wp2
    obtain ⟨W, eW⟩ : ∃ W, W = w.alloc (.cells #[.string ⟨p.f.toArray⟩, .string ⟨p.t.toArray⟩, .slice A n c] 48) := ⟨_, rfl⟩
    rw [← eW] at HB0 HK HR HR2 ⊢
    clear eW
    have k0 : W.cell? ⟨w.heap.size, 0, none⟩ = some (.string ⟨p.f.toArray⟩) := HK.out.cell 0
    have k1 : W.cell? ⟨w.heap.size, 1, none⟩ = some (.string ⟨p.t.toArray⟩) := HK.out.cell 1
    have k2 : W.cell? ⟨w.heap.size, 2, none⟩ = some (.slice A n c) := HK.out.cell 2
    go_loop [14] (fun iv => ∃ i : Nat, i ≤ n ∧ iv = .int .i64 (i : Int) ∧ (p.v.take i).all (onB R p) = true) (fun iv => n - (intOf iv).toNat)
    case atStart => exact ⟨0, Nat.zero_le _, rfl, by simp⟩
    case round =>
      obtain ⟨i, hi, rfl, hn⟩ := hrel
      have HN := Lib.hid hn; clear hn
      by_cases hlt : i < n
      · have e1 : (i : Int) < (n : Int) := by omega
        have e2 : (0 : Int) ≤ (i : Int) := by omega
        have him : i < p.v.length := by rw [← EN.out]; exact hlt
        have hal := all_succ (p := onB R p) him
        have haf := all_false (p := onB R p) him
        rw [HN.out, Bool.true_and, ← pl_lt him] at hal
        rw [← pl_lt him] at haf
        obtain ⟨b, o, rfl, _, h1⟩ := rd_txt HR.out him
        obtain ⟨x, ex⟩ : ∃ x, x = pl p.v i := ⟨_, rfl⟩
        rw [← ex] at hal haf h1
        clear ex him
        by_cases q1 : x = p.f
        · have t1 : (x == p.f) = true := by simpa using q1
          have E := Lib.hid (show viaB R p = false by
            rw [viaB, haf (by rw [onB, decide_eq_false (fun h => h q1)]; rfl)]; simp)
          clear q1 hal haf
          go_wp2_with fail
          go_ret
          exact ⟨by rw [E.out]; rfl, HB0.out⟩
        · have t1 : (x == p.f) = false := by simpa using q1
          by_cases q2 : x = p.t
          · have t2 : (x == p.t) = true := by simpa using q2
            have E := Lib.hid (show viaB R p = false by
              rw [viaB, haf (by rw [onB, decide_eq_false (p := x ≠ p.t) (fun h => h q2)]; simp)]; simp)
            clear q1 q2 hal haf
            go_wp2_with fail
            go_ret
            exact ⟨by rw [E.out]; rfl, HB0.out⟩
          · have t2 : (x == p.t) = false := by simpa using q2
            have c3 := C1.out x W HR2.out
            by_cases q3 : x ∈ R
            · rw [decide_eq_true q3] at c3
              have E := Lib.hid (show ((p.v.take (i + 1)).all (onB R p) = true) by
                rw [hal, onB, decide_eq_true q1, decide_eq_true q2, decide_eq_true q3]; rfl)
              clear q1 q2 q3 hal haf
              go_wp2_with (go_at_call 40; refine Calls.mono c3 ?_; rintro e w1 ⟨rfl, rfl⟩; clear c3)
              go_round
              case rel => exact ⟨i + 1, by omega, by go_num, E.out⟩
              case measure => simp [intOf]; omega
            · rw [decide_eq_false q3] at c3
              have E := Lib.hid (show viaB R p = false by
                rw [viaB, haf (by rw [onB, decide_eq_false q3]; simp)]; simp)
              clear q1 q2 q3 hal haf
              go_wp2_with (go_at_call 40; refine Calls.mono c3 ?_; rintro e w1 ⟨rfl, rfl⟩; clear c3)
              go_ret
              exact ⟨by rw [E.out]; rfl, HB0.out⟩
      · have e1 : ¬ (i : Int) < (n : Int) := by omega
        have E := Lib.hid (show viaB R p = decide p.v.Nodup by
          rw [viaB, all_take (by have := EN.out; omega) HN.out, decide_eq_true (by rw [← EN.out]; exact H4.out)]; rfl)
        have c1 := C2.out W HR.out
        go_wp2_with (go_at_call 47; refine Calls.mono c1 ?_; rintro e w1 ⟨rfl, rfl⟩; clear c1)
        go_ret
        exact ⟨by rw [E.out]; rfl, HB0.out⟩
  · have g4 : decide (4 < (n : Int)) = true := by simp; omega
    have E := Lib.hid (show viaB R p = false by
      rw [viaB, decide_eq_false (by rw [← EN.out]; exact h4)]; rfl)
    go_enter Try.func49, Try.ntmps49
    go_wp2
    go_ret
    exact ⟨by rw [E.out]; rfl, HB0.out⟩

theorem ends_succ {P : List Pa} {i : Nat} (h : i < P.length) : endsL (P.take (i + 1)) = endsL (P.take i) ++ [((al P i).f, (al P i).t)] := by
  rw [take_succ h, al_lt h, endsL, List.map_append]; rfl
theorem ends_length (P : List Pa) : (endsL P).length = P.length := by simp [endsL]
set_option maxHeartbeats 800000 in
theorem paths_any (P : List Pa) (R : List L) (A A2 : Option Addr) (c c2 B : Nat) (w : World) (hl : P.length ≤ 100000) (hl2 : R.length ≤ 1000000) (hv : ∀ p ∈ P, p.v.length ≤ 1000000) (hr : RdA w B A P) (hr2 : Rd w B A2 (strs R)) (hB : B ≤ w.heap.size) :
    Calls Try.prog 34 #[.slice A P.length c, .slice A2 R.length c2] w fun e w' => e = .returned (.bool (pathsB P R)) ∧ Below w.heap.size w w' := by
  obtain ⟨N, eN⟩ : ∃ N, N = w.heap.size := ⟨_, rfl⟩
  rw [← eN] at hB ⊢
  have HB0 := Lib.hid (show Below N w w from Below.refl _ _)
  have EN0 := Lib.hid eN; clear eN
  have HSZ := Lib.hid (show ∀ w1 : World, Below N w w1 → N ≤ w1.heap.size from fun w1 h => by have := h.size; have := EN0.out; omega)
  have HR := Lib.hid hr; clear hr
  have HR2 := Lib.hid hr2; clear hr2
  have C1 := Lib.hid (fun (i : Nat) (hi : i < P.length) u w1 (h : SlV w1 B u (al P i).v) (h2 : Rd w1 B A2 (strs R)) hB1 => via_any (al P i) R u A2 c2 B w1 (hv _ (al_mem hi)) hl2 h h2 hB1)
  have C2 := Lib.hid (fun A c w1 h1 h2 h3 h4 => pairs_any (endsL P) R A A2 c c2 w1.heap.size w1 (by rw [ends_length]; omega) h1 hl2 h2 h3 h4)
  rw [ends_length] at C2
  obtain ⟨n, en⟩ : ∃ n, n = P.length := ⟨_, rfl⟩
  obtain ⟨m, em⟩ : ∃ m, m = R.length := ⟨_, rfl⟩
  rw [← en] at hl C2 ⊢
  rw [← em] at hl2 C1 C2 ⊢
  have EN := Lib.hid en; clear en em hv
  go_enter Try.func34, Try.ntmps34
  go_wp2
  go_loopw [5, 10] (fun ev iv wr => ∃ i : Nat, i ≤ n ∧ iv = .int .i64 (i : Int) ∧ (P.take i).all (viaB R) = true ∧ OwnP wr N ev (endsL (P.take i)) ∧ Below N w wr) (fun _ iv _ => n - (intOf iv).toNat)
  case atStart => exact ⟨0, Nat.zero_le _, rfl, by simp, OwnP.nil _ _, HB0.out⟩
  case round =>
    obtain ⟨i, hi, rfl, hn, ho, hb⟩ := hrel
    have HN := Lib.hid hn; clear hn
    have HB := Lib.hid hb; clear hb
    have HO := Lib.hid ho; clear ho
    have hrw := HR.out.below (HB.out.mono hB)
    by_cases hlt : i < n
    · have e1 : (i : Int) < (n : Int) := by omega
      have e2 : (0 : Int) ≤ (i : Int) := by omega
      have him : i < P.length := by rw [← EN.out]; exact hlt
      have hal := all_succ (p := viaB R) him
      have haf := all_false (p := viaB R) him
      have hes := ends_succ him
      have hel := ends_length (P.take i)
      rw [HN.out, Bool.true_and, ← al_lt him] at hal
      rw [← al_lt him] at haf
      have hlen : (P.take i).length = i := by simp; omega
      rw [hlen] at hel
      have c1 := C1.out i him
      obtain ⟨b, o, rfl, _, h1, h2, u, h3, h4⟩ := rda_at hrw him
      obtain ⟨x, ex⟩ : ∃ x, x = al P i := ⟨_, rfl⟩
      obtain ⟨F, eF⟩ : ∃ F, F = endsL (P.take i) := ⟨_, rfl⟩
      rw [← ex] at hal haf h1 h2 h4 hes c1
      rw [← eF] at hes hel HO
      have HES := Lib.hid hes; have HEL := Lib.hid hel; clear hes hel
      clear ex eF him hlen
      have h4' := h4
      obtain ⟨A5, c5, eu, _⟩ := h4'
      subst eu
      obtain ⟨k5, ek5⟩ : ∃ k, k = x.v.length := ⟨_, rfl⟩
      rw [← ek5] at h3 h4
      have HK := Lib.hid (Blk.new wr 48 #[.string ⟨x.f.toArray⟩, .string ⟨x.t.toArray⟩, .slice A5 k5 c5])
      have HA := Lib.hid ((Below.refl wr.heap.size wr).alloc (Nat.le_refl _) (.cells #[.string ⟨x.f.toArray⟩, .string ⟨x.t.toArray⟩, .slice A5 k5 c5] 48))
      have H := Lib.hid (HB.out.trans (HA.out.mono (HSZ.out _ HB.out)))
      have c2 := c1 _ _ (h4.below (HA.out.mono (Nat.le_trans hB (HSZ.out _ HB.out)))) (HR2.out.below (H.out.mono hB)) (Nat.le_trans hB (HSZ.out _ H.out))
      clear c1 h4 ek5
      cases hx : viaB R x with
      | false =>
        rw [hx] at c2
        have E := Lib.hid (show pathsB P R = false by rw [pathsB, haf hx]; rfl)
        clear hx hal haf
        go_wp2_with (go_at_call 49; refine Calls.mono c2 ?_; rintro e w1 ⟨rfl, hb⟩; clear c2; have H1 := Lib.hid (H.out.trans (hb.mono (HSZ.out _ H.out))); clear hb)
        go_ret
        exact ⟨by rw [E.out]; rfl, H1.out⟩
      | true =>
        rw [hx] at c2
        have E := Lib.hid (hal.trans hx)
        clear hx hal haf
        go_wp2_with (first
          | (go_at_call 49; refine Calls.mono c2 ?_; rintro e w1 ⟨rfl, hb⟩; clear c2; have H1 := Lib.hid (H.out.trans (hb.mono (HSZ.out _ H.out))); have HK1 := Lib.hid (HK.out.below hb); have HO1 := Lib.hid ((HO.out.below HA.out).below hb); clear hb HO HK; have k0 := HK1.out.cell 0; have k1 := HK1.out.cell 1; simp only [List.getElem?_toArray, List.getElem?_cons_zero, List.getElem?_cons_succ] at k0 k1)
          | (at_builtin; refine papp_one rfl (.tmp 18) (.tmp 24) rfl N _ F rfl HO1.out (x.f, x.t) rfl (by have := HEL.out; omega) (HSZ.out _ H1.out) ?_; intro v2 w2 ho2 hb2; have HO2 := Lib.hid ho2; have H2 := Lib.hid (H1.out.trans hb2); clear ho2 hb2))
        go_roundw
        case rel => exact ⟨i + 1, by omega, by go_num, E.out, by rw [HES.out]; exact HO2.out, H2.out⟩
        case measure => simp [intOf]; omega
    · have e1 : ¬ (i : Int) < (n : Int) := by omega
      have hiP : P.length ≤ i := by have := EN.out; omega
      have E := Lib.hid (show pathsB P R = pairsB (endsL P) R by
        rw [pathsB, all_take hiP HN.out]; rfl)
      rw [List.take_of_length_le hiP] at HO
      obtain ⟨A3, c3, rfl, q1, q2⟩ := HO.out.slice
      rw [ends_length, ← EN.out] at q1
      have c1 := C2.out A3 c3 wr q1 q2 ((HR2.out.below (HB.out.mono hB)).more (Nat.le_trans hB (HSZ.out _ HB.out))) (Nat.le_refl _)
      have en2 : (endsL P).length = n := by rw [ends_length, ← EN.out]
      rw [en2]
      clear q1 q2 hiP
      go_wp2_with (go_at_call 33; refine Calls.mono c1 ?_; rintro e w1 ⟨rfl, hb⟩; clear c1; replace HB := Lib.hid (HB.out.trans (hb.mono (HSZ.out _ HB.out))); clear hb)
      go_ret
      exact ⟨by rw [E.out]; rfl, HB.out⟩
end Go.Proofs.Ytnalnhplcchdoaa.Rt
