/-
  The document's own of chapter 7: Place, realms.
-/
import Derived.Test.YtnalnhplcchdoaaRtOwn
import Derived.Test.YtnalnhplcchdoaaNmRefB
import Derived.Test.YtnalnhplcchdoaaRegion
set_option linter.unusedVariables false
namespace Go.Proofs.Ytnalnhplcchdoaa.Rt
open Go.RowKit Go.Proofs.Ytnalnhplcchdoaa.Mem Go.Proofs.Ytnalnhplcchdoaa.Nm

set_option maxHeartbeats 400000 in
theorem place_any (ls : List L) (A : Option Addr) (c B : Nat) (r : L) (w : World) (hl : ls.length ≤ 9000000000000000) (hr : Rd w B A (strs ls)) :
    Calls Try.prog 28 #[.slice A ls.length c, .string ⟨r.toArray⟩] w fun e w' => e = .returned (.int .i64 (Tr.ixL r ls)) ∧ w = w' := by
  have HR := Lib.hid hr; clear hr
  obtain ⟨n, en⟩ : ∃ n, n = ls.length := ⟨_, rfl⟩
  rw [← en] at hl ⊢
  have EN := Lib.hid en; clear en
  go_enter Try.func28, Try.ntmps28
  go_wp2
  go_loop [5] (fun iv => ∃ i : Nat, i ≤ n ∧ iv = .int .i64 (i : Int) ∧ ∀ k, k < i → pl ls k ≠ r) (fun iv => n - (intOf iv).toNat)
  case atStart => exact ⟨0, Nat.zero_le _, rfl, fun k h => absurd h (Nat.not_lt_zero k)⟩
  case round =>
    obtain ⟨i, hi, rfl, hn⟩ := hrel
    have HN := Lib.hid hn; clear hn
    by_cases hlt : i < n
    · have e1 : (i : Int) < (n : Int) := by omega
      have e2 : (0 : Int) ≤ (i : Int) := by omega
      obtain ⟨b, o, rfl, _, h1⟩ := rd_txt HR.out (i := i) (by rw [← EN.out]; exact hlt)
      by_cases hx : pl ls i = r
      · have t1 : (pl ls i == r) = true := by simpa using hx
        have E := Lib.hid (Tr.ix_found (by rw [← EN.out]; exact hlt) hx HN.out)
        clear hx
        go_wp2
        go_ret
        exact ⟨by rw [E.out]; rfl, rfl⟩
      · have t1 : (pl ls i == r) = false := by simpa using hx
        have HX := Lib.hid hx; clear hx
        go_wp2
        go_round
        case rel => exact ⟨i + 1, by omega, by go_num, fun k hk => by
          by_cases q : k = i
          · rw [q]; exact HX.out
          · exact HN.out k (by omega)⟩
        case measure => simp [intOf]; omega
    · have e1 : ¬ (i : Int) < (n : Int) := by omega
      have E := Lib.hid (Tr.ix_none (ls := ls) (r := r) fun k hk => HN.out k (by have := EN.out; omega))
      go_wp2
      go_ret
      exact ⟨by rw [E.out]; rfl, rfl⟩
/-- the place of a text: whether it is there -/
theorem ix_lt (r : L) (ls : List L) : decide (Tr.ixL r ls < 0) = decide (r ∉ ls) := by
  have := Tr.ix_ge r ls
  by_cases h : r ∈ ls
  · simp only [h, decide_true, decide_eq_true_eq] at this; simp [h]; omega
  · simp only [h, decide_false, decide_eq_false_iff_not] at this; simp [h]; omega
/-- one answer: a number that is the place of r in ls -/
theorem place_in {ls : List L} {r : L} (h : r ∈ ls) : ∃ z : Int, z = Tr.ixL r ls ∧ 0 ≤ z := ⟨_, rfl, by have := Tr.ix_ge r ls; simpa [h] using this⟩
theorem place_out {ls : List L} {r : L} (h : r ∉ ls) : ∃ z : Int, z = Tr.ixL r ls ∧ z < 0 := ⟨_, rfl, by have := Tr.ix_ge r ls; simpa [h] using this⟩

theorem rd_cell {w : World} {B b o i : Nat} {ls : List L} (h : Rd w B (some ⟨b, o, none⟩) (strs ls)) (hi : i < ls.length) : w.cell? ⟨b, o + i, none⟩ = some (.string ⟨(pl ls i).toArray⟩) := by
  obtain ⟨b', o', e, _, h1⟩ := rd_txt h hi
  injection e with e
  injection e with e1 e2
  subst e1; subst e2
  exact h1
set_option maxHeartbeats 800000 in
theorem rrealms_any (ls : List L) (A : Option Addr) (c B : Nat) (w : World) (hl : ls.length ≤ 1000000) (hc : ls.length ≤ c) (hr : Rd w B A (strs ls)) (hB : B ≤ w.heap.size) (hs : ∀ i, i < ls.length → (pl ls i).length ≤ 1000000000) :
    Calls Try.prog 35 #[.slice A ls.length c] w fun e w' => e = .returned (.bool (realmsB ls && (decide (1 ≤ ls.length) && decide (ls.length ≤ 6)))) ∧ Below w.heap.size w w' := by
  obtain ⟨N, eN⟩ : ∃ N, N = w.heap.size := ⟨_, rfl⟩
  rw [← eN] at hB ⊢
  have HB0 := Lib.hid (show Below N w w from Below.refl _ _)
  have EN0 := Lib.hid eN; clear eN
  have HSZ := Lib.hid (show ∀ w1 : World, Below N w w1 → N ≤ w1.heap.size from fun w1 h => by have := h.size; have := EN0.out; omega)
  have HR := Lib.hid hr; clear hr
  have IS := Lib.hid (fun (i : Nat) (h : i < ls.length) w1 => ris_any (pl ls i) w1 (hs i h))
  have PL := Lib.hid (fun (i : Nat) (hi : i < ls.length) w1 (h : Rd w1 B A (strs ls)) => place_any (ls.take i) A c B (pl ls i) w1 (by simp; omega) (rd_take h (by omega)))
  have EQ := Lib.hid (show realmsB ls = (ls.all isL && decide ls.Nodup) from rfl)
  obtain ⟨n, en⟩ : ∃ n, n = ls.length := ⟨_, rfl⟩
  rw [← en] at hl hc ⊢
  have EN := Lib.hid en; clear en hs
  go_enter Try.func35, Try.ntmps35
  go_wp2
  go_loopw [3] (fun iv wr => ∃ i : Nat, i ≤ n ∧ iv = .int .i64 (i : Int) ∧ (ls.take i).all isL = true ∧ (ls.take i).Nodup ∧ Below N w wr) (fun iv _ => n - (intOf iv).toNat)
  case atStart => exact ⟨0, Nat.zero_le _, rfl, by simp, by simp, HB0.out⟩
  case round =>
    obtain ⟨i, hi, rfl, hn, hd, hb⟩ := hrel
    have HN := Lib.hid hn; clear hn
    have HD := Lib.hid hd; clear hd
    have HB := Lib.hid hb; clear hb
    by_cases hlt : i < n
    · have e1 : (i : Int) < (n : Int) := by omega
      have e2 : (0 : Int) ≤ (i : Int) := by omega
      have e3 : (i : Int) ≤ (c : Int) := by omega
      have him : i < ls.length := by rw [← EN.out]; exact hlt
      have hlen : (ls.take i).length = i := by simp; omega
      have c1 := IS.out i him
      have c2 := PL.out i him
      rw [hlen] at c2
      have hal := all_succ (p := isL) him
      rw [HN.out, Bool.true_and, ← pl_lt him] at hal
      have hnd := nodup_succ him
      rw [← pl_lt him] at hnd
      have HR2 := Lib.hid (HR.out.below (HB.out.mono hB))
      obtain ⟨b, o, eA, _, h1⟩ := rd_txt HR2.out him
      subst eA
      cases hx : isL (pl ls i) with
      | false =>
        rw [hx] at c1
        have E := Lib.hid (show realmsB ls = false by
          rw [EQ.out, all_false him (by rw [← pl_lt him]; exact hx)]; rfl)
        clear c2 hal hnd hx
        go_wp2
        replace HB := Lib.hid (below_drewN HB.out 1)
        have HC := Lib.hid (show ∀ w', Reg.Since wr.drew w' → w'.cell? ⟨b, o + i, none⟩ = some (.string ⟨(pl ls i).toArray⟩) from fun w' hS => rd_cell ((HR2.out.drewN 1).below (w' := w') (hS.mono (Nat.le_trans hB (HSZ.out _ HB.out)))) him)
        clear h1 him hlen
        refine Reg.region_begin 17 rfl (by kernel_rfl) ?_
        refine Reg.take_op 0 (v := ?va0) rfl (by kernel_rfl) (by kernel_rfl) (by kernel_rfl) (fun _ _ _ h => h) (by rfl) (fun w' hS => ?ha0) ?ra0
        case ha0 => go_simp; rfl
        simp only [Act.put, List.setIfInBounds_toArray, List.set_cons_zero, List.set_cons_succ]
        refine Reg.take_op 1 (v := ?va1) rfl (by kernel_rfl) (by kernel_rfl) (by kernel_rfl) (fun _ _ _ h => h) (by rfl) (fun w' hS => ?ha1) ?ra1
        case ha1 => go_simp; rfl
        simp only [Act.put, List.setIfInBounds_toArray, List.set_cons_zero, List.set_cons_succ]
        refine Reg.take_op 2 (v := ?va2) rfl (by kernel_rfl) (by kernel_rfl) (by kernel_rfl) (fun _ _ _ h => h) (by rfl) (fun w' hS => ?ha2) ?ra2
        case ha2 => go_simp; rfl
        simp only [Act.put, List.setIfInBounds_toArray, List.set_cons_zero, List.set_cons_succ]
        refine Reg.take_op 3 (v := ?va3) rfl (by kernel_rfl) (by kernel_rfl) (by kernel_rfl) (fun _ _ _ h => h) (by rfl) (fun w' hS => ?ha3) ?ra3
        case ha3 => have hh := HC.out w' hS; go_simp; rfl
        simp only [Act.put, List.setIfInBounds_toArray, List.set_cons_zero, List.set_cons_succ]
        refine Reg.call_op 4 rfl (by kernel_rfl) (by rfl) 29 #[.string ⟨(pl ls i).toArray⟩] (by go_simp) ?_
        refine Calls.mono (c1 _) ?_
        rintro e w1 ⟨rfl, hb⟩
        refine ⟨_, rfl, hb, ?_⟩
        have H1 := Lib.hid (HB.out.trans (hb.mono (HSZ.out _ HB.out))); clear hb
        simp only [Act.put, List.setIfInBounds_toArray, List.set_cons_zero, List.set_cons_succ]
        refine Reg.take_op 5 (v := ?va5) rfl (by kernel_rfl) (by kernel_rfl) (by kernel_rfl) (fun _ _ _ h => h) (by rfl) (fun w' hS => ?ha5) ?ra5
        case ha5 => go_simp; rfl
        simp only [Act.put, List.setIfInBounds_toArray, List.set_cons_zero, List.set_cons_succ]
        refine Reg.take_op 6 (v := ?va6) rfl (by kernel_rfl) (by kernel_rfl) (by kernel_rfl) (fun _ _ _ h => h) (by rfl) (fun w' hS => ?ha6) ?ra6
        case ha6 => go_simp; rfl
        simp only [Act.put, List.setIfInBounds_toArray, List.set_cons_zero, List.set_cons_succ]
        refine Reg.skip_op 7 rfl (by kernel_rfl) (by kernel_rfl) (by kernel_rfl) (fun _ _ _ h => h) (by rfl) ?_
        simp only [Act.put, List.setIfInBounds_toArray, List.set_cons_zero, List.set_cons_succ]
        refine Reg.skip_op 8 rfl (by kernel_rfl) (by kernel_rfl) (by kernel_rfl) (fun _ _ _ h => h) (by rfl) ?_
        simp only [Act.put, List.setIfInBounds_toArray, List.set_cons_zero, List.set_cons_succ]
        refine Reg.skip_op 9 rfl (by kernel_rfl) (by kernel_rfl) (by kernel_rfl) (fun _ _ _ h => h) (by rfl) ?_
        simp only [Act.put, List.setIfInBounds_toArray, List.set_cons_zero, List.set_cons_succ]
        refine Reg.skip_op 10 rfl (by kernel_rfl) (by kernel_rfl) (by kernel_rfl) (fun _ _ _ h => h) (by rfl) ?_
        simp only [Act.put, List.setIfInBounds_toArray, List.set_cons_zero, List.set_cons_succ]
        refine Reg.skip_op 11 rfl (by kernel_rfl) (by kernel_rfl) (by kernel_rfl) (fun _ _ _ h => h) (by rfl) ?_
        simp only [Act.put, List.setIfInBounds_toArray, List.set_cons_zero, List.set_cons_succ]
        refine Reg.skip_op 12 rfl (by kernel_rfl) (by kernel_rfl) (by kernel_rfl) (fun _ _ _ h => h) (by rfl) ?_
        simp only [Act.put, List.setIfInBounds_toArray, List.set_cons_zero, List.set_cons_succ]
        refine Reg.skip_op 13 rfl (by kernel_rfl) (by kernel_rfl) (by kernel_rfl) (fun _ _ _ h => h) (by rfl) ?_
        simp only [Act.put, List.setIfInBounds_toArray, List.set_cons_zero, List.set_cons_succ]
        refine Reg.skip_op 14 rfl (by kernel_rfl) (by kernel_rfl) (by kernel_rfl) (fun _ _ _ h => h) (by rfl) ?_
        simp only [Act.put, List.setIfInBounds_toArray, List.set_cons_zero, List.set_cons_succ]
        refine Reg.skip_op 15 rfl (by kernel_rfl) (by kernel_rfl) (by kernel_rfl) (fun _ _ _ h => h) (by rfl) ?_
        simp only [Act.put, List.setIfInBounds_toArray, List.set_cons_zero, List.set_cons_succ]
        refine Reg.take_op 16 (v := ?va16) rfl (by kernel_rfl) (by kernel_rfl) (by kernel_rfl) (fun _ _ _ h => h) (by rfl) (fun w' hS => ?ha16) ?ra16
        case ha16 => go_simp; rfl
        simp only [Act.put, List.setIfInBounds_toArray, List.set_cons_zero, List.set_cons_succ]
        refine wpAnyH_done (by kernel_rfl) ?_ _
        go_wp2
        go_ret
        exact ⟨by rw [E.out]; rfl, H1.out⟩
      | true =>
        rw [hx] at c1
        have C1 := Lib.hid c1; have C2 := Lib.hid c2; clear c1 c2
        have HC := Lib.hid (fun w' (h : Rd w' B (some ⟨b, o, none⟩) (strs ls)) => rd_cell h him)
        by_cases hy : pl ls i ∈ ls.take i
        · obtain ⟨z, ez, hz⟩ := place_in hy
          rw [← ez] at C2
          have z1 : decide (0 ≤ z) = true := decide_eq_true hz
          have E := Lib.hid (show realmsB ls = false by
            rw [EQ.out, decide_eq_false (fun h => (hnd.1 (nodup_take h)).2 hy)]; simp)
          clear ez hy hz hx hal hnd him hlen
          go_wp2
          replace HB := Lib.hid (below_drewN HB.out 1)
          replace HR2 := Lib.hid (HR2.out.drewN 1)
          go_region_held3 (fun w' => w'.cell? ⟨b, o + i, none⟩ = some (.string ⟨(pl ls i).toArray⟩)) (exact HC.out _ HR2.out) ((first
            | (go_at_call 29; refine Calls.mono (C1.out _) ?_; rintro e w1 ⟨rfl, hb⟩; replace HR2 := Lib.hid (HR2.out.below (hb.mono (Nat.le_trans hB (HSZ.out _ HB.out)))); replace HB := Lib.hid (HB.out.trans (hb.mono (HSZ.out _ HB.out))); clear hb)
            | (go_at_call 28; refine Calls.mono (C2.out _ HR2.out) ?_; rintro e w2 ⟨rfl, rfl⟩)))
          go_wp2
          go_ret
          exact ⟨by rw [E.out]; rfl, HB.out⟩
        · obtain ⟨z, ez, hz⟩ := place_out hy
          rw [← ez] at C2
          have z1 : decide (0 ≤ z) = false := decide_eq_false (by omega)
          have E := Lib.hid (hal.trans hx)
          have E2 := Lib.hid (hnd.2 ⟨HD.out, hy⟩)
          clear ez hy hz hx hal hnd him hlen
          go_wp2
          replace HB := Lib.hid (below_drewN HB.out 1)
          replace HR2 := Lib.hid (HR2.out.drewN 1)
          go_region_held3 (fun w' => w'.cell? ⟨b, o + i, none⟩ = some (.string ⟨(pl ls i).toArray⟩)) (exact HC.out _ HR2.out) ((first
            | (go_at_call 29; refine Calls.mono (C1.out _) ?_; rintro e w1 ⟨rfl, hb⟩; replace HR2 := Lib.hid (HR2.out.below (hb.mono (Nat.le_trans hB (HSZ.out _ HB.out)))); replace HB := Lib.hid (HB.out.trans (hb.mono (HSZ.out _ HB.out))); clear hb)
            | (go_at_call 28; refine Calls.mono (C2.out _ HR2.out) ?_; rintro e w2 ⟨rfl, rfl⟩)))
          go_wp2
          go_roundw
          case rel => exact ⟨i + 1, by omega, by go_num, E.out, E2.out, HB.out⟩
          case measure => simp [intOf]; omega
    · have e1 : ¬ (i : Int) < (n : Int) := by omega
      have hiP : ls.length ≤ i := by have := EN.out; omega
      have E := Lib.hid (show realmsB ls = true by
        have h := HD.out
        rw [List.take_of_length_le hiP] at h
        rw [EQ.out, all_take hiP HN.out, decide_eq_true h]; rfl)
      by_cases q1 : 1 ≤ n
      · have t1 : decide ((1 : Int) ≤ (n : Int)) = true := by simp; omega
        by_cases q2 : n ≤ 6
        · have t2 : decide ((n : Int) ≤ 6) = true := by simp; omega
          have E2 := Lib.hid (show (realmsB ls && (decide (1 ≤ n) && decide (n ≤ 6))) = true by rw [E.out, decide_eq_true q1, decide_eq_true q2]; rfl)
          clear q1 q2
          go_wp2
          go_ret
          exact ⟨by rw [E2.out]; rfl, HB.out⟩
        · have t2 : decide ((n : Int) ≤ 6) = false := by simp; omega
          have E2 := Lib.hid (show (realmsB ls && (decide (1 ≤ n) && decide (n ≤ 6))) = false by rw [decide_eq_false q2]; simp)
          clear q1 q2
          go_wp2
          go_ret
          exact ⟨by rw [E2.out]; rfl, HB.out⟩
      · have t1 : decide ((1 : Int) ≤ (n : Int)) = false := by simp; omega
        have E2 := Lib.hid (show (realmsB ls && (decide (1 ≤ n) && decide (n ≤ 6))) = false by rw [decide_eq_false q1]; simp)
        clear q1
        go_wp2
        go_ret
        exact ⟨by rw [E2.out]; rfl, HB.out⟩
end Go.Proofs.Ytnalnhplcchdoaa.Rt
