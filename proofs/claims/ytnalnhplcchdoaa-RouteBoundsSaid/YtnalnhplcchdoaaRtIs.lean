/-
  The code's Is: realms, links, paths that may be.
-/
import Derived.Test.YtnalnhplcchdoaaRtOwn
import Derived.Test.YtnalnhplcchdoaaNmBet
set_option linter.unusedVariables false
namespace Go.Proofs.Ytnalnhplcchdoaa.Rt
open Go.RowKit Go.Proofs.Ytnalnhplcchdoaa.Mem Go.Proofs.Ytnalnhplcchdoaa.Nm

set_option maxHeartbeats 400000 in
theorem realms_any (ls : List L) (A : Option Addr) (c B : Nat) (w : World) (hl : ls.length ≤ 1000000) (hc : ls.length ≤ c) (hr : Rd w B A (strs ls)) (hs : ∀ i, i < ls.length → (pl ls i).length ≤ 1000000000) :
    Calls Try.prog 32 #[.slice A ls.length c] w fun e w' => e = .returned (.bool (realmsB ls)) ∧ Drawn w w' := by
  have HR := Lib.hid hr; clear hr
  have IS := Lib.hid (fun (i : Nat) (h : i < ls.length) w1 => is_any (pl ls i) w1 (hs i h))
  have C1 := Lib.hid (fun w1 h => once_any ls A c B w1 hl hc h)
  obtain ⟨n, en⟩ : ∃ n, n = ls.length := ⟨_, rfl⟩
  rw [← en] at hl hc C1 ⊢
  have EN := Lib.hid en; clear en hs
  have HD := Lib.hid (Drawn.refl w)
  go_enter Try.func32, Try.ntmps32
  go_wp2
  go_loopw [7] (fun iv wr => ∃ i : Nat, i ≤ n ∧ iv = .int .i64 (i : Int) ∧ (ls.take i).all isL = true ∧ Drawn w wr) (fun iv _ => n - (intOf iv).toNat)
  case atStart => exact ⟨0, Nat.zero_le _, rfl, by simp, HD.out⟩
  case round =>
    obtain ⟨i, hi, rfl, hn, hd⟩ := hrel
    have HN := Lib.hid hn; clear hn
    have hrr : Rd wr B A (strs ls) := by obtain ⟨m, rfl⟩ := hd; exact HR.out.drewN m
    have HDR := Lib.hid hd; clear hd
    by_cases hlt : i < n
    · have e1 : (i : Int) < (n : Int) := by omega
      have e2 : (0 : Int) ≤ (i : Int) := by omega
      have him : i < ls.length := by rw [← EN.out]; exact hlt
      have c1 := IS.out i him wr
      have hal := all_succ (p := isL) him
      rw [HN.out, Bool.true_and, ← pl_lt him] at hal
      obtain ⟨b, o, rfl, _, h1⟩ := rd_txt hrr him
      cases hx : isL (pl ls i) with
      | false =>
        rw [hx] at c1
        have E := Lib.hid (show realmsB ls = false by
          rw [realmsB, all_false him (by rw [← pl_lt him]; exact hx)]; rfl)
        clear hx hal him
        go_wp2_with (go_at_call 46; refine Calls.mono c1 ?_; rintro e w1 ⟨rfl, hd⟩; clear c1; have HD2 := Lib.hid (HDR.out.trans hd); clear hd)
        go_ret
        exact ⟨by rw [E.out]; rfl, HD2.out⟩
      | true =>
        rw [hx] at c1
        have E := Lib.hid (hal.trans hx)
        clear hx hal him
        go_wp2_with (go_at_call 46; refine Calls.mono c1 ?_; rintro e w1 ⟨rfl, hd⟩; clear c1; have HD2 := Lib.hid (HDR.out.trans hd); clear hd)
        go_roundw
        case rel => exact ⟨i + 1, by omega, by go_num, E.out, HD2.out⟩
        case measure => simp [intOf]; omega
    · have e1 : ¬ (i : Int) < (n : Int) := by omega
      have E := Lib.hid (show realmsB ls = decide ls.Nodup by
        rw [realmsB, all_take (by have := EN.out; omega) HN.out]; rfl)
      have c1 := C1.out wr hrr
      go_wp2_with (go_at_call 47; refine Calls.mono c1 ?_; rintro e w1 ⟨rfl, rfl⟩; clear c1)
      go_ret
      exact ⟨by rw [E.out]; rfl, HDR.out⟩

set_option maxHeartbeats 800000 in
theorem pairs_any (K : List Pr) (R : List L) (A A2 : Option Addr) (c c2 B : Nat) (w : World) (hl : K.length ≤ 1000000) (hc : K.length ≤ c) (hl2 : R.length ≤ 1000000) (hr : RdP w B A K) (hr2 : Rd w B A2 (strs R)) (hB : B ≤ w.heap.size) :
    Calls Try.prog 33 #[.slice A K.length c, .slice A2 R.length c2] w fun e w' => e = .returned (.bool (pairsB K R)) ∧ Below w.heap.size w w' := by
  obtain ⟨N, eN⟩ : ∃ N, N = w.heap.size := ⟨_, rfl⟩
  rw [← eN] at hB ⊢
  have HB0 := Lib.hid (show Below N w w from Below.refl _ _)
  have EN0 := Lib.hid eN; clear eN
  have HSZ := Lib.hid (show ∀ w1 : World, Below N w w1 → N ≤ w1.heap.size from fun w1 h => by have := h.size; have := EN0.out; omega)
  have HR := Lib.hid hr; clear hr
  have HR2 := Lib.hid hr2; clear hr2
  have C1 := Lib.hid (fun x w1 (h : Rd w1 B A2 (strs R)) => Tr.contains_any R A2 c2 B x w1 (by omega) h)
  have C2 := Lib.hid (fun w1 h hB1 => ponce_any K A c B w1 hl hc h hB1)
  obtain ⟨n, en⟩ : ∃ n, n = K.length := ⟨_, rfl⟩
  obtain ⟨m, em⟩ : ∃ m, m = R.length := ⟨_, rfl⟩
  rw [← en] at hl hc C2 ⊢
  rw [← em] at hl2 C1 ⊢
  have EN := Lib.hid en; clear en em
  go_enter Try.func33, Try.ntmps33
  go_wp2
  go_loopw [11] (fun iv wr => ∃ i : Nat, i ≤ n ∧ iv = .int .i64 (i : Int) ∧ (K.take i).all (pairB R) = true ∧ Below N w wr) (fun iv _ => n - (intOf iv).toNat)
  case atStart => exact ⟨0, Nat.zero_le _, rfl, by simp, HB0.out⟩
  case round =>
    obtain ⟨i, hi, rfl, hn, hb⟩ := hrel
    have HN := Lib.hid hn; clear hn
    have HB := Lib.hid hb; clear hb
    have hrw := HR.out.below (HB.out.mono hB)
    by_cases hlt : i < n
    · have e1 : (i : Int) < (n : Int) := by omega
      have e2 : (0 : Int) ≤ (i : Int) := by omega
      have him : i < K.length := by rw [← EN.out]; exact hlt
      have hal := all_succ (p := pairB R) him
      have haf := all_false (p := pairB R) him
      rw [HN.out, Bool.true_and, ← kl_lt him] at hal
      rw [← kl_lt him] at haf
      obtain ⟨b, o, rfl, _, h1, h2⟩ := rdp_at hrw him
      obtain ⟨x, ex⟩ : ∃ x, x = kl K i := ⟨_, rfl⟩
      rw [← ex] at hal haf h1 h2
      clear ex him
      have HK := Lib.hid (show Blk (wr.alloc (.cells #[.string ⟨x.1.toArray⟩, .string ⟨x.2.toArray⟩] 43)).drew wr.heap.size 43 #[.string ⟨x.1.toArray⟩, .string ⟨x.2.toArray⟩] from (Blk.new wr 43 _).drewN 1)
      have H := Lib.hid (show Below N w (wr.alloc (.cells #[.string ⟨x.1.toArray⟩, .string ⟨x.2.toArray⟩] 43)) from HB.out.alloc (HSZ.out _ HB.out) _)
      have HRW2 := Lib.hid (HR2.out.below (H.out.mono hB))
      obtain ⟨W, eW⟩ : ∃ W, W = wr.alloc (.cells #[.string ⟨x.1.toArray⟩, .string ⟨x.2.toArray⟩] 43) := ⟨_, rfl⟩
      go_wp2
      rw [← eW] at HK H HRW2 ⊢
      clear eW
      have k0 : W.cell? ⟨wr.heap.size, 0, none⟩ = some (.string ⟨x.1.toArray⟩) := HK.out.cell 0
      have k1 : W.cell? ⟨wr.heap.size, 1, none⟩ = some (.string ⟨x.2.toArray⟩) := HK.out.cell 1
      go_quiet (fail)
      by_cases q1 : x.1 = x.2
      · have t1 : (x.1 == x.2) = true := by simpa using q1
        have E := Lib.hid (show pairsB K R = false by
          rw [pairsB, haf (by rw [pairB, decide_eq_false (fun h => h q1)]; rfl)]; rfl)
        clear q1 hal haf
        go_wp2_with fail
        go_ret
        exact ⟨by rw [E.out]; rfl, below_drewN H.out _⟩
      · have t1 : (x.1 == x.2) = false := by simpa using q1
        by_cases q2 : x.1 ∈ R
        · have c1 := fun k => C1.out x.1 (W.drewN k) (HRW2.out.drewN k)
          rw [decide_eq_true q2] at c1
          by_cases q3 : x.2 ∈ R
          · have c3 := fun k => C1.out x.2 (W.drewN k) (HRW2.out.drewN k)
            rw [decide_eq_true q3] at c3
            have E := Lib.hid (show ((K.take (i + 1)).all (pairB R) = true) by
              rw [hal, pairB, decide_eq_true q1, decide_eq_true q2, decide_eq_true q3]; rfl)
            clear q1 q2 q3 hal haf
            go_wp2_with (first
              | (go_at_call 40; with_reducible refine Calls.mono (c1 _) ?_; rintro e w1 ⟨rfl, rfl⟩; clear c1)
              | (go_at_call 40; with_reducible refine Calls.mono (c3 _) ?_; rintro e w1 ⟨rfl, rfl⟩; clear c3))
            go_roundw
            case rel => exact ⟨i + 1, by omega, by go_num, E.out, below_drewN H.out _⟩
            case measure => simp [intOf]; omega
          · have c3 := fun k => C1.out x.2 (W.drewN k) (HRW2.out.drewN k)
            rw [decide_eq_false q3] at c3
            have E := Lib.hid (show pairsB K R = false by
              rw [pairsB, haf (by rw [pairB, decide_eq_false q3]; simp)]; rfl)
            clear q1 q2 q3 hal haf
            go_wp2_with (first
              | (go_at_call 40; with_reducible refine Calls.mono (c1 _) ?_; rintro e w1 ⟨rfl, rfl⟩; clear c1)
              | (go_at_call 40; with_reducible refine Calls.mono (c3 _) ?_; rintro e w1 ⟨rfl, rfl⟩; clear c3))
            go_ret
            exact ⟨by rw [E.out]; rfl, below_drewN H.out _⟩
        · have c1 := fun k => C1.out x.1 (W.drewN k) (HRW2.out.drewN k)
          rw [decide_eq_false q2] at c1
          have E := Lib.hid (show pairsB K R = false by
            rw [pairsB, haf (by rw [pairB, decide_eq_false q2]; simp)]; rfl)
          clear q1 q2 hal haf
          go_wp2_with (go_at_call 40; with_reducible refine Calls.mono (c1 _) ?_; rintro e w1 ⟨rfl, rfl⟩; clear c1)
          go_ret
          exact ⟨by rw [E.out]; rfl, below_drewN H.out _⟩
    · have e1 : ¬ (i : Int) < (n : Int) := by omega
      have E := Lib.hid (show pairsB K R = decide K.Nodup by
        rw [pairsB, all_take (by have := EN.out; omega) HN.out]; rfl)
      have c1 := C2.out wr hrw (Nat.le_trans hB (HSZ.out _ HB.out))
      go_wp2_with (go_at_call 48; refine Calls.mono c1 ?_; rintro e w1 ⟨rfl, hb⟩; clear c1; replace HB := Lib.hid (HB.out.trans (hb.mono (HSZ.out _ HB.out))); clear hb)
      go_ret
      exact ⟨by rw [E.out]; rfl, HB.out⟩
end Go.Proofs.Ytnalnhplcchdoaa.Rt
