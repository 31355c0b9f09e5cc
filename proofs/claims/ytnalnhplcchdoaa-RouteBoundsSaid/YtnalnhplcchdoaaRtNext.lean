/-
  The code's Next, Walk, Allowed.
-/
import Derived.Test.YtnalnhplcchdoaaRtVia
set_option linter.unusedVariables false
namespace Go.Proofs.Ytnalnhplcchdoaa.Rt
open Go.RowKit Go.Proofs.Ytnalnhplcchdoaa.Mem Go.Proofs.Ytnalnhplcchdoaa.Nm

theorem find_at {S : List L} {p : L → Bool} {i : Nat} (hi : i < S.length) (h : p (pl S i) = true) (hn : ∀ k, k < i → p (pl S k) = false) : S.find? p = some (pl S i) := by
  rw [List.find?_eq_some_iff_getElem]
  refine ⟨h, i, hi, (pl_lt hi).symm, fun j hj => ?_⟩
  have := hn j hj
  rw [pl_lt (by omega)] at this
  simp [this]
theorem find_none {S : List L} {p : L → Bool} (hn : ∀ k, k < S.length → p (pl S k) = false) : S.find? p = none := by
  rw [List.find?_eq_none]
  intro x hx
  obtain ⟨i, hi, rfl⟩ := mem_pl hx
  simp [hn i hi]
theorem between_small {a b x : L} {n : Nat} (ha : a.length ≤ n) (hb : b.length ≤ n) (h : x ∈ betweenL a b) : x.length ≤ n := by
  rw [betweenL] at h
  split at h
  · simp at h
  · have h2 := List.mem_of_mem_drop ((List.dropLast_sublist _).subset h)
    rcases path_mem h2 with h3 | h3
    · exact Nat.le_trans (mem_len h3) ha
    · exact Nat.le_trans (mem_len h3) hb
theorem steps_small {T : Tp} {a b x : L} (hs : Sm T) (ha : a.length ≤ 1000000) (hb : b.length ≤ 1000000) (h : x ∈ stepsL T a b) : x.length ≤ 1000000 := by
  rw [stepsL] at h
  split at h
  · rename_i q
    obtain ⟨p, hp, e⟩ := vl_mem q
    rw [List.mem_singleton] at h
    rw [h, e]
    cases hv : p.v with
    | nil => exact hb
    | cons c t => have := hs.vt p hp c (by rw [hv]; exact List.mem_cons_self); simp only [List.headD_cons]; omega
  · rcases List.mem_cons.1 h with h | h
    · rw [h]; exact hb
    · exact between_small ha hb (List.mem_reverse.1 h)
theorem steps_count (T : Tp) (a b : L) : (stepsL T a b).length ≤ 10 := by
  rw [stepsL]
  split
  · simp
  · have := between_len a b; simp; omega
theorem next_self (T : Tp) (a : L) : nxS T a a = [] ∧ nxB T a a = false := by rw [nxS, nxB, nextO, if_pos rfl]; exact ⟨rfl, rfl⟩
theorem next_at {T : Tp} {a b : L} {i : Nat} (hab : a ≠ b) (hi : i < (stepsL T a b).length) (h : linkL T a (pl (stepsL T a b) i) = true) (hn : ∀ k, k < i → linkL T a (pl (stepsL T a b) k) = false) : nxS T a b = pl (stepsL T a b) i ∧ nxB T a b = true := by
  rw [nxS, nxB, nextO, if_neg hab, find_at hi h hn]; exact ⟨rfl, rfl⟩
theorem next_none {T : Tp} {a b : L} (hab : a ≠ b) (hn : ∀ k, k < (stepsL T a b).length → linkL T a (pl (stepsL T a b) k) = false) : nxS T a b = [] ∧ nxB T a b = false := by
  rw [nxS, nxB, nextO, if_neg hab, find_none hn]; exact ⟨rfl, rfl⟩

set_option maxHeartbeats 1600000 in
theorem next_any (T : Tp) (v : Value) (B : Nat) (a b : L) (w : World) (hs : Sm T) (hv : TpV w B v T) (hB : B ≤ w.heap.size) (ha : a.length ≤ 1000000) (hb : b.length ≤ 1000000) :
    Calls Try.prog 17 #[v, .string ⟨a.toArray⟩, .string ⟨b.toArray⟩] w fun e w' => e = .returned (.tuple #[.string ⟨(nxS T a b).toArray⟩, .bool (nxB T a b)]) ∧ Below w.heap.size w w' := by
  have hv' := hv
  obtain ⟨v1, v2, v3, rfl, ⟨A1, d1, rfl, hc1, r1⟩, ⟨A2, d2, rfl, hc2, r2⟩, ⟨A3, d3, rfl, hc3, r3⟩⟩ := hv'
  obtain ⟨N, eN⟩ : ∃ N, N = w.heap.size := ⟨_, rfl⟩
  have hbb := (Below.refl w.heap.size w).alloc (Nat.le_refl _) (.cells #[.slice A1 T.R.length d1, .slice A2 T.K.length d2, .slice A3 T.P.length d3] 26)
  have c1 := steps_any T _ B a b _ hs (hv.below (hbb.mono hB)) (Nat.le_trans hB hbb.size) (by omega) (by omega)
  have HB := Lib.hid hbb; clear hbb
  have HK := Lib.hid (Blk.new w 26 #[.slice A1 T.R.length d1, .slice A2 T.K.length d2, .slice A3 T.P.length d3])
  have HLK := Lib.hid (fun r w1 (hb : Below N w w1) => linked_any T _ B a r w1 hs (hv.below (hb.mono (by omega))) (Nat.le_trans hB (by have := hb.size; omega)))
  rw [← eN] at HB
  have CL := Lib.hid (fun x (h : x ∈ stepsL T a b) w1 => clone_any x w1 (by have := steps_small hs ha hb h; omega))
  have HC := Lib.hid (steps_count T a b)
  have ENA := Lib.hid (fun i => @next_at T a b i); have ENN := Lib.hid (@next_none T a b)
  have EN0 := Lib.hid eN
  rw [← eN]
  have HSZ := Lib.hid (show ∀ w1 : World, Below N w w1 → N ≤ w1.heap.size from fun w1 h => by have := h.size; have := EN0.out; omega)
  clear r1 r2 r3 hc1 hc2 hc3 hs hv ha hb eN
  by_cases hab : a = b
  · have E := Lib.hid (next_self T a)
    have t1 : (a == b) = true := by simpa using hab
    rw [← hab] at t1 ⊢
    clear hab
    go_enter Try.func17, Try.ntmps17
    go_wp2
    go_ret2
    exact ⟨by rw [E.out.1, E.out.2]; rfl, HB.out⟩
  · have t1 : (a == b) = false := by simpa using hab
    have HAB := Lib.hid hab; clear hab
    obtain ⟨S, eS⟩ : ∃ S, S = stepsL T a b := ⟨_, rfl⟩
    rw [← eS] at c1 CL HC ENA ENN
    clear eS
    go_enter Try.func17, Try.ntmps17
    go_wp2_with (go_at_call 37; refine Calls.mono c1 ?_; rintro e w1 ⟨u, rfl, ⟨A5, c5, rfl, hc5, r5⟩, hb⟩; clear c1; replace HK := Lib.hid (HK.out.below hb); replace HB := Lib.hid (HB.out.trans (hb.mono (HSZ.out _ HB.out))); have HR := Lib.hid r5; clear hb r5 hc5)
    obtain ⟨n, en⟩ : ∃ n, n = S.length := ⟨_, rfl⟩
    rw [← en] at HC ENN ⊢
    have EN := Lib.hid en; clear en
    have hn10 := HC.out
    go_loopw [18] (fun iv wr => ∃ i : Nat, i ≤ n ∧ iv = .int .i64 (i : Int) ∧ (∀ k, k < i → linkL T a (pl S k) = false) ∧ Below w1.heap.size w1 wr) (fun iv _ => n - (intOf iv).toNat)
    case atStart => exact ⟨0, Nat.zero_le _, rfl, fun k h => absurd h (Nat.not_lt_zero k), Below.refl _ _⟩
    case round =>
      obtain ⟨i, hi, rfl, hn, hb1⟩ := hrel
      have HN := Lib.hid hn; clear hn
      have HB1 := Lib.hid hb1; clear hb1
      have HB2 := Lib.hid (HB.out.trans (HB1.out.mono (HSZ.out _ HB.out)))
      by_cases hlt : i < n
      · have e1 : (i : Int) < (n : Int) := by omega
        have e2 : (0 : Int) ≤ (i : Int) := by omega
        have him : i < S.length := by rw [← EN.out]; exact hlt
        obtain ⟨bx, o, rfl, _, h1⟩ := rd_txt (HR.out.below HB1.out) him
        have c2 := HLK.out (pl S i) wr HB2.out
        have c3 := CL.out (pl S i) (pl_mem him)
        have HKr := HK.out.below HB1.out
        have k0 := HKr.cell 0; have k1 := HKr.cell 1; have k2 := HKr.cell 2
        simp only [List.getElem?_toArray, List.getElem?_cons_zero, List.getElem?_cons_succ] at k0 k1 k2
        clear HKr
        cases hx : linkL T a (pl S i) with
        | true =>
          rw [hx] at c2
          have E := Lib.hid (ENA.out _ HAB.out him hx HN.out)
          clear hx him
          go_wp2_with (first
            | (go_at_call 21; refine Calls.mono c2 ?_; rintro e w3 ⟨rfl, hb⟩; clear c2; have H3 := Lib.hid (HB2.out.trans (hb.mono (HSZ.out _ HB2.out))); clear hb)
            | (go_at_call 38; refine Calls.mono (c3 w3) ?_; rintro e w4 ⟨rfl, hb⟩; clear c3; have H4 := Lib.hid (H3.out.trans (hb.mono (HSZ.out _ H3.out))); clear hb))
          go_ret2
          exact ⟨by rw [E.out.1, E.out.2]; rfl, H4.out⟩
        | false =>
          rw [hx] at c2
          have E := Lib.hid hx
          clear hx him
          go_wp2_with (go_at_call 21; refine Calls.mono c2 ?_; rintro e w3 ⟨rfl, hb⟩; clear c2; have H3 := Lib.hid (HB1.out.trans (hb.mono HB1.out.size)); clear hb)
          go_roundw
          case rel => exact ⟨i + 1, by omega, by go_num, fun k hk => by
            by_cases q : k = i
            · rw [q]; exact E.out
            · exact HN.out k (by omega), H3.out⟩
          case measure => simp [intOf]; omega
      · have e1 : ¬ (i : Int) < (n : Int) := by omega
        have E := Lib.hid (ENN.out HAB.out fun k hk => HN.out k (by omega))
        go_wp2
        go_ret2
        exact ⟨by rw [E.out.1, E.out.2]; rfl, HB2.out⟩
end Go.Proofs.Ytnalnhplcchdoaa.Rt
