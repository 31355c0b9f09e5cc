/-
  slices.Index and Contains at rows of pairs.
-/
import Derived.Test.YtnalnhplcchdoaaRtMem
import Derived.DeepKeys
import Derived.Deep.RegionHeld3
set_option linter.unusedVariables false
namespace Go.Proofs.Ytnalnhplcchdoaa.Rt
open Go.RowKit Go.Proofs.Ytnalnhplcchdoaa.Mem Go.Proofs.Ytnalnhplcchdoaa.Nm

/-- the first place of a pair, or -1 -/
def ixP (x : Pr) (K : List Pr) : Int := if x ∈ K then ((K.findIdx fun y => decide (y = x) : Nat) : Int) else -1
theorem ixp_found {K : List Pr} {x : Pr} {i : Nat} (hi : i < K.length) (h : kl K i = x) (hn : ∀ k, k < i → kl K k ≠ x) : ixP x K = (i : Int) := by
  have hm : x ∈ K := by rw [← h]; exact kl_mem hi
  rw [ixP, if_pos hm]
  congr 1
  rcases Nat.lt_trichotomy (K.findIdx fun y => decide (y = x)) i with g | g | g
  · have := List.findIdx_getElem (p := fun y => decide (y = x)) (w := (by omega : (K.findIdx fun y => decide (y = x)) < K.length))
    exact absurd (by rw [kl_lt (by omega)]; simpa using this) (hn _ g)
  · exact g
  · have := List.not_of_lt_findIdx g
    rw [kl_lt hi] at h
    simp [h] at this
theorem ixp_none {K : List Pr} {x : Pr} (hn : ∀ k, k < K.length → kl K k ≠ x) : ixP x K = -1 := by
  rw [ixP, if_neg]
  intro hm
  obtain ⟨i, hi, e⟩ := mem_kl hm
  exact hn i hi e
theorem ixp_ge (x : Pr) (K : List Pr) : decide (0 ≤ ixP x K) = decide (x ∈ K) := by
  rw [ixP]
  by_cases h : x ∈ K
  · rw [if_pos h]; simp [h]
  · rw [if_neg h]; simp [h]
/-! ### two pairs compared -/
theorem part_str (xs : Array Value) (i : Nat) (u : L) (h : xs[i]? = some (.string ⟨u.toArray⟩)) (w : World) : (part 9 xs (i * Try.prog.cellsOf 9)).run Try.prog w = .ok (.string ⟨u.toArray⟩) w := by
  have c9 : Try.prog.cellsOf 9 = 1 := by kernel_rfl
  have u9 := Try.underlying9
  rw [c9, Nat.mul_one]
  unfold part
  go_simp
theorem eql_str (a b : L) (w : World) : (Op.equalIn 9999 9 (.string ⟨a.toArray⟩) (.string ⟨b.toArray⟩)).run Try.prog w = .ok (decide (a = b)) w := by
  rw [show (9999 : Nat) = 9998 + 1 from rfl, run_equalIn_string w 9998 _ _ _ Try.underlying9]
  congr 1
  rw [ByteArray.toList_eq, ByteArray.toList_eq]
  by_cases h : a = b <;> simp [h]
theorem eql_pair (x y : Pr) (w : World) : (Op.equalIn 10000 43 (.agg #[.string ⟨x.1.toArray⟩, .string ⟨x.2.toArray⟩]) (.agg #[.string ⟨y.1.toArray⟩, .string ⟨y.2.toArray⟩])).run Try.prog w = .ok (decide (x = y)) w := by
  obtain ⟨i0, hi0, _, _, _⟩ := info_parts str_info
  rw [run_equalIn_array w 9999 _ _ Try.underlying43 hi0]
  show (Op.eqItems 9999 9 (Try.prog.cellsOf 9) _ _ [0, 1]).run Try.prog w = _
  have p1 := part_str #[.string ⟨x.1.toArray⟩, .string ⟨x.2.toArray⟩] 0 x.1 rfl
  have p2 := part_str #[.string ⟨x.1.toArray⟩, .string ⟨x.2.toArray⟩] 1 x.2 rfl
  have p3 := part_str #[.string ⟨y.1.toArray⟩, .string ⟨y.2.toArray⟩] 0 y.1 rfl
  have p4 := part_str #[.string ⟨y.1.toArray⟩, .string ⟨y.2.toArray⟩] 1 y.2 rfl
  obtain ⟨a, b⟩ := x
  obtain ⟨c, d⟩ := y
  simp only at p1 p2 p3 p4
  simp only [Op.eqItems, Sem.run_bind, p1, p2, p3, p4, Result.andThen_ok, eql_str, Sem.run_ite, Sem.run_pure]
  by_cases h1 : a = c <;> by_cases h2 : b = d <;> simp [h1, h2]
theorem eql_yes (x y : Pr) (h : x = y) : ∀ w, (Op.equalIn 10000 43 (.agg #[.string ⟨x.1.toArray⟩, .string ⟨x.2.toArray⟩]) (.agg #[.string ⟨y.1.toArray⟩, .string ⟨y.2.toArray⟩])).run Try.prog w = .ok true w := fun w => by rw [eql_pair, decide_eq_true h]
theorem eql_no (x y : Pr) (h : x ≠ y) : ∀ w, (Op.equalIn 10000 43 (.agg #[.string ⟨x.1.toArray⟩, .string ⟨x.2.toArray⟩]) (.agg #[.string ⟨y.1.toArray⟩, .string ⟨y.2.toArray⟩])).run Try.prog w = .ok false w := fun w => by rw [eql_pair, decide_eq_false h]
set_option maxHeartbeats 400000 in
theorem pindex_any (K : List Pr) (A : Option Addr) (c B : Nat) (x : Pr) (w : World) (hl : K.length ≤ 1000000) (hr : RdP w B A K) (hB : B ≤ w.heap.size) :
    Calls Try.prog 53 #[.slice A K.length c, stp x] w fun e w' => e = .returned (.int .i64 (ixP x K)) ∧ Below w.heap.size w w' := by
  have HR := Lib.hid hr; clear hr
  obtain ⟨n, en⟩ : ∃ n, n = K.length := ⟨_, rfl⟩
  rw [← en] at hl ⊢
  have EN := Lib.hid en; clear en
  rw [stp, st, st]
  go_enter Try.func53, Try.ntmps53
  go_wp2
  have HK := Lib.hid (Blk.new w 43 #[.string ⟨x.1.toArray⟩, .string ⟨x.2.toArray⟩])
  obtain ⟨W, eW⟩ : ∃ W, W = w.alloc (.cells #[.string ⟨x.1.toArray⟩, .string ⟨x.2.toArray⟩] 43) := ⟨_, rfl⟩
  rw [← eW] at HK ⊢
  have HB := Lib.hid (show Below w.heap.size w W by rw [eW]; exact (Below.refl _ _).alloc (Nat.le_refl _) _)
  have HG := Lib.hid (show w.heap.size ≤ W.heap.size from HB.out.size)
  obtain ⟨g, eg⟩ : ∃ g, g = w.heap.size := ⟨_, rfl⟩
  rw [← eg] at HK HB hB HG ⊢
  replace HR := Lib.hid ((HR.out.below (HB.out.mono hB)))
  have EG := Lib.hid eg
  clear eW eg hB
  go_loopw [8] (fun iv wr => ∃ i : Nat, i ≤ n ∧ iv = .int .i64 (i : Int) ∧ (∀ k, k < i → kl K k ≠ x) ∧ Drawn W wr) (fun iv _ => n - (intOf iv).toNat)
  case atStart => exact ⟨0, Nat.zero_le _, rfl, fun k h => absurd h (Nat.not_lt_zero k), Drawn.refl _⟩
  case round =>
    obtain ⟨i, hi, rfl, hn, hd⟩ := hrel
    have HN := Lib.hid hn; clear hn
    have hrr : RdP wr B A K := HR.out.keep fun b o _ => by obtain ⟨m, rfl⟩ := hd; rfl
    have hk0 : wr.cell? ⟨g, 0, none⟩ = some (.string ⟨x.1.toArray⟩) := by obtain ⟨m, rfl⟩ := hd; exact HK.out.cell 0
    have hk1 : wr.cell? ⟨g, 1, none⟩ = some (.string ⟨x.2.toArray⟩) := by obtain ⟨m, rfl⟩ := hd; exact HK.out.cell 1
    have HDR := Lib.hid hd; clear hd
    by_cases hlt : i < n
    · have e1 : (i : Int) < (n : Int) := by omega
      have e2 : (0 : Int) ≤ (i : Int) := by omega
      obtain ⟨b, o, rfl, _, h1, h2⟩ := rdp_at hrr (i := i) (by rw [← EN.out]; exact hlt)
      by_cases hx : kl K i = x
      · have t1 := eql_yes x (kl K i) hx.symm
        have E := Lib.hid (ixp_found (by rw [← EN.out]; exact hlt) hx HN.out)
        clear hx
        go_wp2
        go_quiet (fail)
        go_wp2
        go_ret
        exact ⟨by rw [E.out]; rfl, by rw [← EG.out]; exact HB.out.trans ((HDR.out.trans ⟨_, rfl⟩).below.mono HG.out)⟩
      · have t1 := eql_no x (kl K i) fun g => hx g.symm
        have HX := Lib.hid hx; clear hx
        go_wp2
        go_quiet (fail)
        go_wp2
        go_roundw
        case rel => exact ⟨i + 1, by omega, by go_num, fun k hk => by
          by_cases q : k = i
          · rw [q]; exact HX.out
          · exact HN.out k (by omega), HDR.out.trans ⟨_, rfl⟩⟩
        case measure => simp [intOf]; omega
    · have e1 : ¬ (i : Int) < (n : Int) := by omega
      have E := Lib.hid (ixp_none (K := K) (x := x) fun k hk => HN.out k (by have := EN.out; omega))
      go_wp2
      go_ret
      exact ⟨by rw [E.out]; rfl, by rw [← EG.out]; exact HB.out.trans (HDR.out.below.mono HG.out)⟩
set_option maxHeartbeats 400000 in
theorem pcontains_any (K : List Pr) (A : Option Addr) (c B : Nat) (x : Pr) (w : World) (hl : K.length ≤ 1000000) (hr : RdP w B A K) (hB : B ≤ w.heap.size) :
    Calls Try.prog 41 #[.slice A K.length c, stp x] w fun e w' => e = .returned (.bool (decide (x ∈ K))) ∧ Below w.heap.size w w' := by
  have hb := (Below.refl w.heap.size w).alloc (Nat.le_refl _) (.cells #[.string ⟨x.1.toArray⟩, .string ⟨x.2.toArray⟩] 43)
  have c1 := pindex_any K A c B x _ hl (hr.below (hb.mono hB)) (Nat.le_trans hB hb.size)
  have H := Lib.hid hb; clear hb
  have E := Lib.hid (ixp_ge x K)
  obtain ⟨z, ez⟩ : ∃ z, z = ixP x K := ⟨_, rfl⟩
  rw [← ez] at c1
  have EZ := Lib.hid ez; clear ez hr
  rw [stp, st, st] at c1 ⊢
  go_enter Try.func41, Try.ntmps41
  go_wp2_with (go_at_call 53; refine Calls.mono c1 ?_; rintro e w1 ⟨rfl, hb⟩; replace H := Lib.hid (H.out.trans (hb.mono H.out.size)); clear hb)
  go_ret
  exact ⟨by rw [← E.out, ← EZ.out]; rfl, H.out⟩

/-! ### none twice -/
set_option maxHeartbeats 400000 in
theorem once_any (ls : List L) (A : Option Addr) (c B : Nat) (w : World) (hl : ls.length ≤ 1000000) (hc : ls.length ≤ c) (hr : Rd w B A (strs ls)) :
    Calls Try.prog 47 #[.slice A ls.length c] w fun e w' => e = .returned (.bool (decide ls.Nodup)) ∧ w = w' := by
  have HR := Lib.hid hr; clear hr
  have C1 := Lib.hid (fun (i : Nat) (hi : i < ls.length) w1 (h : Rd w1 B A (strs ls)) => Tr.contains_any (ls.take i) A c B (pl ls i) w1 (by simp; omega) (rd_take h (by omega)))
  obtain ⟨n, en⟩ : ∃ n, n = ls.length := ⟨_, rfl⟩
  rw [← en] at hl hc ⊢
  have EN := Lib.hid en; clear en
  go_enter Try.func47, Try.ntmps47
  go_wp2
  go_loop [7] (fun iv => ∃ i : Nat, i ≤ n ∧ iv = .int .i64 (i : Int) ∧ (ls.take i).Nodup) (fun iv => n - (intOf iv).toNat)
  case atStart => exact ⟨0, Nat.zero_le _, rfl, by simp⟩
  case round =>
    obtain ⟨i, hi, rfl, hn⟩ := hrel
    have HN := Lib.hid hn; clear hn
    by_cases hlt : i < n
    · have e1 : (i : Int) < (n : Int) := by omega
      have e2 : (0 : Int) ≤ (i : Int) := by omega
      have e3 : (i : Int) ≤ (c : Int) := by omega
      have him : i < ls.length := by rw [← EN.out]; exact hlt
      have c1 := C1.out i him w HR.out
      have hlen : (ls.take i).length = i := by simp; omega
      rw [hlen] at c1
      have hs := nodup_succ him
      rw [← pl_lt him] at hs
      obtain ⟨b, o, rfl, _, h1⟩ := rd_txt HR.out him
      by_cases hx : pl ls i ∈ ls.take i
      · rw [decide_eq_true hx] at c1
        have E := Lib.hid (show decide ls.Nodup = false by
          rw [decide_eq_false_iff_not]; intro hn
          exact (hs.1 (nodup_take hn)).2 hx)
        clear hx hs hlen him
        go_wp2_with (go_at_call 40; refine Calls.mono c1 ?_; rintro e w1 ⟨rfl, rfl⟩; clear c1)
        go_ret
        exact ⟨by rw [E.out]; rfl, rfl⟩
      · rw [decide_eq_false hx] at c1
        have E := Lib.hid (hs.2 ⟨HN.out, hx⟩)
        clear hx hs hlen him
        go_wp2_with (go_at_call 40; refine Calls.mono c1 ?_; rintro e w1 ⟨rfl, rfl⟩; clear c1)
        go_round
        case rel => exact ⟨i + 1, by omega, by go_num, E.out⟩
        case measure => simp [intOf]; omega
    · have e1 : ¬ (i : Int) < (n : Int) := by omega
      have E := Lib.hid (show decide ls.Nodup = true by
        have h := HN.out
        rw [List.take_of_length_le (by have := EN.out; omega)] at h
        exact decide_eq_true h)
      go_wp2
      go_ret
      exact ⟨by rw [E.out]; rfl, rfl⟩

set_option maxHeartbeats 400000 in
theorem ponce_any (K : List Pr) (A : Option Addr) (c B : Nat) (w : World) (hl : K.length ≤ 1000000) (hc : K.length ≤ c) (hr : RdP w B A K) (hB : B ≤ w.heap.size) :
    Calls Try.prog 48 #[.slice A K.length c] w fun e w' => e = .returned (.bool (decide K.Nodup)) ∧ Below w.heap.size w w' := by
  obtain ⟨N, eN⟩ : ∃ N, N = w.heap.size := ⟨_, rfl⟩
  rw [← eN] at hB ⊢
  have HB0 := Lib.hid (show Below N w w from Below.refl _ _)
  have EN0 := Lib.hid eN; clear eN
  have HSZ := Lib.hid (show ∀ w1 : World, Below N w w1 → N ≤ w1.heap.size from fun w1 h => by have := h.size; have := EN0.out; omega)
  have HR := Lib.hid hr; clear hr
  have C1 := Lib.hid (fun (i : Nat) (hi : i < K.length) w1 (h : RdP w1 B A K) (hB1 : B ≤ w1.heap.size) => pcontains_any (K.take i) A c B (kl K i) w1 (by simp; omega) (rdp_take h) hB1)
  obtain ⟨n, en⟩ : ∃ n, n = K.length := ⟨_, rfl⟩
  rw [← en] at hl hc ⊢
  have EN := Lib.hid en; clear en
  go_enter Try.func48, Try.ntmps48
  go_wp2
  go_loopw [7] (fun iv wr => ∃ i : Nat, i ≤ n ∧ iv = .int .i64 (i : Int) ∧ (K.take i).Nodup ∧ Below N w wr) (fun iv _ => n - (intOf iv).toNat)
  case atStart => exact ⟨0, Nat.zero_le _, rfl, by simp, HB0.out⟩
  case round =>
    obtain ⟨i, hi, rfl, hn, hb⟩ := hrel
    have HN := Lib.hid hn; clear hn
    have HB := Lib.hid hb; clear hb
    by_cases hlt : i < n
    · have e1 : (i : Int) < (n : Int) := by omega
      have e2 : (0 : Int) ≤ (i : Int) := by omega
      have e3 : (i : Int) ≤ (c : Int) := by omega
      have him : i < K.length := by rw [← EN.out]; exact hlt
      have hs := nodup_succ him
      rw [← kl_lt him] at hs
      have hrw := HR.out.below (HB.out.mono hB)
      obtain ⟨b, o, rfl, _, h1, h2⟩ := rdp_at hrw him
      have hlen : (K.take i).length = i := by simp; omega
      have HK := Lib.hid (show Blk (wr.alloc (.cells #[.string ⟨(kl K i).1.toArray⟩, .string ⟨(kl K i).2.toArray⟩] 43)).drew wr.heap.size 43 #[.string ⟨(kl K i).1.toArray⟩, .string ⟨(kl K i).2.toArray⟩] from (Blk.new wr 43 _).drewN 1)
      have H := Lib.hid (show Below N w (wr.alloc (.cells #[.string ⟨(kl K i).1.toArray⟩, .string ⟨(kl K i).2.toArray⟩] 43)).drew from below_drewN (HB.out.alloc (by have := HB.out.size; have := EN0.out; omega) _) 1)
      have c1 := C1.out i him _ (HR.out.below (H.out.mono hB)) (Nat.le_trans hB (by have := H.out.size; have := EN0.out; omega))
      rw [hlen] at c1
      rw [stp, st, st] at c1
      by_cases hx : kl K i ∈ K.take i
      · rw [decide_eq_true hx] at c1
        have E := Lib.hid (show decide K.Nodup = false by
          rw [decide_eq_false_iff_not]; intro hn
          exact (hs.1 (nodup_take hn)).2 hx)
        clear hx hs hlen him
        go_wp2
        go_region_held3 (fun w' => w'.cell? ⟨wr.heap.size, 0, none⟩ = some (.string ⟨(kl K i).1.toArray⟩) ∧ w'.cell? ⟨wr.heap.size, 1, none⟩ = some (.string ⟨(kl K i).2.toArray⟩)) (exact ⟨HK.out.cell 0, HK.out.cell 1⟩) ((go_at_call 41; refine Calls.mono c1 ?_; rintro e w1 ⟨rfl, hb⟩; clear c1; have H1 := Lib.hid (H.out.trans (hb.mono (HSZ.out _ H.out))); replace HK := Lib.hid (HK.out.below hb); clear hb))
        go_wp2
        go_ret
        exact ⟨by rw [E.out]; rfl, H1.out⟩
      · rw [decide_eq_false hx] at c1
        have E := Lib.hid (hs.2 ⟨HN.out, hx⟩)
        clear hx hs hlen him
        go_wp2
        go_region_held3 (fun w' => w'.cell? ⟨wr.heap.size, 0, none⟩ = some (.string ⟨(kl K i).1.toArray⟩) ∧ w'.cell? ⟨wr.heap.size, 1, none⟩ = some (.string ⟨(kl K i).2.toArray⟩)) (exact ⟨HK.out.cell 0, HK.out.cell 1⟩) ((go_at_call 41; refine Calls.mono c1 ?_; rintro e w1 ⟨rfl, hb⟩; clear c1; have H1 := Lib.hid (H.out.trans (hb.mono (HSZ.out _ H.out))); replace HK := Lib.hid (HK.out.below hb); clear hb))
        go_wp2
        go_roundw
        case rel => exact ⟨i + 1, by omega, by go_num, E.out, H1.out⟩
        case measure => simp [intOf]; omega
    · have e1 : ¬ (i : Int) < (n : Int) := by omega
      have E := Lib.hid (show decide K.Nodup = true by
        have h := HN.out
        rw [List.take_of_length_le (by have := EN.out; omega)] at h
        exact decide_eq_true h)
      go_wp2
      go_ret
      exact ⟨by rw [E.out]; rfl, HB.out⟩
end Go.Proofs.Ytnalnhplcchdoaa.Rt
