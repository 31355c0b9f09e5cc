/-
  Rows that a call lays down for a variadic function; the law's own bytes that are counted, the known Sum.
-/
import Derived.Test.YthnggkfhoeaclaaSiRefN
set_option linter.unusedVariables false
namespace Go.Proofs.Ythnggkfhoeaclaa.Si
open Go.RowKit Go.Proofs.Ythnggkfhoeaclaa.Mem

theorem u8_info : (Try.prog.info? 5).map (fun i => (i.zero, i.size, i.bytes)) = some (some (.int .u8 0), 1, 1) := by kernel_rfl
theorem rd_words (w : World) (t : TypeId) (cs : Array Value) (l : List Value) (h : cs.toList = l) (N : Nat) (hN : w.heap.size = N) : Rd (w.alloc (.cells cs t)) (N + 1) (some ⟨N, 0, none⟩) l := by
  subst hN
  refine .inr ⟨w.heap.size, 0, rfl, by omega, fun i u hu => ?_⟩
  rw [Nat.zero_add, (Blk.new w t cs).cell i]
  rw [← h] at hu
  simpa using hu

theorem own_push {w w' : World} {base : Nat} {t : TypeId} {v : Value} {n : Nat} {xs : List Value} {o : Obj} (h : w.ownsRow base t 1 v n xs) (e : w'.heap = w.heap.push o) : w'.ownsRow base t 1 v n xs := by
  obtain ⟨hl, h | ⟨g, cap, cur, hv, hg, hcur, hr⟩⟩ := h
  · exact ⟨hl, .inl h⟩
  · refine ⟨hl, .inr ⟨g, cap, cur, hv, hg, ?_, hr⟩⟩
    have hlt := Blk.lt (t := t) (cs := cur) hcur
    rw [e, Array.getElem?_push_lt hlt, ← Array.getElem?_eq_getElem hlt]
    exact hcur
theorem rows_alloc {w : World} (t : TypeId) (vs : List Value) (rows : List (List UInt8)) (cs : Array Value) (hc : cs.toList = vs) (hl : vs.length = rows.length)
    (h : ∀ i (h : i < rows.length), ∃ (Ai : Option Addr) (ci : Nat), vs[i]? = some (.slice Ai (rows[i]).length ci) ∧ Rd w w.heap.size Ai (bvs rows[i])) : Rows (w.alloc (.cells cs t)) (w.alloc (.cells cs t)).heap.size (some ⟨w.heap.size, 0, none⟩) rows := by
  refine ⟨vs, hl, (rd_words w t cs vs hc w.heap.size rfl).more (by simp), fun i hi => ?_⟩
  obtain ⟨Ai, ci, h1, h2⟩ := h i hi
  exact ⟨Ai, ci, h1, (h2.alloc (Nat.le_refl _) _).more (by simp)⟩
/-- one row, laid down -/
theorem sum_one (ks : Nat → UInt8) (A : Option Addr) (n c : Nat) (l : List UInt8) (w : World) (hn : n = l.length) (hl : n < 100000) (hr : Rd w w.heap.size A (bvs l)) :
    Calls Try.prog 7 #[.agg (key16 ks), .slice (some ⟨w.heap.size, 0, none⟩) 1 1] (w.alloc (.cells #[.slice A n c] 22)) fun e w' => e = .returned (wv (sumOf ks l)) ∧ Below w.heap.size w w' := by
  have h := sum_any ks (some ⟨w.heap.size, 0, none⟩) 1 1 [l] (w.alloc (.cells #[.slice A n c] 22)) rfl (by decide) (by simp [flat]; omega)
    (rows_alloc _ [.slice A n c] [l] _ rfl rfl (fun i hi => by
      obtain rfl : i = 0 := by simpa using hi
      exact ⟨A, c, by simp [hn], hr⟩))
  have e : flat [l] = l := by simp [flat]
  rw [e] at h
  exact h.mono fun e w' hh => ⟨hh.1, ((Below.refl w.heap.size w).alloc (Nat.le_refl _) _).trans (hh.2.mono (by simp))⟩
/-- no row -/
theorem sum_none (ks : Nat → UInt8) (c : Nat) (w : World) :
    Calls Try.prog 7 #[.agg (key16 ks), .slice none 0 c] w fun e w' => e = .returned (wv (sumOf ks [])) ∧ Below w.heap.size w w' :=
  sum_any ks none 0 c [] w rfl (by decide) (by decide) ⟨[], rfl, .inl rfl, fun i hi => by simp at hi⟩

def cnt (n : Nat) : List UInt8 := (List.range n).map UInt8.ofNat
theorem cnt_length (n : Nat) : (cnt n).length = n := by simp [cnt]
theorem cnt_next (i : Nat) (h : i < 256) : bvs (cnt i) ++ [.int .u8 (i : Int)] = bvs (cnt (i + 1)) := by
  unfold cnt
  rw [List.range_succ, List.map_append, bvs_append]
  congr 1
  simp [bvs, bv]
  omega
theorem own_read {w : World} {base : Nat} {t : TypeId} {v : Value} {n : Nat} {xs : List Value} (h : w.ownsRow base t 1 v n xs) : ∃ A c, v = .slice A n c ∧ n ≤ c ∧ Rd w w.heap.size A xs := by
  have h0 := h
  obtain ⟨hl, ⟨rfl, hn⟩ | ⟨g, cap, cur, rfl, _, _, hcap, _⟩⟩ := h
  · subst hn
    exact ⟨none, 0, rfl, Nat.le_refl _, Rd.of_own h0⟩
  · exact ⟨_, cap, rfl, hcap, Rd.of_own h0⟩
set_option maxRecDepth 100000 in
set_option maxHeartbeats 1600000 in
theorem counted_any (n : Nat) (w : World) (hn : n ≤ 100) : Calls Try.prog 17 #[.int .i64 (n : Int)] w fun e w' => ∃ A c, e = .returned (.slice A n c) ∧ n ≤ c ∧ Rd w' w'.heap.size A (bvs (cnt n)) ∧ Below w.heap.size w w' := by
  obtain ⟨ib, hi0, hz0, hs0, hb0⟩ := info_parts u8_info
  have e0 : (n : Int) ≤ 100 := by omega
  have HN := Lib.hid hn; clear hn
  go_enter Try.func17, Try.ntmps17
  go_wp2_with fail
  go_loopw [3, 4] (fun v iv wr => ∃ i : Nat, i ≤ n ∧ iv = .int .i64 (i : Int) ∧ wr.ownsRow w.heap.size 5 1 v i (bvs (cnt i)) ∧ Below w.heap.size w wr) (fun _ iv _ => n - (intOf iv).toNat)
  case atStart => exact ⟨0, Nat.zero_le _, rfl, ⟨rfl, .inl ⟨rfl, rfl⟩⟩, Below.refl _ _⟩
  case round =>
    obtain ⟨i, hi, rfl, hown, hb⟩ := hrel
    have HO := Lib.hid hown; clear hown
    have HB := Lib.hid hb; clear hb
    by_cases hx : i = n
    · subst hx
      obtain ⟨A, c, rfl, hc, hr⟩ := own_read HO.out
      have HR := Lib.hid hr; clear hr
      have HC := Lib.hid hc; clear hc
      go_wp2_with fail
      go_ret
      exact ⟨A, c, rfl, HC.out, HR.out, HB.out⟩
    · have hlt : i < n := by omega
      have e1 : (i : Int) < (n : Int) := by omega
      have e2 : (0 : Int) ≤ (i : Int) := by omega
      have e3 : (i : Int) < 100 := by omega
      have hw8 : IntKind.u8.wrap (i : Int) = (i : Int) := by rw [IntKind.wrap_u8']; omega
      have HX := Lib.hid hx; clear hx
      have HI := Lib.hid hi; clear hi
      go_wp2_with (first | (at_builtin; refine wpList_append_rd _ (by rfl) (.tmp 10) (.tmp 13) 22 (by rfl) w.heap.size 5 ib _ 1 Try.underlying22 hi0 hz0 hs0 hb0 (by rfl) _ i (bvs (cnt i)) (by rfl) (own_push HO.out (by rfl)) (wr.heap.size + 1) (some ⟨wr.heap.size, 0, none⟩) 1 1 [.int .u8 (i : Int)] (by rfl) (by rfl) (rd_words wr 5 _ [.int .u8 (i : Int)] (by rfl) _ rfl) (by simp [Value.oneCell']) (by unfold maxLen; omega) (by omega) (by have := HB.out.size; simp; omega) ?_; intro v6 w6 hown6 hgrow6 hat6; have O6 := Lib.hid hown6; have G6 := Lib.hid hgrow6; clear hown6 hgrow6 hat6) | fail)
      go_roundw
      case rel =>
        refine ⟨i + 1, by omega, by go_num, by rw [← cnt_next i (by omega)]; exact O6.out, ?_⟩
        exact (HB.out.alloc HB.out.size _).grown G6.out (by have := HB.out.size; simp; omega) (fun k hk => (HO.out.lt k hk).1)
      case measure => simp [intOf]; omega
theorem ex_sum2 : sumOf (ksOf (cnt 16)) (cnt 15) = 0xa129ca6149be45e5#64 := by decide +kernel
set_option maxRecDepth 100000 in
set_option maxHeartbeats 1600000 in
theorem known_any (w : World) : Calls Try.prog 10 #[] w fun e w' => e = .returned (.bool true) ∧ Below w.heap.size w w' := by
  have c1 := counted_any 16 w (by decide)
  have ex : wv (sumOf (ksOf (cnt 16)) (cnt 15)) = .int .u64 11613035633349379557 := by rw [ex_sum2]; rfl
  go_enter Try.func10, Try.ntmps10
  go_wp2_with (first
    | (go_at_call 17; refine Calls.mono c1 ?_; rintro e w1 ⟨A1, n1, rfl, hc1, hr1, hb1⟩; clear c1; have c2 := key_any A1 16 n1 (cnt 16) w1 (cnt_length 16).symm hr1; have HB1 := Lib.hid hb1; clear hb1 hr1 hc1)
    | (go_at_call 8; refine Calls.mono c2 ?_; rintro e w2 ⟨rfl, hb2⟩; clear c2; have c3 := counted_any 15 w2 (by decide); have HB2 := Lib.hid hb2; clear hb2)
    | (go_at_call 17; refine Calls.mono c3 ?_; rintro e w3 ⟨A3, n3, rfl, hc3, hr3, hb3⟩; clear c3; have c4 := sum_one (ksOf (cnt 16)) A3 15 n3 (cnt 15) w3 (cnt_length 15).symm (by decide) hr3; rw [ex] at c4; have HB3 := Lib.hid hb3; clear hb3 hr3 hc3 ex)
    | (go_at_call 7; refine Calls.mono c4 ?_; rintro e w4 ⟨rfl, hb4⟩; clear c4; have HB4 := Lib.hid hb4; clear hb4))
  go_ret
  exact ⟨rfl, bt (bt (bt HB1.out HB2.out) HB3.out) HB4.out⟩
end Go.Proofs.Ythnggkfhoeaclaa.Si
