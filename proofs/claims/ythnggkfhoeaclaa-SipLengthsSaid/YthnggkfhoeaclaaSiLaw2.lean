/-
  The law of any length.
-/
import Derived.Test.YthnggkfhoeaclaaSiLaw1
set_option linter.unusedVariables false
namespace Go.Proofs.Ythnggkfhoeaclaa.SiL
open Go.RowKit Go.Proofs.Ythnggkfhoeaclaa.Mem Go.Proofs.Ythnggkfhoeaclaa.Si

/-- the first i of n bytes are laid, the others are nought -/
def part (c : UInt8) (n i : Nat) : List UInt8 := (List.range n).map fun j => if j < i then c ^^^ UInt8.ofNat j else 0
theorem part_length (c : UInt8) (n i : Nat) : (part c n i).length = n := by simp [part]
theorem part_zero (c : UInt8) (n : Nat) : (bvs (part c n 0)).toArray = zeros n := by
  unfold part zeros bvs
  congr 1
  simp only [Nat.not_lt_zero, if_false, List.map_map]
  apply List.ext_getElem?
  intro j
  rw [List.getElem?_map, List.getElem?_replicate]
  rcases Nat.lt_or_ge j n with h | h
  · simp [h]
  · rw [List.getElem?_eq_none (by simpa using h), if_neg (by omega)]; rfl
theorem part_set (c : UInt8) (n i : Nat) (h : i < n) : (bvs (part c n i)).toArray.setIfInBounds i (bv (c ^^^ UInt8.ofNat i)) = (bvs (part c n (i + 1))).toArray := by
  rw [List.setIfInBounds_toArray]
  congr 1
  apply List.ext_getElem?
  intro j
  unfold bvs part
  rw [List.getElem?_set, List.map_map, List.map_map, List.getElem?_map, List.getElem?_map]
  by_cases hj : i = j
  · subst hj
    simp [h]
  · rw [if_neg hj]
    rcases Nat.lt_or_ge j n with g | g
    · have e : (j < i) = (j < i + 1) := propext ⟨by omega, by omega⟩
      simp [g, e]
    · rw [List.getElem?_eq_none (by simpa using g)]; rfl
theorem part_at (c : UInt8) (n i : Nat) (h : i < n) : (bvs (part c n i)).toArray[i]? = some (.int .u8 0) := by
  rw [List.getElem?_toArray]
  unfold bvs part
  simp [h, bv]
theorem xor_u8 (a b : UInt8) : bits .xor .u8 (a.toNat : Int) (b.toNat : Int) = ((a ^^^ b).toNat : Int) := by
  rw [u8_xor_nat _ _ a.toNat_lt b.toNat_lt, UInt8.toNat_xor]
theorem wrap_u8 (i : Nat) : IntKind.u8.wrap (i : Int) = ((UInt8.ofNat i).toNat : Int) := by
  rw [IntKind.wrap_u8']; simp
theorem rd_blk {w : World} {g : Nat} {t : TypeId} {l : List UInt8} (h : Blk w g t (bvs l).toArray) : Rd w (g + 1) (some ⟨g, 0, none⟩) (bvs l) := by
  refine .inr ⟨g, 0, rfl, by omega, fun i u hu => ?_⟩
  rw [Nat.zero_add, h.cell, List.getElem?_toArray, hu]
set_option maxRecDepth 100000 in
set_option maxHeartbeats 1600000 in
theorem lengths (A : Option Addr) (l : List UInt8) (c : Nat) (N : Int) (b : UInt8) (w : World) (hr : Rd w w.heap.size A (bvs l)) (hc : l.length ≤ c) (hm : c ≤ maxLen) (wn : (Lit.int .i64 N).wf = true) :
    Calls Try.prog 5 #[.slice A l.length c, .int .i64 N, .int .u8 (b.toNat : Int)] w fun e w' => e = .returned (.bool true) ∧ Below w.heap.size w w' := by
  obtain ⟨k, ek⟩ : ∃ n, n = l.length := ⟨_, rfl⟩
  rw [← ek]
  clear wn
  by_cases hx : N < 0 ∨ 600 < N
  · have t : (decide (N < 0) = true) ∨ (decide (N < 0) = false ∧ decide (600 < N) = true) := by
      rcases hx with h | h
      · exact .inl (by simp [h])
      · exact .inr ⟨by simp; omega, by simp [h]⟩
    have HB := Lib.hid (Below.refl w.heap.size w)
    clear ek hx
    rcases t with t | ⟨t, t2⟩ <;> (
      go_enter Try.func5, Try.ntmps5
      go_wp2_with fail
      go_ret
      exact ⟨rfl, HB.out⟩)
  · obtain ⟨n, rfl⟩ : ∃ n : Nat, N = (n : Int) := ⟨N.toNat, by omega⟩
    have h6 : n ≤ 600 := by omega
    have e6 : (n : Int) ≤ 600 := by omega
    have e0 : (0 : Int) ≤ (n : Int) := by omega
    have e6' : decide ((600 : Int) < (n : Int)) = false := by simp; omega
    have e0' : decide ((n : Int) < 0) = false := by simp
    obtain ⟨ib, hi0, hz0, hs0, hb0⟩ := info_parts u8_info
    have hmk := fun W => run_make_bytes (P := Try.prog) (t := 22) (e := 5) Try.underlying22 hi0 hz0 hs0 hb0 (n : Int) n rfl (by omega) W
    obtain ⟨ks, eks⟩ : ∃ ks, ks = ksOf l := ⟨_, rfl⟩
    obtain ⟨x, ex⟩ : ∃ x, x = sumOf ks (part b n n) := ⟨_, rfl⟩
    have ck : ∀ w1, Below w.heap.size w w1 → Calls Try.prog 8 #[.slice A k c] w1 fun e w' => e = .returned (.agg (key16 ks)) ∧ Below w1.heap.size w1 w' := fun w1 h => by rw [eks]; exact key_any A k c l w1 ek ((hr.below h).more h.size)
    obtain ⟨g, eg⟩ : ∃ g, g = w.heap.size := ⟨_, rfl⟩
    rw [← eg] at ck ⊢
    have cs : ∀ w1, Blk w1 g 5 (bvs (part b n n)).toArray → Calls Try.prog 7 #[.agg (key16 ks), .slice (some ⟨w1.heap.size, 0, none⟩) 1 1] (w1.alloc (.cells #[.slice (some ⟨g, 0, none⟩) n n] 22)) fun e w' => e = .returned (wv x) ∧ Below w1.heap.size w1 w' := fun w1 h => by rw [ex]; exact sum_one ks (some ⟨g, 0, none⟩) n n (part b n n) w1 (part_length b n n).symm (by omega) ((rd_blk h).more h.lt)
    have cd : ∀ w1, Blk w1 g 5 (bvs (part b n n)).toArray → Calls Try.prog 9 #[.agg (key16 ks), .slice (some ⟨g, 0, none⟩) n n] w1 fun e w' => e = .returned (wv x) ∧ Below w1.heap.size w1 w' := fun w1 h => by rw [ex]; exact dsum_any ks (some ⟨g, 0, none⟩) n n (part b n n) w1 (part_length b n n).symm (by omega) (Nat.le_refl _) (by unfold maxLen; omega) ((rd_blk h).more h.lt)
    have EG := Lib.hid eg
    clear ek eks ex hx hr hc hm hi0 hz0 hs0 hb0 ib
    go_enter Try.func5, Try.ntmps5
    go_wp2_with fail
    rw [← eg]
    clear eg
    go_loopw [8] (fun iv wr => ∃ i : Nat, i ≤ n ∧ iv = .int .i64 (i : Int) ∧ Below g w wr ∧ Blk wr g 5 (bvs (part b n i)).toArray) (fun iv _ => n - (intOf iv).toNat)
    case atStart => exact ⟨0, Nat.zero_le _, rfl, by rw [EG.out]; exact (Below.refl _ _).alloc (Nat.le_refl _) _, Blk.new_of w g _ _ _ (part_zero b n).symm EG.out.symm⟩
    case round =>
      obtain ⟨i, hi, rfl, hb, hB⟩ := hrel
      have HB := Lib.hid hb; clear hb
      have HK := Lib.hid hB; clear hB
      by_cases hxx : i = n
      · subst hxx
        have c1 := ck wr HB.out
        go_wp2_with (first
          | (go_at_call 8; refine Calls.mono c1 ?_; rintro e w1 ⟨rfl, hb1⟩; clear c1; have K1 := HK.out.below hb1; have H1 := below_then HB.out (by have := HK.out.lt; omega) hb1; have c2 := cs w1 K1; have HB1 := Lib.hid H1; have HK1 := Lib.hid K1; clear hb1 cs H1 K1)
          | (go_at_call 7; refine Calls.mono c2 ?_; rintro e w2 ⟨rfl, hb2⟩; clear c2; have K2 := HK1.out.below hb2; have H2 := below_then HB1.out (by have := HK1.out.lt; omega) hb2; have c3 := ck w2 H2; have HB2 := Lib.hid H2; have HK2 := Lib.hid K2; clear hb2 H2 K2 ck)
          | (go_at_call 8; refine Calls.mono c3 ?_; rintro e w3 ⟨rfl, hb3⟩; clear c3; have K3 := HK2.out.below hb3; have H3 := below_then HB2.out (by have := HK2.out.lt; omega) hb3; have c4 := cd w3 K3; have HB3 := Lib.hid H3; have HK3 := Lib.hid K3; clear hb3 H3 K3 cd)
          | (go_at_call 9; refine Calls.mono c4 ?_; rintro e w4 ⟨rfl, hb4⟩; clear c4; have K4 := HK3.out.below hb4; have H4 := below_then HB3.out (by have := HK3.out.lt; omega) hb4; have c5 := known_any w4; have HB4 := Lib.hid H4; have HK4 := Lib.hid K4; clear hb4 H4 K4)
          | (go_at_call 10; refine Calls.mono c5 ?_; rintro e w5 ⟨rfl, hb5⟩; clear c5; have H5 := below_then HB4.out (by have := HK4.out.lt; omega) hb5; have HB5 := Lib.hid H5; clear hb5 H5))
        go_ret
        exact ⟨rfl, HB5.out⟩
      · have hlt : i < n := by omega
        have f1 : (i : Int) < (n : Int) := by omega
        have f2 : (0 : Int) ≤ (i : Int) := by omega
        have f3 : (i : Int) < 600 := by omega
        obtain ⟨y, ey⟩ : ∃ y, y = UInt8.ofNat i := ⟨_, rfl⟩
        obtain ⟨z, ez⟩ : ∃ z, z = b ^^^ y := ⟨_, rfl⟩
        have hw8 : IntKind.u8.wrap (i : Int) = (y.toNat : Int) := by rw [ey]; exact wrap_u8 i
        have hxo : bits .xor .u8 (b.toNat : Int) (y.toNat : Int) = (z.toNat : Int) := by rw [ez]; exact xor_u8 b y
        have hce : wr.cell? ⟨g, i, none⟩ = some (.int .u8 0) := by rw [HK.out.cell]; exact part_at b n i hlt
        have fz := HK.out.frozen
        have hset := part_set b n i hlt
        rw [← ey, ← ez] at hset
        have HSET := Lib.hid hset; clear hset
        have HXX := Lib.hid hxx; clear hxx
        clear ey ez
        go_wp2_with fail
        go_roundw
        case rel => exact ⟨i + 1, by omega, by go_num, below_set HB.out (Nat.le_refl _) _, by rw [← HSET.out]; exact HK.out.set i (bv z)⟩
        case measure => simp [intOf]; omega
end Go.Proofs.Ythnggkfhoeaclaa.SiL
