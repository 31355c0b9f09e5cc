/-
  What the code's laying functions of chapter 1 do: digits, head, Wrap, Int, Octets, Text, each by its contract over the plain mathematics.
-/
import Derived.Test.YtkkpcnibghndgaaDerPlain
import Derived.Test.YtkkpcnibghndgaaMem
import Derived.Test.YtkkpcnibghndgaaShelf
import Derived.Test.YtkkpcnibghndgaaProg
namespace Go.Proofs.Ytkkpcnibghndgaa.DerW
open Go.RowKit Go.Proofs.Ytkkpcnibghndgaa.Mem Go.Proofs.Ytkkpcnibghndgaa.DerP

theorem u8_info : (Try.prog.info? 5).map (fun i => (i.zero, i.size, i.bytes)) = some (some (.int .u8 0), 1, 1) := by kernel_rfl

/-- the digits' block while it is filled: j cells still nought -/
def filled (K m j : Nat) : Array Value := (List.replicate j (bv 0) ++ bvs ((digK K m).drop j)).toArray
theorem filled_start (K m : Nat) : filled K m K = zeros K := by
  rw [filled, List.drop_of_length_le (by rw [length_digK]; exact Nat.le_refl _)]
  simp [zeros, bvs]
theorem filled_end (K m : Nat) : filled K m 0 = (bvs (digK K m)).toArray := by simp [filled]
theorem filled_set (K m j : Nat) (hj : j < K) : (filled K m (j + 1)).setIfInBounds j (bv (UInt8.ofNat (m / 256 ^ (K - 1 - j)))) = filled K m j := by
  have h := drop_step (digK K m) j _ (digK_at K m j hj)
  apply Array.toList_inj.1
  simp only [filled, Array.toList_setIfInBounds]
  rw [h]
  rw [List.set_append_left _ _ (by simp)]
  rw [List.replicate_succ', List.set_append_right _ _ (by simp)]
  simp [bvs]

set_option maxHeartbeats 400000 in
theorem digits_any (m : Nat) (hm : m ≤ 4611686018427387904) (w : World) : Calls Try.prog 36 #[.int .i64 (m : Int)] w fun e w' =>
    ∃ g, e = .returned (.slice (some ⟨g, 0, none⟩) (dig m).length (dig m).length) ∧ w.heap.size ≤ g ∧ Blk w' g 5 (bvs (dig m)).toArray ∧ Below w.heap.size w w' := by
  obtain ⟨i0, hi0, hz0, hs0, hb0⟩ := info_parts u8_info
  have hbl := bitLen_62 m hm
  have hL : (dig m).length = Lib.bitLen m / 8 + 1 := length_dig m
  have hD : dig m = digK (Lib.bitLen m / 8 + 1) m := rfl
  rw [hL, hD]
  have hc : ∀ W, Calls Try.prog 44 #[.int .u64 (m : Int)] W fun e w' => e = .returned (.int .i64 (Lib.bitLen m : Int)) ∧ W = w' := by
    intro W
    have := Try.bits_Len (m : Int) W (by omega) (by omega)
    rw [Int.toNat_natCast] at this
    exact this.mono fun _ _ h => ⟨h.1, h.2.symm⟩
  clear hL hD
  generalize hq : Lib.bitLen m = q at *
  have hmk := run_make_bytes (P := Try.prog) Try.underlying22 hi0 hz0 hs0 hb0 ((q : Int) / 8 + 1) (q / 8 + 1) (by omega) (by omega)
  have HC := Lib.hid hc; clear hc
  have HQ := Lib.hid hq; clear hq
  have hm' : (m : Int) ≤ 4611686018427387904 := by omega
  have hq' : (q : Int) ≤ 63 := by omega
  clear hm hbl hi0 hz0 hs0 hb0
  go_enter Try.func36, Try.ntmps36
  go_wp2_with (go_at_call 44; refine (HC.out _).mono ?_; rintro e w' ⟨rfl, rfl⟩)
  go_loopw [0, 4] (fun n i wr => ∃ j : Nat, j ≤ q / 8 + 1 ∧ i = .int .i64 ((j : Int) - 1) ∧ n = .int .i64 ((m / 256 ^ (q / 8 + 1 - j) : Nat) : Int) ∧ Blk wr w.heap.size 5 (filled (q / 8 + 1) m j) ∧ Below w.heap.size w wr) (fun _ i _ => (intOf i + 1).toNat)
  case atStart =>
    refine ⟨q / 8 + 1, Nat.le_refl _, by congr 1; omega, by simp, ?_, (Below.refl _ _).alloc (Nat.le_refl _) _⟩
    rw [filled_start]
    exact Blk.new _ _ _
  case round =>
    obtain ⟨j, hj, rfl, rfl, hB, hbel⟩ := hrel
    cases j with
    | zero =>
      have e : ((0 : Nat) : Int) - 1 = -1 := rfl
      rw [e]
      go_wp2
      go_ret
      rw [filled_end] at hB
      exact ⟨_, rfl, Nat.le_refl _, hB, hbel⟩
    | succ j =>
      have e : ((j + 1 : Nat) : Int) - 1 = (j : Int) := by omega
      rw [e]
      clear e
      have hf := hB.frozen j
      have hset := hB.set j (bv (UInt8.ofNat (m / 256 ^ (q / 8 + 1 - 1 - j))))
      rw [filled_set _ _ _ (by omega)] at hset
      have hcell : ∃ u, (filled (q / 8 + 1) m (j + 1))[j]? = some u := by
        have : j < (filled (q / 8 + 1) m (j + 1)).size := by simp [filled, bvs, length_digK]; omega
        exact ⟨_, Array.getElem?_eq_getElem this⟩
      obtain ⟨u, hu⟩ := hcell
      have hcu := (hB.cell j).trans hu
      have hdiv : m / 256 ^ (q / 8 + 1 - (j + 1)) ≤ m := Nat.div_le_self _ _
      have hdiv' : ((m / 256 ^ (q / 8 + 1 - (j + 1)) : Nat) : Int) ≤ 4611686018427387904 := by omega
      have hnx := Lib.hid (show m / 256 ^ (q / 8 + 1 - (j + 1)) / 256 = m / 256 ^ (q / 8 + 1 - j) by
        rw [Nat.div_div_eq_div_mul, ← Nat.pow_succ]; congr 2; omega)
      have hpw := Lib.hid (show q / 8 + 1 - 1 - j = q / 8 + 1 - (j + 1) by omega)
      rw [hpw.out] at hset
      generalize m / 256 ^ (q / 8 + 1 - (j + 1)) = y at *
      have HS := Lib.hid hset; clear hset hu
      go_wp2
      refine ⟨⟨j, by omega, rfl, ?_, ?_, hbel.setCell (Nat.le_refl _) _⟩, by simp [intOf]⟩
      · rw [← hnx.out]; rfl
      · have e : bv (UInt8.ofNat y) = .int .u8 ((y : Int) % 256) := by simp [bv]
        rw [← e]
        exact HS.out

theorem ml (n : Nat) (h : n ≤ 1000000) : n ≤ maxLen := by unfold maxLen; omega
/-- a row just built of bytes reads as they are -/
theorem rd_lit (w : World) (t : TypeId) (cs : Array Value) (l : L) (h : cs.toList = bvs l) (N : Nat) (hN : w.heap.size = N) : Rd (w.alloc (.cells cs t)) (N + 1) (some ⟨N, 0, none⟩) (bvs l) := by
  subst hN
  refine .inr ⟨w.heap.size, 0, rfl, by omega, fun i u hu => ?_⟩
  rw [Nat.zero_add, (Blk.new w t cs).cell i]
  rw [← h] at hu
  simpa using hu
theorem byte_nat (n : Nat) (h : n < 256) : bv (UInt8.ofNat n) = .int .u8 (n : Int) := by simp [bv]; omega
set_option maxRecDepth 100000 in
set_option maxHeartbeats 400000 in
theorem head_small (t : UInt8) (n : Nat) (h1 : n < 128) (w : World) : Calls Try.prog 38 #[.int .u8 t.toNat, .int .i64 (n : Int)] w fun e w' =>
    ∃ v, e = .returned v ∧ w'.ownsRow w.heap.size 5 1 v (1 + (szL n).length) (bvs (t :: szL n)) ∧ Below w.heap.size w w' := by
  obtain ⟨i0, hi0, hz0, hs0, hb0⟩ := info_parts u8_info
  have hmk := run_make_room (P := Try.prog) Try.underlying22 hi0 hz0 hs0 hb0 ((n : Int) + 4) (n + 4) (by omega) (by omega)
  have E := Lib.hid (show szL n = [UInt8.ofNat n] by simp [szL, h1])
  have g1 : decide ((n : Int) < 128) = true := by simp; omega
  have hn : (n : Int) ≤ 127 := by omega
  have hown0 : Hid (∀ o, (World.alloc (World.alloc w (.cells (zeros (n + 4)) 5)) o).ownsRow w.heap.size 5 1 (.slice (some ⟨w.heap.size, 0, none⟩) 0 (n + 4)) 0 []) := fun o => (World.ownsRow_made w (zeros (n + 4)) (n + 4) (Nat.le_refl _) (ml _ (by omega)) (by rw [zeros_size]; omega)).alloc o
  have hm1 := Lib.hid (ml 1 (by omega))
  have hm2 := Lib.hid (ml 2 (by omega))
  have hbn := Lib.hid (byte_nat n (by omega))
  clear h1
  go_enter Try.func38, Try.ntmps38
  go_wp2_with (first
    | (at_builtin
       refine wpList_append_rd _ rfl (.tmp 8) (.tmp 10) 22 rfl w.heap.size 5 i0 _ 1 Try.underlying22 hi0 hz0 hs0 hb0 rfl (.slice (some ⟨w.heap.size, 0, none⟩) 0 (n + 4)) 0 [] rfl (hown0.out _) _ _ 1 1 (bvs [t]) rfl rfl (rd_lit _ 5 _ [t] rfl _ (by simp)) (bvs_one _) hm1.out (by omega) (by simp; omega) ?_
       intro v1 w1 hown1 hg1 hat1)
    | (at_builtin
       refine wpList_append_rd _ rfl (.tmp 15) (.tmp 18) 22 rfl w.heap.size 5 i0 _ 1 Try.underlying22 hi0 hz0 hs0 hb0 rfl v1 (0 + 1) ([] ++ bvs [t]) rfl (hown1.alloc _) _ _ 1 1 (bvs [UInt8.ofNat n]) rfl rfl (rd_lit w1 5 _ [UInt8.ofNat n] (by simp [bvs, hbn.out]) _ rfl) (bvs_one _) hm2.out (by omega) (by simp; have := hg1.size; simp at this; omega) ?_
       intro v2 w2 hown2 hg2 hat2))
  go_ret
  have b1 : Below w.heap.size w w1 := (((Below.refl w.heap.size w).alloc (Nat.le_refl _) _).alloc (by simp) _).grown hg1 (by simp; omega) (by intro k hk; simp [Value.ownBlock] at hk; omega)
  have b2 := (b1.alloc b1.size _).grown hg2 (by have := b1.size; simp; omega) (fun k hk => (hown1.lt k hk).1)
  exact ⟨v2, rfl, by rw [E.out]; simpa [bvs] using hown2, b2⟩
set_option maxRecDepth 100000 in
set_option maxHeartbeats 400000 in
theorem head_mid (t : UInt8) (n : Nat) (h1 : ¬ n < 128) (h2 : n ≤ 255) (w : World) : Calls Try.prog 38 #[.int .u8 t.toNat, .int .i64 (n : Int)] w fun e w' =>
    ∃ v, e = .returned v ∧ w'.ownsRow w.heap.size 5 1 v (1 + (szL n).length) (bvs (t :: szL n)) ∧ Below w.heap.size w w' := by
  obtain ⟨i0, hi0, hz0, hs0, hb0⟩ := info_parts u8_info
  have hmk := run_make_room (P := Try.prog) Try.underlying22 hi0 hz0 hs0 hb0 ((n : Int) + 4) (n + 4) (by omega) (by omega)
  have E := Lib.hid (show szL n = [129, UInt8.ofNat n] by simp [szL, h1, h2])
  have g1 : decide ((n : Int) < 128) = false := by simp; omega
  have g2 : decide ((n : Int) ≤ 255) = true := by simp; omega
  have hn : (n : Int) ≤ 255 := by omega
  have hown0 : Hid (∀ o, (World.alloc (World.alloc w (.cells (zeros (n + 4)) 5)) o).ownsRow w.heap.size 5 1 (.slice (some ⟨w.heap.size, 0, none⟩) 0 (n + 4)) 0 []) := fun o => (World.ownsRow_made w (zeros (n + 4)) (n + 4) (Nat.le_refl _) (ml _ (by omega)) (by rw [zeros_size]; omega)).alloc o
  have hm1 := Lib.hid (ml 1 (by omega))
  have hm2 := Lib.hid (ml 3 (by omega))
  have hbn := Lib.hid (byte_nat n (by omega))
  clear h1 h2
  go_enter Try.func38, Try.ntmps38
  go_wp2_with (first
    | (at_builtin
       refine wpList_append_rd _ rfl (.tmp 8) (.tmp 10) 22 rfl w.heap.size 5 i0 _ 1 Try.underlying22 hi0 hz0 hs0 hb0 rfl (.slice (some ⟨w.heap.size, 0, none⟩) 0 (n + 4)) 0 [] rfl (hown0.out _) _ _ 1 1 (bvs [t]) rfl rfl (rd_lit _ 5 _ [t] rfl _ (by simp)) (bvs_one _) hm1.out (by omega) (by simp; omega) ?_
       intro v1 w1 hown1 hg1 hat1)
    | (at_builtin
       refine wpList_append_rd _ rfl (.tmp 23) (.tmp 26) 22 rfl w.heap.size 5 i0 _ 1 Try.underlying22 hi0 hz0 hs0 hb0 rfl v1 (0 + 1) ([] ++ bvs [t]) rfl (hown1.alloc _) _ _ 2 2 (bvs [129, UInt8.ofNat n]) rfl rfl (rd_lit w1 5 _ [129, UInt8.ofNat n] (by simp [bvs, hbn.out]; rfl) _ rfl) (bvs_one _) hm2.out (by omega) (by simp; have := hg1.size; simp at this; omega) ?_
       intro v2 w2 hown2 hg2 hat2))
  go_ret
  have b1 : Below w.heap.size w w1 := (((Below.refl w.heap.size w).alloc (Nat.le_refl _) _).alloc (by simp) _).grown hg1 (by simp; omega) (by intro k hk; simp [Value.ownBlock] at hk; omega)
  have b2 := (b1.alloc b1.size _).grown hg2 (by have := b1.size; simp; omega) (fun k hk => (hown1.lt k hk).1)
  exact ⟨v2, rfl, by rw [E.out]; simpa [bvs] using hown2, b2⟩
set_option maxRecDepth 100000 in
set_option maxHeartbeats 400000 in
theorem head_big (t : UInt8) (n : Nat) (h1 : ¬ n < 128) (h2 : ¬ n ≤ 255) (h3 : n ≤ 65535) (w : World) : Calls Try.prog 38 #[.int .u8 t.toNat, .int .i64 (n : Int)] w fun e w' =>
    ∃ v, e = .returned v ∧ w'.ownsRow w.heap.size 5 1 v (1 + (szL n).length) (bvs (t :: szL n)) ∧ Below w.heap.size w w' := by
  obtain ⟨i0, hi0, hz0, hs0, hb0⟩ := info_parts u8_info
  have hmk := run_make_room (P := Try.prog) Try.underlying22 hi0 hz0 hs0 hb0 ((n : Int) + 4) (n + 4) (by omega) (by omega)
  have E := Lib.hid (show szL n = [130, UInt8.ofNat (n / 256), UInt8.ofNat n] by simp [szL, h1, h2])
  have g1 : decide ((n : Int) < 128) = false := by simp; omega
  have g2 : decide ((n : Int) ≤ 255) = false := by simp; omega
  have hn : (n : Int) ≤ 65535 := by omega
  have hown0 : Hid (∀ o, (World.alloc (World.alloc w (.cells (zeros (n + 4)) 5)) o).ownsRow w.heap.size 5 1 (.slice (some ⟨w.heap.size, 0, none⟩) 0 (n + 4)) 0 []) := fun o => (World.ownsRow_made w (zeros (n + 4)) (n + 4) (Nat.le_refl _) (ml _ (by omega)) (by rw [zeros_size]; omega)).alloc o
  have hm1 := Lib.hid (ml 1 (by omega))
  have hm2 := Lib.hid (ml 4 (by omega))
  have hbn := Lib.hid (show bvs [130, UInt8.ofNat (n / 256), UInt8.ofNat n] = [.int .u8 130, .int .u8 ((n : Int) / 256), .int .u8 ((n : Int) % 256)] by simp [bvs, bv]; omega)
  clear h1 h2 h3
  go_enter Try.func38, Try.ntmps38
  go_wp2_with (first
    | (at_builtin
       refine wpList_append_rd _ rfl (.tmp 8) (.tmp 10) 22 rfl w.heap.size 5 i0 _ 1 Try.underlying22 hi0 hz0 hs0 hb0 rfl (.slice (some ⟨w.heap.size, 0, none⟩) 0 (n + 4)) 0 [] rfl (hown0.out _) _ _ 1 1 (bvs [t]) rfl rfl (rd_lit _ 5 _ [t] rfl _ (by simp)) (bvs_one _) hm1.out (by omega) (by simp; omega) ?_
       intro v1 w1 hown1 hg1 hat1)
    | (at_builtin
       refine wpList_append_rd _ rfl (.tmp 28) (.tmp 34) 22 rfl w.heap.size 5 i0 _ 1 Try.underlying22 hi0 hz0 hs0 hb0 rfl v1 (0 + 1) ([] ++ bvs [t]) rfl (hown1.alloc _) _ _ 3 3 (bvs [130, UInt8.ofNat (n / 256), UInt8.ofNat n]) rfl rfl (rd_lit w1 5 _ [130, UInt8.ofNat (n / 256), UInt8.ofNat n] (by rw [hbn.out]) _ rfl) (bvs_one _) hm2.out (by omega) (by simp; have := hg1.size; simp at this; omega) ?_
       intro v2 w2 hown2 hg2 hat2))
  go_ret
  have b1 : Below w.heap.size w w1 := (((Below.refl w.heap.size w).alloc (Nat.le_refl _) _).alloc (by simp) _).grown hg1 (by simp; omega) (by intro k hk; simp [Value.ownBlock] at hk; omega)
  have b2 := (b1.alloc b1.size _).grown hg2 (by have := b1.size; simp; omega) (fun k hk => (hown1.lt k hk).1)
  exact ⟨v2, rfl, by rw [E.out]; simpa [bvs] using hown2, b2⟩
theorem head_any (t : UInt8) (n : Nat) (h : n ≤ 65535) (w : World) : Calls Try.prog 38 #[.int .u8 t.toNat, .int .i64 (n : Int)] w fun e w' =>
    ∃ v, e = .returned v ∧ w'.ownsRow w.heap.size 5 1 v (1 + (szL n).length) (bvs (t :: szL n)) ∧ Below w.heap.size w w' := by
  by_cases h1 : n < 128
  · exact head_small t n h1 w
  · by_cases h2 : n ≤ 255
    · exact head_mid t n h1 h2 w
    · exact head_big t n h1 h2 h w

end Go.Proofs.Ytkkpcnibghndgaa.DerW
