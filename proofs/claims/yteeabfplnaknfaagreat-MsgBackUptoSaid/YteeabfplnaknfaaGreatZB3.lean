import Derived.Test.YteeabfplnaknfaaGreatProg
import Derived.Lib.MinMax
import Derived.Deep.RegionHeld3
import Derived.Test.YteeabfplnaknfaaGreatZB1
import Derived.Test.YteeabfplnaknfaaGreatZB2
section
namespace Go.Proofs.YteeabfplnaknfaaGreat.DerW
open Go.RowKit Go.Proofs.YteeabfplnaknfaaGreat.Mem Go.Proofs.YteeabfplnaknfaaGreat.DerP

theorem u8_info : (Tryz.prog.info? 5).map (fun i => (i.zero, i.size, i.bytes)) = some (some (.int .u8 0), 1, 1) := by kernel_rfl

def filled (K m j : Nat) : Array Value := (List.replicate j (bv 0) ++ bvs ((digK K m).drop j)).toArray
theorem filled_start (K m : Nat) : filled K m K = zeros K := by
  rw [filled, List.drop_of_length_le (by rw [length_digK]; exact Nat.le_refl _)]
  simp [zeros, bvs]
theorem filled_end (K m : Nat) : filled K m 0 = (bvs (digK K m)).toArray := by simp [filled]
theorem filled_set (K m j : Nat) (hj : j < K) : (filled K m (j + 1)).setIfInBounds j (bv (UInt8.ofNat (m / 256 ^ (K - 1 - j)))) = filled K m j := by
  have h := drop_step (digK K m) j _ (digK_at K m j hj)
  apply Array.toList_inj.1
  simp only [filled, Array.toList_setIfInBounds]
  rw [h]
  rw [List.set_append_left _ _ (by simp)]
  rw [List.replicate_succ', List.set_append_right _ _ (by simp)]
  simp [bvs]

set_option maxHeartbeats 400000 in
theorem digits_any (m : Nat) (hm : m ≤ 4611686018427387904) (w : World) : Calls Tryz.prog 129 #[.int .i64 (m : Int)] w fun e w' =>
    ∃ g, e = .returned (.slice (some ⟨g, 0, none⟩) (dig m).length (dig m).length) ∧ w.heap.size ≤ g ∧ Blk w' g 5 (bvs (dig m)).toArray ∧ Below w.heap.size w w' := by
  obtain ⟨i0, hi0, hz0, hs0, hb0⟩ := info_parts u8_info
  have hbl := bitLen_62 m hm
  have hL : (dig m).length = Lib.bitLen m / 8 + 1 := length_dig m
  have hD : dig m = digK (Lib.bitLen m / 8 + 1) m := rfl
  rw [hL, hD]
  have hc : ∀ W, Calls Tryz.prog 139 #[.int .u64 (m : Int)] W fun e w' => e = .returned (.int .i64 (Lib.bitLen m : Int)) ∧ W = w' := by
    intro W
    exact DerLib.bits_len m W (by omega)
  clear hL hD
  generalize hq : Lib.bitLen m = q at *
  have hmk := run_make_bytes (P := Tryz.prog) Tryz.underlying26 hi0 hz0 hs0 hb0 ((q : Int) / 8 + 1) (q / 8 + 1) (by omega) (by omega)
  have HC := Lib.hid hc; clear hc
  have HQ := Lib.hid hq; clear hq
  have hm' : (m : Int) ≤ 4611686018427387904 := by omega
  have hq' : (q : Int) ≤ 63 := by omega
  clear hm hbl hi0 hz0 hs0 hb0
  go_enter Tryz.func129, Tryz.ntmps129
  go_wp2_with (go_at_call 139; refine (HC.out _).mono ?_; rintro e w' ⟨rfl, rfl⟩)
  go_loopw [0, 4] (fun n i wr => ∃ j : Nat, j ≤ q / 8 + 1 ∧ i = .int .i64 ((j : Int) - 1) ∧ n = .int .i64 ((m / 256 ^ (q / 8 + 1 - j) : Nat) : Int) ∧ Blk wr w.heap.size 5 (filled (q / 8 + 1) m j) ∧ Below w.heap.size w wr) (fun _ i _ => (intOf i + 1).toNat)
  case atStart =>
    refine ⟨q / 8 + 1, Nat.le_refl _, by congr 1; omega, by simp, ?_, (Below.refl _ _).alloc (Nat.le_refl _) _⟩
    rw [filled_start]
    exact Blk.new _ _ _
  case round =>
    obtain ⟨j, hj, rfl, rfl, hB, hbel⟩ := hrel
    cases j with
    | zero =>
      have e : ((0 : Nat) : Int) - 1 = -1 := rfl
      rw [e]
      go_wp2
      go_ret
      rw [filled_end] at hB
      exact ⟨_, rfl, Nat.le_refl _, hB, hbel⟩
    | succ j =>
      have e : ((j + 1 : Nat) : Int) - 1 = (j : Int) := by omega
      rw [e]
      clear e
      have hf := hB.frozen j
      have hset := hB.set j (bv (UInt8.ofNat (m / 256 ^ (q / 8 + 1 - 1 - j))))
      rw [filled_set _ _ _ (by omega)] at hset
      have hcell : ∃ u, (filled (q / 8 + 1) m (j + 1))[j]? = some u := by
        have : j < (filled (q / 8 + 1) m (j + 1)).size := by simp [filled, bvs, length_digK]; omega
        exact ⟨_, Array.getElem?_eq_getElem this⟩
      obtain ⟨u, hu⟩ := hcell
      have hcu := (hB.cell j).trans hu
      have hdiv : m / 256 ^ (q / 8 + 1 - (j + 1)) ≤ m := Nat.div_le_self _ _
      have hdiv' : ((m / 256 ^ (q / 8 + 1 - (j + 1)) : Nat) : Int) ≤ 4611686018427387904 := by omega
      have hnx := Lib.hid (show m / 256 ^ (q / 8 + 1 - (j + 1)) / 256 = m / 256 ^ (q / 8 + 1 - j) by
        rw [Nat.div_div_eq_div_mul, ← Nat.pow_succ]; congr 2; omega)
      have hpw := Lib.hid (show q / 8 + 1 - 1 - j = q / 8 + 1 - (j + 1) by omega)
      rw [hpw.out] at hset
      generalize m / 256 ^ (q / 8 + 1 - (j + 1)) = y at *
      have HS := Lib.hid hset; clear hset hu
      go_wp2
      refine ⟨⟨j, by omega, rfl, ?_, ?_, hbel.setCell (Nat.le_refl _) _⟩, by simp [intOf]⟩
      · rw [← hnx.out]; rfl
      · have e : bv (UInt8.ofNat y) = .int .u8 ((y : Int) % 256) := by simp [bv]
        rw [← e]
        exact HS.out

theorem ml (n : Nat) (h : n ≤ 1000000) : n ≤ maxLen := by unfold maxLen; omega
theorem rd_lit (w : World) (t : TypeId) (cs : Array Value) (l : L) (h : cs.toList = bvs l) (N : Nat) (hN : w.heap.size = N) : Rd (w.alloc (.cells cs t)) (N + 1) (some ⟨N, 0, none⟩) (bvs l) := by
  subst hN
  refine .inr ⟨w.heap.size, 0, rfl, by omega, fun i u hu => ?_⟩
  rw [Nat.zero_add, (Blk.new w t cs).cell i]
  rw [← h] at hu
  simpa using hu
theorem byte_nat (n : Nat) (h : n < 256) : bv (UInt8.ofNat n) = .int .u8 (n : Int) := by simp [bv]; omega
set_option maxRecDepth 100000 in
set_option maxHeartbeats 400000 in
theorem head_small (t : UInt8) (n : Nat) (h1 : n < 128) (w : World) : Calls Tryz.prog 128 #[.int .u8 t.toNat, .int .i64 (n : Int)] w fun e w' =>
    ∃ v, e = .returned v ∧ w'.ownsRow w.heap.size 5 1 v (1 + (szL n).length) (bvs (t :: szL n)) ∧ Below w.heap.size w w' := by
  obtain ⟨i0, hi0, hz0, hs0, hb0⟩ := info_parts u8_info
  have hmk := run_make_room (P := Tryz.prog) Tryz.underlying26 hi0 hz0 hs0 hb0 ((n : Int) + 4) (n + 4) (by omega) (by omega)
  have E := Lib.hid (show szL n = [UInt8.ofNat n] by simp [szL, h1])
  have g1 : decide ((n : Int) < 128) = true := by simp; omega
  have hn : (n : Int) ≤ 127 := by omega
  have hown0 : Hid (∀ o, (World.alloc (World.alloc w (.cells (zeros (n + 4)) 5)) o).ownsRow w.heap.size 5 1 (.slice (some ⟨w.heap.size, 0, none⟩) 0 (n + 4)) 0 []) := fun o => (World.ownsRow_made w (zeros (n + 4)) (n + 4) (Nat.le_refl _) (ml _ (by omega)) (by rw [zeros_size]; omega)).alloc o
  have hm1 := Lib.hid (ml 1 (by omega))
  have hm2 := Lib.hid (ml 2 (by omega))
  have hbn := Lib.hid (byte_nat n (by omega))
  clear h1
  go_enter Tryz.func128, Tryz.ntmps128
  go_wp2_with (first
    | (at_builtin
       refine wpList_append_rd _ rfl (.tmp 8) (.tmp 10) 26 rfl w.heap.size 5 i0 _ 1 Tryz.underlying26 hi0 hz0 hs0 hb0 rfl (.slice (some ⟨w.heap.size, 0, none⟩) 0 (n + 4)) 0 [] rfl (hown0.out _) _ _ 1 1 (bvs [t]) rfl rfl (rd_lit _ 5 _ [t] rfl _ (by simp)) (bvs_one _) hm1.out (by omega) (by simp; omega) ?_
       intro v1 w1 hown1 hg1 hat1)
    | (at_builtin
       refine wpList_append_rd _ rfl (.tmp 15) (.tmp 18) 26 rfl w.heap.size 5 i0 _ 1 Tryz.underlying26 hi0 hz0 hs0 hb0 rfl v1 (0 + 1) ([] ++ bvs [t]) rfl (hown1.alloc _) _ _ 1 1 (bvs [UInt8.ofNat n]) rfl rfl (rd_lit w1 5 _ [UInt8.ofNat n] (by simp [bvs, hbn.out]) _ rfl) (bvs_one _) hm2.out (by omega) (by simp; have := hg1.size; simp at this; omega) ?_
       intro v2 w2 hown2 hg2 hat2))
  go_ret
  have b1 : Below w.heap.size w w1 := (((Below.refl w.heap.size w).alloc (Nat.le_refl _) _).alloc (by simp) _).grown hg1 (by simp; omega) (by intro k hk; simp [Value.ownBlock] at hk; omega)
  have b2 := (b1.alloc b1.size _).grown hg2 (by have := b1.size; simp; omega) (fun k hk => (hown1.lt k hk).1)
  exact ⟨v2, rfl, by rw [E.out]; simpa [bvs] using hown2, b2⟩
set_option maxRecDepth 100000 in
set_option maxHeartbeats 400000 in
theorem head_mid (t : UInt8) (n : Nat) (h1 : ¬ n < 128) (h2 : n ≤ 255) (w : World) : Calls Tryz.prog 128 #[.int .u8 t.toNat, .int .i64 (n : Int)] w fun e w' =>
    ∃ v, e = .returned v ∧ w'.ownsRow w.heap.size 5 1 v (1 + (szL n).length) (bvs (t :: szL n)) ∧ Below w.heap.size w w' := by
  obtain ⟨i0, hi0, hz0, hs0, hb0⟩ := info_parts u8_info
  have hmk := run_make_room (P := Tryz.prog) Tryz.underlying26 hi0 hz0 hs0 hb0 ((n : Int) + 4) (n + 4) (by omega) (by omega)
  have E := Lib.hid (show szL n = [129, UInt8.ofNat n] by simp [szL, h1, h2])
  have g1 : decide ((n : Int) < 128) = false := by simp; omega
  have g2 : decide ((n : Int) ≤ 255) = true := by simp; omega
  have hn : (n : Int) ≤ 255 := by omega
  have hown0 : Hid (∀ o, (World.alloc (World.alloc w (.cells (zeros (n + 4)) 5)) o).ownsRow w.heap.size 5 1 (.slice (some ⟨w.heap.size, 0, none⟩) 0 (n + 4)) 0 []) := fun o => (World.ownsRow_made w (zeros (n + 4)) (n + 4) (Nat.le_refl _) (ml _ (by omega)) (by rw [zeros_size]; omega)).alloc o
  have hm1 := Lib.hid (ml 1 (by omega))
  have hm2 := Lib.hid (ml 3 (by omega))
  have hbn := Lib.hid (byte_nat n (by omega))
  clear h1 h2
  go_enter Tryz.func128, Tryz.ntmps128
  go_wp2_with (first
    | (at_builtin
       refine wpList_append_rd _ rfl (.tmp 8) (.tmp 10) 26 rfl w.heap.size 5 i0 _ 1 Tryz.underlying26 hi0 hz0 hs0 hb0 rfl (.slice (some ⟨w.heap.size, 0, none⟩) 0 (n + 4)) 0 [] rfl (hown0.out _) _ _ 1 1 (bvs [t]) rfl rfl (rd_lit _ 5 _ [t] rfl _ (by simp)) (bvs_one _) hm1.out (by omega) (by simp; omega) ?_
       intro v1 w1 hown1 hg1 hat1)
    | (at_builtin
       refine wpList_append_rd _ rfl (.tmp 23) (.tmp 26) 26 rfl w.heap.size 5 i0 _ 1 Tryz.underlying26 hi0 hz0 hs0 hb0 rfl v1 (0 + 1) ([] ++ bvs [t]) rfl (hown1.alloc _) _ _ 2 2 (bvs [129, UInt8.ofNat n]) rfl rfl (rd_lit w1 5 _ [129, UInt8.ofNat n] (by simp [bvs, hbn.out]; rfl) _ rfl) (bvs_one _) hm2.out (by omega) (by simp; have := hg1.size; simp at this; omega) ?_
       intro v2 w2 hown2 hg2 hat2))
  go_ret
  have b1 : Below w.heap.size w w1 := (((Below.refl w.heap.size w).alloc (Nat.le_refl _) _).alloc (by simp) _).grown hg1 (by simp; omega) (by intro k hk; simp [Value.ownBlock] at hk; omega)
  have b2 := (b1.alloc b1.size _).grown hg2 (by have := b1.size; simp; omega) (fun k hk => (hown1.lt k hk).1)
  exact ⟨v2, rfl, by rw [E.out]; simpa [bvs] using hown2, b2⟩
set_option maxRecDepth 100000 in
set_option maxHeartbeats 400000 in
theorem head_big (t : UInt8) (n : Nat) (h1 : ¬ n < 128) (h2 : ¬ n ≤ 255) (h3 : n ≤ 65535) (w : World) : Calls Tryz.prog 128 #[.int .u8 t.toNat, .int .i64 (n : Int)] w fun e w' =>
    ∃ v, e = .returned v ∧ w'.ownsRow w.heap.size 5 1 v (1 + (szL n).length) (bvs (t :: szL n)) ∧ Below w.heap.size w w' := by
  obtain ⟨i0, hi0, hz0, hs0, hb0⟩ := info_parts u8_info
  have hmk := run_make_room (P := Tryz.prog) Tryz.underlying26 hi0 hz0 hs0 hb0 ((n : Int) + 4) (n + 4) (by omega) (by omega)
  have E := Lib.hid (show szL n = [130, UInt8.ofNat (n / 256), UInt8.ofNat n] by simp [szL, h1, h2])
  have g1 : decide ((n : Int) < 128) = false := by simp; omega
  have g2 : decide ((n : Int) ≤ 255) = false := by simp; omega
  have hn : (n : Int) ≤ 65535 := by omega
  have hown0 : Hid (∀ o, (World.alloc (World.alloc w (.cells (zeros (n + 4)) 5)) o).ownsRow w.heap.size 5 1 (.slice (some ⟨w.heap.size, 0, none⟩) 0 (n + 4)) 0 []) := fun o => (World.ownsRow_made w (zeros (n + 4)) (n + 4) (Nat.le_refl _) (ml _ (by omega)) (by rw [zeros_size]; omega)).alloc o
  have hm1 := Lib.hid (ml 1 (by omega))
  have hm2 := Lib.hid (ml 4 (by omega))
  have hbn := Lib.hid (show bvs [130, UInt8.ofNat (n / 256), UInt8.ofNat n] = [.int .u8 130, .int .u8 ((n : Int) / 256), .int .u8 ((n : Int) % 256)] by simp [bvs, bv]; omega)
  clear h1 h2 h3
  go_enter Tryz.func128, Tryz.ntmps128
  go_wp2_with (first
    | (at_builtin
       refine wpList_append_rd _ rfl (.tmp 8) (.tmp 10) 26 rfl w.heap.size 5 i0 _ 1 Tryz.underlying26 hi0 hz0 hs0 hb0 rfl (.slice (some ⟨w.heap.size, 0, none⟩) 0 (n + 4)) 0 [] rfl (hown0.out _) _ _ 1 1 (bvs [t]) rfl rfl (rd_lit _ 5 _ [t] rfl _ (by simp)) (bvs_one _) hm1.out (by omega) (by simp; omega) ?_
       intro v1 w1 hown1 hg1 hat1)
    | (at_builtin
       refine wpList_append_rd _ rfl (.tmp 28) (.tmp 34) 26 rfl w.heap.size 5 i0 _ 1 Tryz.underlying26 hi0 hz0 hs0 hb0 rfl v1 (0 + 1) ([] ++ bvs [t]) rfl (hown1.alloc _) _ _ 3 3 (bvs [130, UInt8.ofNat (n / 256), UInt8.ofNat n]) rfl rfl (rd_lit w1 5 _ [130, UInt8.ofNat (n / 256), UInt8.ofNat n] (by rw [hbn.out]) _ rfl) (bvs_one _) hm2.out (by omega) (by simp; have := hg1.size; simp at this; omega) ?_
       intro v2 w2 hown2 hg2 hat2))
  go_ret
  have b1 : Below w.heap.size w w1 := (((Below.refl w.heap.size w).alloc (Nat.le_refl _) _).alloc (by simp) _).grown hg1 (by simp; omega) (by intro k hk; simp [Value.ownBlock] at hk; omega)
  have b2 := (b1.alloc b1.size _).grown hg2 (by have := b1.size; simp; omega) (fun k hk => (hown1.lt k hk).1)
  exact ⟨v2, rfl, by rw [E.out]; simpa [bvs] using hown2, b2⟩
theorem head_any (t : UInt8) (n : Nat) (h : n ≤ 65535) (w : World) : Calls Tryz.prog 128 #[.int .u8 t.toNat, .int .i64 (n : Int)] w fun e w' =>
    ∃ v, e = .returned v ∧ w'.ownsRow w.heap.size 5 1 v (1 + (szL n).length) (bvs (t :: szL n)) ∧ Below w.heap.size w w' := by
  by_cases h1 : n < 128
  · exact head_small t n h1 w
  · by_cases h2 : n ≤ 255
    · exact head_mid t n h1 h2 w
    · exact head_big t n h1 h2 h w

end Go.Proofs.YteeabfplnaknfaaGreat.DerW
end

section
namespace Go.Proofs.YteeabfplnaknfaaGreat.DerW
open Go.RowKit Go.Proofs.YteeabfplnaknfaaGreat.Mem Go.Proofs.YteeabfplnaknfaaGreat.DerP

def Rds (w : World) (B : Nat) (A : Option Addr) (ls : List L) : Prop :=
  ls = [] ∨ ∃ b o, A = some ⟨b, o, none⟩ ∧ b < B ∧ ∀ i l, ls[i]? = some l → ∃ A' c', w.cell? ⟨b, o + i, none⟩ = some (.slice A' l.length c') ∧ Rd w B A' (bvs l)
theorem Rds.at_ {w : World} {B : Nat} {A : Option Addr} {ls : List L} (h : Rds w B A ls) {i : Nat} {l : L} (hi : ls[i]? = some l) :
    ∃ b o, A = some ⟨b, o, none⟩ ∧ b < B ∧ ∃ A' c', w.cell? ⟨b, o + i, none⟩ = some (.slice A' l.length c') ∧ Rd w B A' (bvs l) := by
  rcases h with h | ⟨b, o, h1, h2, h3⟩
  · subst h; simp at hi
  · exact ⟨b, o, h1, h2, h3 i l hi⟩
theorem Rds.below {w w' : World} {B : Nat} {A : Option Addr} {ls : List L} (h : Rds w B A ls) (hb : Below B w w') : Rds w' B A ls := by
  rcases h with h | ⟨b, o, h1, h2, h3⟩
  · exact .inl h
  · refine .inr ⟨b, o, h1, h2, fun i l hl => ?_⟩
    obtain ⟨A', c', g1, g2⟩ := h3 i l hl
    exact ⟨A', c', (hb.cell (p := ⟨b, o + i, none⟩) h2).trans g1, g2.below hb⟩

theorem flat_snoc (ls : List L) (k : Nat) (l : L) (h : ls[k]? = some l) : (ls.take (k + 1)).flatten = (ls.take k).flatten ++ l := by
  obtain ⟨hk, e⟩ := List.getElem?_eq_some_iff.1 h
  rw [List.take_succ_eq_append_getElem hk, e]; simp
theorem flat_le (ls : List L) (k : Nat) : (ls.take k).flatten.length ≤ ls.flatten.length := by
  conv => rhs; rw [← List.take_append_drop k ls, List.flatten_append, List.length_append]
  omega

def pre (ls : List L) (k : Nat) : Nat := (ls.take k).flatten.length
def built (t : UInt8) (ls : List L) (k : Nat) : L := t :: szL ls.flatten.length ++ (ls.take k).flatten
theorem pre_succ (ls : List L) (k : Nat) (l : L) (h : ls[k]? = some l) : pre ls (k + 1) = pre ls k + l.length := by
  rw [pre, flat_snoc ls k l h, List.length_append]; rfl
theorem pre_le (ls : List L) (k : Nat) : pre ls k ≤ ls.flatten.length := flat_le ls k
theorem pre_all (ls : List L) : pre ls ls.length = ls.flatten.length := by rw [pre, List.take_of_length_le (Nat.le_refl _)]
theorem built_succ (t : UInt8) (ls : List L) (k : Nat) (l : L) (h : ls[k]? = some l) : built t ls (k + 1) = built t ls k ++ l := by
  rw [built, flat_snoc ls k l h, built, List.append_assoc]
theorem built_all (t : UInt8) (ls : List L) : built t ls ls.length = elem t ls.flatten := by
  rw [built, List.take_of_length_le (Nat.le_refl _)]; rfl
theorem built_le (t : UInt8) (ls : List L) (k : Nat) (h : ls.flatten.length ≤ 65535) : (built t ls k).length ≤ 65539 := by
  have h1 := flat_le ls k
  have h2 := length_szL ls.flatten.length
  have h3 : (szL ls.flatten.length).length ≤ 3 := by rw [h2]; split <;> (try split) <;> omega
  rw [built, List.length_append, List.length_cons]; omega

set_option maxRecDepth 100000 in
set_option maxHeartbeats 1000000 in
theorem wrap_any (t : UInt8) (ls : List L) (A : Option Addr) (m c B : Nat) (w : World) (hr : Rds w B A ls) (hm : m = ls.length) (hB : B ≤ w.heap.size) (hl : ls.flatten.length ≤ 65535) (hc : ls.length ≤ 1000000) :
    Calls Tryz.prog 103 #[.int .u8 t.toNat, .slice A m c] w fun e w' =>
      ∃ v, e = .returned v ∧ w'.ownsRow w.heap.size 5 1 v (elem t ls.flatten).length (bvs (elem t ls.flatten)) ∧ Below w.heap.size w w' := by
  obtain ⟨i0, hi0, hz0, hs0, hb0⟩ := info_parts u8_info
  have hpa := pre_all ls
  have hh : ∀ W, Calls Tryz.prog 128 #[.int .u8 t.toNat, .int .i64 ((pre ls m : Nat) : Int)] W fun e w' =>
    ∃ v, e = .returned v ∧ w'.ownsRow W.heap.size 5 1 v (built t ls 0).length (bvs (built t ls 0)) ∧ Below W.heap.size W w' := by
    intro W
    have := head_any t _ hl W
    have e1 : built t ls 0 = t :: szL ls.flatten.length := by simp [built]
    rw [e1, hm, hpa, List.length_cons, Nat.add_comm]
    exact this
  have HH := Lib.hid hh; clear hh
  have hpl := Lib.hid (fun k => Nat.le_trans (pre_le ls k) hl)
  have hbl := Lib.hid (fun k => built_le t ls k hl)
  have hba := Lib.hid (built_all t ls)
  have hml := Lib.hid ml
  have HR := Lib.hid hr; clear hr
  have hc' : (m : Int) ≤ 1000000 := by omega
  have HM := Lib.hid hm
  clear hm hc hl hpa
  go_enter Tryz.func103, Tryz.ntmps103
  go_wp2
  go_loop [5, 13] (fun n i => ∃ k : Nat, k ≤ m ∧ i = .int .i64 (k : Int) ∧ n = .int .i64 ((pre ls k : Nat) : Int)) (fun _ i => m - (intOf i).toNat)
  case atStart => exact ⟨0, by omega, rfl, rfl⟩
  case round =>
    obtain ⟨k, hk, rfl, rfl⟩ := hrel
    by_cases hlt : k < m
    · obtain ⟨l, hx⟩ : ∃ l, ls[k]? = some l := ⟨_, List.getElem?_eq_getElem (by have := HM.out; omega)⟩
      obtain ⟨b, o, rfl, hb, A', c', hcell, hrd⟩ := HR.out.at_ hx
      have hf1 := hpl.out k
      have hf2 := hpl.out (k + 1)
      have hs := pre_succ ls k l hx
      have HS := Lib.hid hs
      have g1 : decide ((65535 : Int) < ((pre ls k : Nat) : Int) + (l.length : Int)) = false := by simp only [decide_eq_false_iff_not]; omega
      have hll : (l.length : Int) ≤ 65535 := by omega
      have hf1' : ((pre ls k : Nat) : Int) ≤ 65535 := by omega
      clear hs hf1 hf2 hx hrd
      go_wp2
      exact ⟨⟨k + 1, by omega, by go_num, by rw [HS.out]; go_num⟩, by simp [intOf]; omega⟩
    · obtain rfl : k = m := by omega
      clear hk hlt
      go_wp2_with (go_at_call 128; refine (HH.out _).mono ?_; rintro e w1 ⟨v, rfl, hown, hbel⟩)
      go_loopw [8, 29] (fun v i wr => ∃ j : Nat, j ≤ k ∧ i = .int .i64 (j : Int) ∧ wr.ownsRow w.heap.size 5 1 v (built t ls j).length (bvs (built t ls j)) ∧ Below w.heap.size w wr) (fun _ i _ => k - (intOf i).toNat)
      case atStart => exact ⟨0, by omega, rfl, hown, hbel⟩
      case round =>
        obtain ⟨j, hj, rfl, hown1, hbel1⟩ := hrel
        by_cases hlt : j < k
        · obtain ⟨l, hx⟩ : ∃ l, ls[j]? = some l := ⟨_, List.getElem?_eq_getElem (by have := HM.out; omega)⟩
          obtain ⟨b, o, rfl, hb, A', c', hcell, hrd⟩ := (HR.out.below (hbel1.mono hB)).at_ hx
          have hs := built_succ t ls j l hx
          have hf1 := hbl.out j
          have hf2 := hbl.out (j + 1)
          have hs1 := congrArg List.length hs
          rw [List.length_append] at hs1
          have HS := Lib.hid hs
          have hsum : (built t ls j).length + l.length ≤ 65539 := by omega
          have HO := Lib.hid hown1
          have HQ := Lib.hid hrd
          clear hs hs1 hx hf1 hf2 hown1 hrd hown
          go_wp2_with (at_builtin
                       refine wpList_append_rd _ rfl (.tmp 33) (.tmp 34) 26 rfl w.heap.size 5 i0 _ 1 Tryz.underlying26 hi0 hz0 hs0 hb0 rfl _ (built t ls j).length (bvs (built t ls j)) rfl HO.out B A' l.length c' (bvs l) rfl (bvs_length l).symm HQ.out (bvs_one _) (hml.out _ (by omega)) (by omega) hbel1.size ?_
                       intro v2 w2 hown2 hg2 hat2)
          refine ⟨⟨j + 1, by omega, by go_num, ?_, hbel1.grown hg2 hbel1.size (fun i hi => (HO.out.lt i hi).1)⟩, by simp [intOf]; omega⟩
          rw [HS.out, bvs_append, List.length_append]
          exact hown2
        · obtain rfl : j = k := by omega
          clear hj hlt
          go_wp2
          go_ret
          have e : built t ls j = elem t ls.flatten := by rw [HM.out]; exact hba.out
          rw [e] at hown1
          exact ⟨_, rfl, hown1, hbel1⟩

end Go.Proofs.YteeabfplnaknfaaGreat.DerW
end

section
namespace Go.Proofs.YteeabfplnaknfaaGreat.DerW
open Go.RowKit Go.Proofs.YteeabfplnaknfaaGreat.Mem Go.Proofs.YteeabfplnaknfaaGreat.DerP

theorem rds_one (w : World) (t : TypeId) (B : Nat) (A : Option Addr) (l : L) (n c : Nat) (hn : n = l.length) (h : Rd w B A (bvs l)) (hB : B ≤ w.heap.size) :
    Rds (w.alloc (.cells #[.slice A n c] t)) (w.heap.size + 1) (some ⟨w.heap.size, 0, none⟩) [l] := by
  subst hn
  refine .inr ⟨w.heap.size, 0, rfl, by omega, fun i l' hi => ?_⟩
  have hi0 : i = 0 := by
    rcases Nat.eq_zero_or_pos i with g | g
    · exact g
    · rw [List.getElem?_eq_none (by simp; omega)] at hi; cases hi
  subst hi0
  injection hi with hi
  subst hi
  exact ⟨A, c, (Blk.new w t _).cell 0, (h.alloc hB _).more (by omega)⟩

theorem octets_any (l : L) (A : Option Addr) (n c B : Nat) (w : World) (hr : Rd w B A (bvs l)) (hn : n = l.length) (hB : B ≤ w.heap.size) (hl : l.length ≤ 65535) :
    Calls Tryz.prog 105 #[.slice A n c] w fun e w' =>
      ∃ v, e = .returned v ∧ w'.ownsRow w.heap.size 5 1 v (elem 4 l).length (bvs (elem 4 l)) ∧ Below w.heap.size w w' := by
  have hrs := rds_one w 26 B A l n c hn hr hB
  have hw := wrap_any 4 [l] (some ⟨w.heap.size, 0, none⟩) 1 1 (w.heap.size + 1) (w.alloc (.cells #[.slice A n c] 26)) hrs rfl (by simp) (by simpa using hl) (by simp)
  have e : [l].flatten = l := by simp
  rw [e] at hw
  have HW := Lib.hid hw
  clear hw hrs hr hn hl e
  go_enter Tryz.func105, Tryz.ntmps105
  go_wp2_with (go_at_call 103; refine HW.out.mono ?_; rintro e w1 ⟨v, rfl, hown, hbel⟩)
  go_ret
  refine ⟨_, rfl, ?_, (Below.refl w.heap.size w).alloc (Nat.le_refl _) _ |>.trans (hbel.mono (by simp))⟩
  exact hown.mono (by simp)

theorem int_any (n : Int) (w : World) :
    Calls Tryz.prog 107 #[.int .i64 n] w fun e w' =>
      ∃ v, e = .returned v ∧ w'.ownsRow w.heap.size 5 1 v (encI n).length (bvs (encI n)) ∧ Below w.heap.size w w' := by
  have hd := digits_any (clampN n) (clampN_le n)
  rw [clampN_int] at hd
  have hw : ∀ (W : World) (g : Nat), Blk W g 5 (bvs (dig (clampN n))).toArray → Calls Tryz.prog 103 #[.int .u8 2, .slice (some ⟨W.heap.size, 0, none⟩) 1 1] (W.alloc (.cells #[.slice (some ⟨g, 0, none⟩) (dig (clampN n)).length (dig (clampN n)).length] 26)) fun e w' =>
      ∃ v, e = .returned v ∧ w'.ownsRow W.heap.size 5 1 v (encI n).length (bvs (encI n)) ∧ Below W.heap.size W w' := by
    intro W g hB
    have hr : Rd W W.heap.size (some ⟨g, 0, none⟩) (bvs (dig (clampN n))) := .inr ⟨g, 0, rfl, hB.lt, fun i u hu => by
      rw [Nat.zero_add, hB.cell i]; simpa using hu⟩
    have hrs := rds_one W 26 W.heap.size _ _ _ (dig (clampN n)).length rfl hr (Nat.le_refl _)
    have hd8 := encI_len n
    have h := wrap_any 2 [dig (clampN n)] (some ⟨W.heap.size, 0, none⟩) 1 1 (W.heap.size + 1) _ hrs rfl (by simp) (by simp; omega) (by simp)
    have e : [dig (clampN n)].flatten = dig (clampN n) := by simp
    rw [e] at h
    refine h.mono ?_
    rintro e w' ⟨v, rfl, hown, hbel⟩
    exact ⟨v, rfl, hown.mono (by simp), (Below.refl W.heap.size W).alloc (Nat.le_refl _) _ |>.trans (hbel.mono (by simp))⟩
  have HD := Lib.hid hd
  have HW := Lib.hid hw
  clear hd hw
  go_enter Tryz.func107, Tryz.ntmps107
  go_wp2_with (first
    | (go_at_call 129; refine (HD.out _).mono ?_; rintro e w1 ⟨g, rfl, hg, hB, hbel⟩)
    | (go_at_call 103; refine (HW.out _ _ hB).mono ?_; rintro e w2 ⟨v, rfl, hown, hbel2⟩))
  go_ret
  exact ⟨_, rfl, hown.mono hbel.size, hbel.trans (hbel2.mono hbel.size)⟩

theorem text_any (l : L) (w : World) (hl : l.length ≤ 65535) :
    Calls Tryz.prog 106 #[.string ⟨l.toArray⟩] w fun e w' =>
      ∃ v, e = .returned v ∧ w'.ownsRow w.heap.size 5 1 v (elem 27 l).length (bvs (elem 27 l)) ∧ Below w.heap.size w w' := by
  have hcv := fun (W : World) => Lib.run_convert_string_bytes (P := Tryz.prog) W 9 26 5 ⟨l.toArray⟩ Tryz.underlying9 Tryz.underlying26 Tryz.underlying5
  have hw : ∀ (W : World) (c : Nat), Calls Tryz.prog 103 #[.int .u8 27, .slice (some ⟨W.heap.size + 1, 0, none⟩) 1 1] ((Lib.bytesWorld W 5 ⟨l.toArray⟩).alloc (.cells #[.slice (some ⟨W.heap.size, 0, none⟩) l.length c] 26)) fun e w' =>
      ∃ v, e = .returned v ∧ w'.ownsRow W.heap.size 5 1 v (elem 27 l).length (bvs (elem 27 l)) ∧ Below W.heap.size W w' := by
    intro W c
    have hs := Lib.bytesWorld_size W 5 ⟨l.toArray⟩
    have hr := (bytes_fresh W 5 l).rd
    have hrs := rds_one _ 26 _ _ _ l.length c rfl hr (Nat.le_refl _)
    rw [hs] at hrs
    have h := wrap_any 27 [l] (some ⟨W.heap.size + 1, 0, none⟩) 1 1 (W.heap.size + 1 + 1) _ hrs rfl (by simp [hs]) (by simpa using hl) (by simp)
    have e : [l].flatten = l := by simp
    rw [e] at h
    refine h.mono ?_
    rintro e w' ⟨v, rfl, hown, hbel⟩
    refine ⟨v, rfl, hown.mono (by simp [hs]; omega), ?_⟩
    exact ((bytes_below W _ _).alloc (by rw [hs]; omega) _).trans (hbel.mono (by simp [hs]; omega))
  have HW := Lib.hid hw
  clear hw hl
  have hsz := fun (W : World) => Lib.bytesWorld_size W 5 ⟨l.toArray⟩
  go_enter Tryz.func106, Tryz.ntmps106
  go_wp2_with (go_at_call 103; refine (HW.out _ _).mono ?_; rintro e w2 ⟨v, rfl, hown, hbel2⟩)
  go_ret
  exact ⟨_, rfl, hown, hbel2⟩

end Go.Proofs.YteeabfplnaknfaaGreat.DerW
end

section
namespace Go.Proofs.YteeabfplnaknfaaGreat.DerK
open Go.RowKit Go.Proofs.YteeabfplnaknfaaGreat.Mem Go.Proofs.YteeabfplnaknfaaGreat.DerP
attribute [local go_sem] mk_at List.getElem_cons_zero List.getElem_cons_succ

theorem own_slice {w : World} {base n : Nat} {t : TypeId} {v : Value} {l : L} (h : w.ownsRow base t 1 v n (bvs l)) (hl : 0 < l.length) :
    ∃ g cap, v = .slice (some ⟨g, 0, none⟩) l.length cap ∧ base ≤ g ∧ l.length ≤ cap ∧ Rd w w.heap.size (some ⟨g, 0, none⟩) (bvs l) := by
  have hn : n = l.length := by have := h.1; rw [bvs_length] at this; omega
  subst hn
  rcases h.2 with ⟨_, h2⟩ | ⟨g, cap, cur, rfl, hg, _, hc, _⟩
  · omega
  · exact ⟨g, cap, rfl, hg, hc, Rd.of_own h⟩

end Go.Proofs.YteeabfplnaknfaaGreat.DerK
end

section
set_option linter.unusedVariables false
namespace Go.Proofs.YteeabfplnaknfaaGreat.DerR
open Go.RowKit Go.Proofs.YteeabfplnaknfaaGreat.Mem Go.Proofs.YteeabfplnaknfaaGreat.DerP

def Gives (w : World) (l : L) (e : Ending) (w' : World) : Prop :=
  (∃ g cap, e = .returned (.slice (some ⟨g, 0, none⟩) l.length cap) ∧ w.heap.size ≤ g ∧ l.length ≤ cap ∧ Rd w' w'.heap.size (some ⟨g, 0, none⟩) (bvs l)) ∧ Below w.heap.size w w'
theorem gives_own {w w' : World} {v : Value} {n : Nat} {t : TypeId} {l : L} (h : w'.ownsRow w.heap.size t 1 v n (bvs l)) (hl : 0 < l.length) (hb : Below w.heap.size w w') : Gives w l (.returned v) w' := by
  obtain ⟨g, cap, rfl, h1, h2, h3⟩ := DerK.own_slice h hl
  exact ⟨⟨g, cap, rfl, h1, h2, h3⟩, hb⟩

theorem gives_lit (w : World) (t : TypeId) (cs : Array Value) (l : L) (h : cs.toList = bvs l) (n : Nat) (hn : n = l.length) : Gives w l (.returned (.slice (some ⟨w.heap.size, 0, none⟩) n n)) (w.alloc (.cells cs t)) := by
  subst hn
  refine ⟨⟨_, _, rfl, Nat.le_refl _, Nat.le_refl _, ?_⟩, (Below.refl _ _).alloc (Nat.le_refl _) _⟩
  have := DerW.rd_lit w t cs l h _ rfl
  simpa using this

theorem size_any (n : Nat) (h : n ≤ 65535) (w : World) : Calls Tryz.prog 119 #[.int .i64 (n : Int)] w (Gives w (szL n)) := by
  by_cases h1 : n < 128
  · have g1 : decide ((n : Int) < 128) = true := by simp; omega
    have E := Lib.hid (show szL n = [UInt8.ofNat n] by simp [szL, h1])
    have hb := Lib.hid (DerW.byte_nat n (by omega))
    have hn : (n : Int) ≤ 127 := by omega
    clear h h1
    go_enter Tryz.func119, Tryz.ntmps119
    go_wp2
    go_ret
    rw [E.out]
    exact gives_lit w 5 _ _ (by simp [bvs, hb.out]) _ rfl
  · have g1 : decide ((n : Int) < 128) = false := by simp; omega
    by_cases h2 : n ≤ 255
    · have g2 : decide ((n : Int) < 256) = true := by simp; omega
      have E := Lib.hid (show szL n = [129, UInt8.ofNat n] by simp [szL, h1, h2])
      have hb := Lib.hid (DerW.byte_nat n (by omega))
      have hn : (n : Int) ≤ 255 := by omega
      clear h h1 h2
      go_enter Tryz.func119, Tryz.ntmps119
      go_wp2
      go_ret
      rw [E.out]
      exact gives_lit w 5 _ _ (by simp [bvs, hb.out]; rfl) _ rfl
    · have g2 : decide ((n : Int) < 256) = false := by simp; omega
      have E := Lib.hid (show szL n = [130, UInt8.ofNat (n / 256), UInt8.ofNat n] by simp [szL, h1, h2])
      have hb := Lib.hid (show bvs [130, UInt8.ofNat (n / 256), UInt8.ofNat n] = [.int .u8 130, .int .u8 ((n : Int) / 256), .int .u8 ((n : Int) % 256)] by simp [bvs, bv]; omega)
      have hn : (n : Int) ≤ 65535 := by omega
      clear h h1 h2
      go_enter Tryz.func119, Tryz.ntmps119
      go_wp2
      go_ret
      rw [E.out]
      exact gives_lit w 5 _ _ (by rw [hb.out]) _ rfl

theorem szL_le (n : Nat) : (szL n).length ≤ 3 := by rw [length_szL]; split <;> (try split) <;> omega

theorem elem_any (t : UInt8) (p : L) (A : Option Addr) (n c B : Nat) (w : World) (hr : Rd w B A (bvs p)) (hn : n = p.length) (hB : B ≤ w.heap.size) (hp : p.length ≤ 65535) :
    Calls Tryz.prog 86 #[.int .u8 t.toNat, .slice A n c] w (Gives w (elem t p)) := by
  obtain ⟨i0, hi0, hz0, hs0, hb0⟩ := info_parts DerW.u8_info
  have hsz : ∀ W : World, Calls Tryz.prog 119 #[.int .i64 (n : Int)] W (Gives W (szL n)) := fun W => size_any n (by omega) W
  have HS := Lib.hid hsz
  have HR := Lib.hid hr
  have HN := Lib.hid hn
  have HP := Lib.hid hp
  have h3 := Lib.hid (szL_le n)
  have hml := Lib.hid DerW.ml
  have hown0 : Hid ((w.alloc (.cells #[.int .u8 (t.toNat : Int)] 5)).ownsRow w.heap.size 5 1 (.slice (some ⟨w.heap.size, 0, none⟩) 1 1) 1 (bvs [t])) := World.ownsRow_lit w #[.int .u8 (t.toNat : Int)] 1 (Nat.le_refl _) (DerW.ml 1 (by omega)) rfl
  clear hsz hr hn hp
  go_enter Tryz.func86, Tryz.ntmps86
  go_wp2_with (first
    | (go_at_call 119; refine (HS.out _).mono ?_; rintro e w1 ⟨⟨g1, c1, rfl, hg1, hc1, hrd1⟩, hb1⟩
       have hB1 : Below w.heap.size w w1 := ((Below.refl w.heap.size w).alloc (Nat.le_refl _) _).trans (hb1.mono (by simp))
       have HO1 := Lib.hid (own_kept hown0.out hb1)
       have HQ1 := Lib.hid hrd1
       clear hrd1)
    | (at_builtin
       refine wpList_append_rd _ rfl (.tmp 6) (.tmp 9) 26 rfl w.heap.size 5 i0 _ 1 Tryz.underlying26 hi0 hz0 hs0 hb0 rfl (.slice (some ⟨w.heap.size, 0, none⟩) 1 1) 1 (bvs [t]) rfl HO1.out w1.heap.size _ (szL n).length c1 (bvs (szL n)) rfl (bvs_length _).symm HQ1.out (bvs_one _) (hml.out _ (by have := h3.out; omega)) (by have := h3.out; omega) hB1.size ?_
       intro v2 w2 hown2 hg2 hat2
       have hB2 := hB1.grown hg2 hB1.size (fun k hk => (HO1.out.lt k hk).1)
       have HO2 := Lib.hid hown2
       clear hown2 hat2)
    | (at_builtin
       refine wpList_append_rd _ rfl (.tmp 10) (.tmp 11) 26 rfl w.heap.size 5 i0 _ 1 Tryz.underlying26 hi0 hz0 hs0 hb0 rfl v2 (1 + (szL n).length) (bvs [t] ++ bvs (szL n)) rfl HO2.out B A n c (bvs p) rfl (by rw [bvs_length]; exact HN.out) (HR.out.below (hB2.mono hB)) (bvs_one _) (hml.out _ (by have := h3.out; have := HN.out; have := HP.out; omega)) (by have := h3.out; have := HN.out; have := HP.out; omega) hB2.size ?_
       intro v3 w3 hown3 hg3 hat3
       have hB3 := hB2.grown hg3 hB2.size (fun k hk => (HO2.out.lt k hk).1)
       have HO3 := Lib.hid hown3
       clear hown3 hat3))
  go_ret
  have hown := HO3.out
  rw [HN.out, ← bvs_append, ← bvs_append, show [t] ++ szL p.length ++ p = elem t p from rfl] at hown
  exact gives_own hown (by rw [length_elem]; omega) hB3

theorem octets_any (p : L) (A : Option Addr) (n c B : Nat) (w : World) (hr : Rd w B A (bvs p)) (hn : n = p.length) (hB : B ≤ w.heap.size) (hp : p.length ≤ 65535) :
    Calls Tryz.prog 42 #[.slice A n c] w (Gives w (elem 4 p)) := by
  have H := Lib.hid (elem_any 4 p A n c B w hr hn hB hp)
  clear hr hn hB hp
  go_enter Tryz.func42, Tryz.ntmps42
  go_wp2_with (go_at_call 86; refine (Calls.mono H.out ?_); rintro e w1 ⟨⟨g1, c1, rfl, hg1, hc1, hrd1⟩, hb1⟩)
  go_ret
  exact ⟨⟨g1, c1, rfl, hg1, hc1, hrd1⟩, hb1⟩

end Go.Proofs.YteeabfplnaknfaaGreat.DerR
end

section
set_option linter.unusedVariables false
namespace Go.Proofs.YteeabfplnaknfaaGreat.DerR
open Go.RowKit Go.Proofs.YteeabfplnaknfaaGreat.Mem Go.Proofs.YteeabfplnaknfaaGreat.DerP

theorem text_any (l : L) (w : World) (hl : l.length ≤ 65535) :
    Calls Tryz.prog 56 #[.string ⟨l.toArray⟩] w (Gives w (elem 27 l)) := by
  have hcv := fun (W : World) => Lib.run_convert_string_bytes (P := Tryz.prog) W 9 26 5 ⟨l.toArray⟩ Tryz.underlying9 Tryz.underlying26 Tryz.underlying5
  have he : ∀ (c : Nat), Calls Tryz.prog 86 #[.int .u8 27, .slice (some ⟨w.heap.size, 0, none⟩) l.length c] (Lib.bytesWorld w 5 ⟨l.toArray⟩) (Gives (Lib.bytesWorld w 5 ⟨l.toArray⟩) (elem 27 l)) :=
    fun c => elem_any 27 l _ _ c _ _ (bytes_fresh w 5 l).rd rfl (Nat.le_refl _) hl
  have HE := Lib.hid he
  have HB := Lib.hid (bytes_below w 5 ⟨l.toArray⟩)
  clear he hl
  go_enter Tryz.func56, Tryz.ntmps56
  go_wp2_with (go_at_call 86; refine (Calls.mono (HE.out _) ?_); rintro e w1 ⟨⟨g1, c1, rfl, hg1, hc1, hrd1⟩, hb1⟩)
  go_ret
  exact ⟨⟨g1, c1, rfl, Nat.le_trans HB.out.size hg1, hc1, hrd1⟩, bt HB.out hb1⟩

theorem digK_cons (j m : Nat) : digK (j + 1) m = UInt8.ofNat (m / 256 ^ j) :: digK j m := by
  induction j generalizing m with
  | zero => simp [digK]
  | succ j ih =>
    rw [digK, ih (m / 256)]
    rw [Nat.div_div_eq_div_mul, Nat.mul_comm, ← Nat.pow_succ]
    rfl
theorem dig_plain (m j : Nat) (hm : m ≤ 4611686018427387904) (hj : 1 ≤ j) (h1 : j = 1 ∨ 256 ^ (j - 1) ≤ m) (h2 : m / 256 ^ (j - 1) < 128) : dig m = digK j m := by
  have hp : 0 < 256 ^ (j - 1) := Nat.pow_pos (by omega)
  have hup : m < 128 * 256 ^ (j - 1) := by rw [Nat.div_lt_iff_lt_mul hp] at h2; exact h2
  have hj8 : j ≤ 8 := by
    rcases Nat.lt_or_ge 8 j with g | g
    · exfalso
      rcases h1 with h | h
      · omega
      · have : 256 ^ 8 ≤ 256 ^ (j - 1) := Nat.pow_le_pow_right (by omega) (by omega)
        have e : (256 : Nat) ^ 8 = 18446744073709551616 := by decide
        omega
    · exact g
  have hup' : m < 2 ^ (8 * (j - 1) + 7) := by
    rw [Nat.pow_add, ← pow256, Nat.mul_comm]; simpa using hup
  have hb := bitLen_bound m _ (by omega) hup'
  have hk : Lib.bitLen m / 8 + 1 = j := by
    rcases h1 with h | h
    · omega
    · have h3 : 2 ^ (8 * (j - 1)) ≤ m := by rw [← pow256]; exact h
      have := bitLen_ge m (by omega) _ h3
      omega
  rw [dig, hk]
theorem dig_nought (m j : Nat) (hm : m ≤ 4611686018427387904) (hj : 1 ≤ j) (h0 : m / 256 ^ j = 0) (h2 : 128 ≤ m / 256 ^ (j - 1)) : dig m = 0 :: digK j m := by
  have hp : 0 < 256 ^ (j - 1) := Nat.pow_pos (by omega)
  have hlo : 128 * 256 ^ (j - 1) ≤ m := by rw [Nat.le_div_iff_mul_le hp] at h2; exact h2
  have hpj : 0 < 256 ^ j := Nat.pow_pos (by omega)
  have hup : m < 256 ^ j := by
    rcases Nat.lt_or_ge m (256 ^ j) with g | g
    · exact g
    · have := Nat.div_pos g hpj; omega
  have hlo' : 2 ^ (8 * (j - 1) + 7) ≤ m := by
    rw [Nat.pow_add, ← pow256, Nat.mul_comm]; simpa using hlo
  have h3 := bitLen_ge m (by omega) _ hlo'
  have h62 := bitLen_62 m hm
  have h4 := bitLen_bound m (8 * j) (by omega) (by rw [← pow256]; exact hup)
  have hk : Lib.bitLen m / 8 + 1 = j + 1 := by omega
  rw [dig, hk, digK_cons, h0]
  rfl
theorem first_digit (m j : Nat) (hj : 1 ≤ j) (h0 : m / 256 ^ j = 0) : m / 256 ^ (j - 1) < 256 := by
  have hp : 0 < 256 ^ (j - 1) := Nat.pow_pos (by omega)
  have hpj : 0 < 256 ^ j := Nat.pow_pos (by omega)
  rw [Nat.div_lt_iff_lt_mul hp, Nat.mul_comm, ← Nat.pow_succ, show (j - 1).succ = j by omega]
  rcases Nat.lt_or_ge m (256 ^ j) with g | g
  · exact g
  · have := Nat.div_pos g hpj; omega
theorem first_cell {w : World} {g j m : Nat} (hj : 1 ≤ j) (h0 : m / 256 ^ j = 0) (h : Rd w w.heap.size (some ⟨g, 0, none⟩) (bvs (digK j m))) : w.cell? ⟨g, 0, none⟩ = some (.int .u8 ((m / 256 ^ (j - 1) : Nat) : Int)) := by
  have ha := digK_at j m 0 (by omega)
  obtain ⟨b, o, e, _, hc⟩ := h.at_ (i := 0) (u := bv (UInt8.ofNat (m / 256 ^ (j - 1)))) (by simp only [bvs, List.getElem?_map, ha]; rfl)
  injection e with e
  injection e with e1 e2
  subst e1 e2
  have hf := first_digit m j hj h0
  rw [show (0 + 0 : Nat) = 0 from rfl] at hc
  rw [hc, DerW.byte_nat _ hf]

def Left (m : Nat) (W : World) (n p : Value) (w : World) : Prop :=
  ∃ j g cap, 1 ≤ j ∧ (j = 1 ∨ 256 ^ (j - 1) ≤ m) ∧ j ≤ 9 ∧ n = .int .i64 ((m / 256 ^ j : Nat) : Int) ∧ p = .slice (some ⟨g, 0, none⟩) j cap ∧ Rd w w.heap.size (some ⟨g, 0, none⟩) (bvs (digK j m)) ∧ Below W.heap.size W w

set_option maxRecDepth 100000 in
set_option maxHeartbeats 1000000 in
theorem int_any (n : Int) (w : World) :
    Calls Tryz.prog 40 #[.int .i64 n] w (Gives w (encI n)) := by
  obtain ⟨i0, hi0, hz0, hs0, hb0⟩ := info_parts DerW.u8_info
  have hcl := clampN_int n
  have hm := clampN_le n
  have E : Hid (encI n = elem 2 (dig (clampN n))) := rfl
  generalize clampN n = m at *
  have HM := Lib.hid hm
  have hm' : (m : Int) ≤ 4611686018427387904 := by omega
  have hml := Lib.hid DerW.ml
  have hlast := Lib.hid (show [Value.int .u8 ((m : Int) % 256)] = bvs (digK 1 m) by simp [bvs, bv, digK])
  have hcl' := hcl.symm
  clear hcl hm
  go_enter Tryz.func40, Tryz.ntmps40
  go_wp2
  go_loopw [0, 3] (fun nv p wr => Left m w nv p wr) (fun nv _ _ => (intOf nv).toNat)
  case atStart =>
    refine ⟨1, w.heap.size, 1, Nat.le_refl _, .inl rfl, by omega, by simp, rfl, ?_, (Below.refl _ _).alloc (Nat.le_refl _) _⟩
    have := DerW.rd_lit w 5 #[Value.int .u8 ((m : Int) % 256)] (digK 1 m) hlast.out _ rfl
    simpa using this
  case round =>
    obtain ⟨j, g, cap, hj1, hjm, hj9, rfl, rfl, hrd, hbel⟩ := hrel
    by_cases h0 : m / 256 ^ j = 0
    · have hcell := first_cell hj1 h0 hrd
      have hf := first_digit m j hj1 h0
      have HRD := Lib.hid hrd
      have HJ := Lib.hid hj1
      have HJM := Lib.hid hjm
      have H0 := Lib.hid h0
      rw [h0]
      have HN := Lib.hid (first_digit m j hj1 h0)
      by_cases h128 : m / 256 ^ (j - 1) < 128
      · have G := Lib.hid (dig_plain m j HM.out hj1 hjm h128)
        have he : ∀ W : World, Rd W W.heap.size (some ⟨g, 0, none⟩) (bvs (digK j m)) → Calls Tryz.prog 86 #[.int .u8 2, .slice (some ⟨g, 0, none⟩) j cap] W (Gives W (elem 2 (digK j m))) :=
          fun W hW => elem_any 2 (digK j m) _ j cap _ W hW (length_digK j m).symm (Nat.le_refl _) (by rw [length_digK]; omega)
        have HEL := Lib.hid he
        have g5 : decide ((128 : Int) ≤ ((m / 256 ^ (j - 1) : Nat) : Int)) = false := by simp only [decide_eq_false_iff_not]; omega
        clear he hrd hf h128 hj1 hjm h0
        generalize m / 256 ^ (j - 1) = a at *
        have hj9' : (j : Int) ≤ 9 := by omega
        have hj1' : 0 < j := HJ.out
        go_wp2_with (go_at_call 86; refine (Calls.mono (HEL.out _ HRD.out) ?_); rintro e w1 ⟨⟨g1, c1, rfl, hg1, hc1, hrd1⟩, hb1⟩)
        go_ret
        rw [E.out, G.out]
        exact ⟨⟨g1, c1, rfl, Nat.le_trans hbel.size hg1, hc1, hrd1⟩, bt hbel hb1⟩
      · have G := Lib.hid (dig_nought m j HM.out hj1 h0 (by omega))
        have he : ∀ (W : World) (g' c' : Nat), Rd W W.heap.size (some ⟨g', 0, none⟩) (bvs (0 :: digK j m)) → Calls Tryz.prog 86 #[.int .u8 2, .slice (some ⟨g', 0, none⟩) (0 :: digK j m).length c'] W (Gives W (elem 2 (0 :: digK j m))) :=
          fun W g' c' hW => elem_any 2 (0 :: digK j m) _ _ c' _ W hW rfl (Nat.le_refl _) (by simp only [List.length_cons, length_digK]; omega)
        have HEL := Lib.hid he
        have g5 : decide ((128 : Int) ≤ ((m / 256 ^ (j - 1) : Nat) : Int)) = true := by simp only [decide_eq_true_eq]; omega
        have hown0 : Hid ((wr.alloc (.cells #[.int .u8 0] 5)).ownsRow wr.heap.size 5 1 (.slice (some ⟨wr.heap.size, 0, none⟩) 1 1) 1 (bvs [0])) := World.ownsRow_lit wr #[.int .u8 0] 1 (Nat.le_refl _) (DerW.ml 1 (by omega)) rfl
        clear he hrd hf h128 hj1 hjm h0
        generalize m / 256 ^ (j - 1) = a at *
        have hj9' : (j : Int) ≤ 9 := by omega
        have hj1' : 0 < j := HJ.out
        go_wp2_with (first
          | (at_builtin
             refine wpList_append_rd _ rfl (.tmp 25) (.tmp 26) 26 rfl wr.heap.size 5 i0 _ 1 Tryz.underlying26 hi0 hz0 hs0 hb0 rfl (.slice (some ⟨wr.heap.size, 0, none⟩) 1 1) 1 (bvs [0]) rfl hown0.out wr.heap.size (some ⟨g, 0, none⟩) j cap (bvs (digK j m)) rfl (by rw [bvs_length, length_digK]) (HRD.out.alloc (Nat.le_refl _) _) (bvs_one _) (hml.out _ (by omega)) (by omega) (by simp) ?_
             intro v2 w2 hown2 hg2 hat2
             rw [← bvs_append, List.singleton_append] at hown2
             obtain ⟨g3, cap3, rfl, hg3, hcap3, hrd3⟩ := DerK.own_slice hown2 (by simp)
             have hbe2 : Below wr.heap.size wr w2 := ((Below.refl wr.heap.size wr).alloc (Nat.le_refl _) _).grown hg2 (by simp) (fun k hk => by simp [Value.ownBlock] at hk; omega)
             clear hown2 hat2)
          | (go_at_call 86; refine (Calls.mono (HEL.out _ _ _ hrd3) ?_); rintro e w1 ⟨⟨g1, c1, rfl, hg1, hc1, hrd1⟩, hb1⟩))
        go_ret
        rw [E.out, G.out]
        exact ⟨⟨g1, c1, rfl, Nat.le_trans (Nat.le_trans hbel.size hbe2.size) hg1, hc1, hrd1⟩, bt (bt hbel hbe2) hb1⟩
    · have hle : 256 ^ j ≤ m := by
        have hpj : 0 < 256 ^ j := Nat.pow_pos (by omega)
        rcases Nat.lt_or_ge m (256 ^ j) with g' | g'
        · exact absurd (Nat.div_eq_of_lt g') h0
        · exact g'
      have hj8 : j < 8 := by
        rcases Nat.lt_or_ge j 8 with g' | g'
        · exact g'
        · exfalso
          have : 256 ^ 8 ≤ 256 ^ j := Nat.pow_le_pow_right (by omega) g'
          have e : (256 : Nat) ^ 8 = 18446744073709551616 := by decide
          have := HM.out
          omega
      have hnext := Lib.hid (show m / 256 ^ j / 256 = m / 256 ^ (j + 1) by rw [Nat.div_div_eq_div_mul, ← Nat.pow_succ])
      have hcons := Lib.hid (digK_cons j m)
      have hy : m / 256 ^ j ≤ m := Nat.div_le_self _ _
      have HRD := Lib.hid hrd
      have HLE := Lib.hid hle
      clear hrd hle hjm
      generalize m / 256 ^ j = y at *
      have g6 : decide ((0 : Int) < (y : Int)) = true := by simp; omega
      have hy' : (y : Int) ≤ 4611686018427387904 := by omega
      have hown0 : Hid ((wr.alloc (.cells #[.int .u8 ((y : Int) % 256)] 5)).ownsRow wr.heap.size 5 1 (.slice (some ⟨wr.heap.size, 0, none⟩) 1 1) 1 (bvs [UInt8.ofNat y])) := by
        have := World.ownsRow_lit (base := wr.heap.size) (e := 5) (size := 1) wr #[.int .u8 ((y : Int) % 256)] 1 (Nat.le_refl _) (DerW.ml 1 (by omega)) rfl
        rw [show (#[Value.int .u8 ((y : Int) % 256)] : Array Value).toList = bvs [UInt8.ofNat y] by simp [bvs, bv]] at this
        exact this
      have HY := Lib.hid (show 0 < y by omega)
      clear h0 hy
      go_wp2_with (at_builtin
                   refine wpList_append_rd _ rfl (.tmp 18) (.tmp 19) 26 rfl wr.heap.size 5 i0 _ 1 Tryz.underlying26 hi0 hz0 hs0 hb0 rfl (.slice (some ⟨wr.heap.size, 0, none⟩) 1 1) 1 (bvs [UInt8.ofNat y]) rfl hown0.out wr.heap.size (some ⟨g, 0, none⟩) j cap (bvs (digK j m)) rfl (by rw [bvs_length, length_digK]) (HRD.out.alloc (Nat.le_refl _) _) (bvs_one _) (hml.out _ (by omega)) (by omega) (by simp) ?_
                   intro v2 w2 hown2 hg2 hat2
                   rw [← bvs_append, List.singleton_append, ← hcons.out] at hown2
                   obtain ⟨g3, cap3, rfl, hg3, hcap3, hrd3⟩ := DerK.own_slice hown2 (by rw [length_digK]; omega)
                   rw [length_digK]
                   have hbe2 : Below wr.heap.size wr w2 := ((Below.refl wr.heap.size wr).alloc (Nat.le_refl _) _).grown hg2 (by simp) (fun k hk => by simp [Value.ownBlock] at hk; omega)
                   clear hown2 hat2)
      refine ⟨⟨j + 1, g3, cap3, by omega, .inr (by simpa using HLE.out), by omega, ?_, rfl, hrd3, bt hbel hbe2⟩, ?_⟩
      · rw [← hnext.out]; rfl
      · have := HY.out; simp [intOf]; omega

end Go.Proofs.YteeabfplnaknfaaGreat.DerR
end

section
set_option linter.unusedVariables false
namespace Go.Proofs.YteeabfplnaknfaaGreat.DerR
open Go.RowKit Go.Proofs.YteeabfplnaknfaaGreat.Mem Go.Proofs.YteeabfplnaknfaaGreat.DerP

theorem own_any {w : World} {base n : Nat} {t : TypeId} {v : Value} {l : L} (h : w.ownsRow base t 1 v n (bvs l)) :
    ∃ A cap, v = .slice A l.length cap ∧ Rd w w.heap.size A (bvs l) := by
  have hn : n = l.length := by have := h.1; rw [bvs_length] at this; omega
  subst hn
  rcases h.2 with ⟨h1, h2⟩ | ⟨g, cap, cur, rfl, hg, _, hc, _⟩
  · subst h1
    have : l = [] := List.eq_nil_of_length_eq_zero h2
    subst this
    exact ⟨none, 0, rfl, .inl rfl⟩
  · exact ⟨_, cap, rfl, Rd.of_own h⟩
def flatTo (ls : List L) (k : Nat) : L := (ls.take k).flatten
theorem flatTo_succ (ls : List L) (k : Nat) (l : L) (h : ls[k]? = some l) : flatTo ls (k + 1) = flatTo ls k ++ l := DerW.flat_snoc ls k l h
theorem flatTo_le (ls : List L) (k : Nat) : (flatTo ls k).length ≤ ls.flatten.length := DerW.flat_le ls k
theorem flatTo_all (ls : List L) : flatTo ls ls.length = ls.flatten := by rw [flatTo, List.take_of_length_le (Nat.le_refl _)]

set_option maxHeartbeats 1000000 in
theorem wrap_any (t : UInt8) (ls : List L) (A : Option Addr) (m c B : Nat) (w : World) (hr : DerW.Rds w B A ls) (hm : m = ls.length) (hB : B ≤ w.heap.size) (hl : ls.flatten.length ≤ 65535) (hc : ls.length ≤ 1000000) :
    Calls Tryz.prog 38 #[.int .u8 t.toNat, .slice A m c] w (Gives w (elem t ls.flatten)) := by
  obtain ⟨i0, hi0, hz0, hs0, hb0⟩ := info_parts DerW.u8_info
  have HR := Lib.hid hr
  have hfl := Lib.hid (fun k => Nat.le_trans (flatTo_le ls k) hl)
  have hfa := Lib.hid (flatTo_all ls)
  have hml := Lib.hid DerW.ml
  have hc' : (m : Int) ≤ 1000000 := by omega
  have HM := Lib.hid hm
  have HL := Lib.hid hl
  have h00 := Lib.hid (World.ownsRow_nil w w.heap.size 5 1)
  clear hr hm hc hl
  go_enter Tryz.func38, Tryz.ntmps38
  go_wp2
  go_loopw [5, 6] (fun v i wr => ∃ k : Nat, k ≤ m ∧ i = .int .i64 (k : Int) ∧ wr.ownsRow w.heap.size 5 1 v (flatTo ls k).length (bvs (flatTo ls k)) ∧ Below w.heap.size w wr) (fun _ i _ => m - (intOf i).toNat)
  case atStart => exact ⟨0, by omega, rfl, h00.out, Below.refl _ _⟩
  case round =>
    obtain ⟨k, hk, rfl, hown, hbel⟩ := hrel
    by_cases hlt : k < m
    · obtain ⟨l, hx⟩ : ∃ l, ls[k]? = some l := ⟨_, List.getElem?_eq_getElem (by have := HM.out; omega)⟩
      obtain ⟨b, o, rfl, hb, A', c', hcell, hrd⟩ := (HR.out.below (hbel.mono hB)).at_ hx
      have hs := flatTo_succ ls k l hx
      have hf2 := hfl.out (k + 1)
      have hs1 := congrArg List.length hs
      rw [List.length_append] at hs1
      have HS := Lib.hid hs
      have hsum : (flatTo ls k).length + l.length ≤ 65535 := by omega
      have HO := Lib.hid hown
      have HQ := Lib.hid hrd
      clear hs hs1 hx hf2 hown hrd
      go_wp2_with (at_builtin
                   refine wpList_append_rd _ rfl (.tmp 13) (.tmp 17) 26 rfl w.heap.size 5 i0 _ 1 Tryz.underlying26 hi0 hz0 hs0 hb0 rfl _ (flatTo ls k).length (bvs (flatTo ls k)) rfl HO.out B A' l.length c' (bvs l) rfl (bvs_length l).symm HQ.out (bvs_one _) (hml.out _ (by omega)) (by omega) hbel.size ?_
                   intro v2 w2 hown2 hg2 hat2)
      refine ⟨⟨k + 1, by omega, by go_num, ?_, hbel.grown hg2 hbel.size (fun i hi => (HO.out.lt i hi).1)⟩, by simp [intOf]; omega⟩
      rw [HS.out, bvs_append, List.length_append]
      exact hown2
    · obtain rfl : k = m := by omega
      have e : flatTo ls k = ls.flatten := by rw [HM.out]; exact hfa.out
      rw [e] at hown
      obtain ⟨A2, cap2, rfl, hrd2⟩ := own_any hown
      have HQ := Lib.hid hrd2
      have HE := Lib.hid (elem_any t ls.flatten A2 ls.flatten.length cap2 _ wr hrd2 rfl (Nat.le_refl _) HL.out)
      clear hk hlt e hown hrd2
      generalize ls.flatten.length = q at *
      go_wp2_with (go_at_call 86; refine (Calls.mono HE.out ?_); rintro e w1 ⟨⟨g1, c1, rfl, hg1, hc1, hrd1⟩, hb1⟩)
      go_ret
      exact ⟨⟨g1, c1, rfl, Nat.le_trans hbel.size hg1, hc1, hrd1⟩, bt hbel hb1⟩

end Go.Proofs.YteeabfplnaknfaaGreat.DerR
end

section
set_option linter.unusedVariables false
namespace Go.Proofs.YteeabfplnaknfaaGreat.Reg
open Go.RowKit Go.Proofs.YteeabfplnaknfaaGreat.Mem

section
variable {P : Program} {ops : Array Oper} {Q : Exit → Act → World → Prop} {md : Region.Mode}

theorem held_mono {S1 S2 : World → Prop} (hS : ∀ w, S2 w → S1 w) : ∀ (f : Nat) (l : Array Bool) (a : Act) (w : World), wpAnyH P md ops Q S2 f l a w → wpAnyH P md ops Q S1 f l a w
  | 0, _, _, _, h => h
  | f + 1, _, _, _, h => ⟨h.1, fun i hi => wpOp_mono (fun a' w' hh => ⟨hS w' hh.1, held_mono hS f _ a' w' hh.2⟩) (h.2 i hi)⟩

def Since (W w : World) : Prop := Below W.heap.size W w
theorem held_on {W w : World} {f : Nat} {l : Array Bool} {a : Act} (hb : Below W.heap.size W w) (h : wpAnyH P md ops Q (Since w) f l a w) : wpAnyH P md ops Q (Since W) f l a w :=
  held_mono (fun _ h' => bt hb h') f l a w h
theorem region_begin (n : Nat) {id : Nat} {a : Act} {w : World} (hn : ops.size = n) (hm : P.follows .mixedOrders = true) (h : wpAnyH P .any ops Q (Since w.drew) n (Array.replicate n false) a w.drew) : (Code.region id ops true).wp P Q a w := by
  subst hn
  exact wp_region_held_drew hm (Below.refl _ _) (fun _ => h)
theorem take_op (i : Nat) {dst : Option Tmp} {op : Op} {ty : TypeId} {pos : String} {after : Array _} {guard : Option (Nat × Bool)} {v : Value} {fuel : Nat} {listed : Array Bool} {a : Act} {w : World} (hi : ops[i]? = some ⟨dst, op, ty, pos, after, guard⟩)
    (hs : Region.noSelect ops = true) (hf : Region.free md ops listed i = true) (hr : (Region.ready md ops listed).contains i = true)
    (hQ : ∀ c a w, Q (.panic c) (a.put dst v) w → Q (.panic c) a w)
    (hw : Region.wanted ⟨dst, op, ty, pos, after, guard⟩ (yielded ops a.tmps) = true) (hy : ∀ w', Since w w' → (execOp a.eval ⟨dst, op, ty, pos, after, guard⟩).run P w' = .ok (.value v) w')
    (h : wpAnyH P md ops Q (Since w) fuel (listed.setIfInBounds i true) (a.put dst v) w) : wpAnyH P md ops Q (Since w) (fuel + 1) listed a w :=
  wpAnyH_take hi hs hf hr hQ (.inl ⟨hw, hy⟩) (Below.refl _ _) h
theorem skip_op (i : Nat) {dst : Option Tmp} {op : Op} {ty : TypeId} {pos : String} {after : Array _} {guard : Option (Nat × Bool)} {fuel : Nat} {listed : Array Bool} {a : Act} {w : World} (hi : ops[i]? = some ⟨dst, op, ty, pos, after, guard⟩)
    (hs : Region.noSelect ops = true) (hf : Region.free md ops listed i = true) (hr : (Region.ready md ops listed).contains i = true)
    (hQ : ∀ c a w, Q (.panic c) (a.put dst undef) w → Q (.panic c) a w)
    (hw : Region.wanted ⟨dst, op, ty, pos, after, guard⟩ (yielded ops a.tmps) = false)
    (h : wpAnyH P md ops Q (Since w) fuel (listed.setIfInBounds i true) (a.put dst undef) w) : wpAnyH P md ops Q (Since w) (fuel + 1) listed a w :=
  wpAnyH_take hi hs hf hr hQ (.inr ⟨hw, rfl⟩) (Below.refl _ _) h
theorem call_op (i : Nat) {dst : Option Tmp} {op : Op} {ty : TypeId} {pos : String} {after : Array _} {guard : Option (Nat × Bool)} {fuel : Nat} {listed : Array Bool} {a : Act} {w : World} (hi : ops[i]? = some ⟨dst, op, ty, pos, after, guard⟩)
    (hr : Region.ready md ops listed = [i]) (hw : Region.wanted ⟨dst, op, ty, pos, after, guard⟩ (yielded ops a.tmps) = true) (f : FuncId) (args : Array Value)
    (hx : (execOp a.eval ⟨dst, op, ty, pos, after, guard⟩).run P w = .ok (.enter f args) w)
    (h : Calls P f args w fun e w' => ∃ v, e = .returned v ∧ Below w.heap.size w w' ∧ wpAnyH P md ops Q (Since w') fuel (listed.setIfInBounds i true) (a.put dst v) w') : wpAnyH P md ops Q (Since w) (fuel + 1) listed a w := by
  refine wpAnyH_all hr (by simp) fun j hj => ?_
  obtain rfl : j = i := by simpa using hj
  unfold wpOp
  simp only [hi]
  rw [if_pos hw]
  left
  unfold Oper.wp
  rw [hx]
  exact h.mono fun e w' hh => by
    obtain ⟨v, rfl, hb, hh⟩ := hh
    exact ⟨hb, held_on hb hh⟩
theorem since_str {src e dst : TypeId} (hs : P.underlying src = some (.slice e)) (he : P.underlying e = some (.int .u8)) (hd : P.underlying dst = some .string) {W : World} {B n c : Nat} {A : Option Addr} {l : List UInt8} (h : Rd W B A (bvs l)) (hB : B ≤ W.heap.size) (hn : n = l.length) :
    ∀ w, Since W w → (convert src dst (.slice A n c)).run P w = .ok (.string ⟨l.toArray⟩) w :=
  fun w hS => run_bytes_str w src e hs he (h.below (hS.mono hB)) n c hn dst hd
end

end Go.Proofs.YteeabfplnaknfaaGreat.Reg
end

section
set_option linter.unusedVariables false
namespace Go.Proofs.YteeabfplnaknfaaGreat.DerR
open Go.RowKit Go.Proofs.YteeabfplnaknfaaGreat.Mem Go.Proofs.YteeabfplnaknfaaGreat.DerP

def cutA (A : Option Addr) (c k : Nat) : Option Addr := if c = k then A else A.map (·.add k)
theorem run_cut_from {P : Program} {t e : TypeId} (ht : P.underlying t = some (.slice e)) (hz : ∀ w : World, (sizeOf e).run P w = .ok 1 w) (A : Option Addr) (n c k : Nat) (K : Int) (hK : K = (k : Int)) (hk : k ≤ n) (w : World) :
    (Instr.slice t (.slice A n c) (some (.int .i64 K)) none none).run P w = .ok (.slice (cutA A c k) (n - k) (c - k)) w := by
  subst hK
  simp [Instr.slice, run_underlying ht, Instr.sliceBounds, run_sliceBound, hz, cutA, Result.andThen, (by omega : (k : Int) ≤ (n : Int))]
theorem run_cut_mid {P : Program} {t e : TypeId} (ht : P.underlying t = some (.slice e)) (hz : ∀ w : World, (sizeOf e).run P w = .ok 1 w) (A : Option Addr) (n c k m : Nat) (K M : Int) (hK : K = (k : Int)) (hM : M = (k : Int) + (m : Int)) (hm : k + m ≤ c) (w : World) :
    (Instr.slice t (.slice A n c) (some (.int .i64 K)) (some (.int .i64 M)) none).run P w = .ok (.slice (cutA A c k) m (c - k)) w := by
  subst hK hM
  have he : P.elem t = e := by simp [Program.elem, ht]
  have ht' : P.underlying t = some (.slice (P.elem t)) := by rw [he]; exact ht
  rw [run_slice_lh w t A n c ht' .i64 .i64 (k : Int) ((k : Int) + (m : Int)) (by omega) (by omega) (by omega), he, hz]
  simp only [Result.andThen, sliced, Nat.mul_one, cutA, Int.toNat_natCast]
  have e2 : ((k : Int) + (m : Int)).toNat - k = m := by omega
  rw [e2]
theorem rd_cut {w : World} {B : Nat} {A : Option Addr} {l : L} {c : Nat} (h : Rd w B A (bvs l)) (k : Nat) (hl : l.length ≤ c) : Rd w B (cutA A c k) (bvs (l.drop k)) := by
  unfold cutA
  by_cases hc : c = k
  · rw [if_pos hc, List.drop_of_length_le (by omega)]
    exact .inl rfl
  · rw [if_neg hc]
    rcases h with h | ⟨b, o, h1, h2, h3⟩
    · have : l = [] := List.map_eq_nil_iff.1 h
      subst this
      exact .inl (by simp [bvs])
    · subst h1
      refine .inr ⟨b, o + k, by simp [addr_add], h2, fun i u hu => ?_⟩
      rw [Nat.add_assoc]
      refine h3 (k + i) u ?_
      rw [← hu]
      simp [bvs, List.getElem?_map, List.getElem?_drop]
theorem rd_take {w : World} {B : Nat} {A : Option Addr} {l : L} (h : Rd w B A (bvs l)) (m : Nat) : Rd w B A (bvs (l.take m)) := by
  rcases h with h | ⟨b, o, h1, h2, h3⟩
  · have : l = [] := List.map_eq_nil_iff.1 h
    subst this
    exact .inl (by simp [bvs])
  · refine .inr ⟨b, o, h1, h2, fun i u hu => h3 i u ?_⟩
    by_cases hi : i < m
    · rw [← hu]; simp only [bvs, List.getElem?_map, List.getElem?_take, if_pos hi]
    · rw [List.getElem?_eq_none (by rw [bvs_length, List.length_take]; omega)] at hu; cases hu

def RS (w : World) (B : Nat) (A : Option Addr) (n cap : Nat) (e : Bool) : Option L → Prop
  | none => e = true
  | some l => e = false ∧ n = l.length ∧ n ≤ cap ∧ Rd w B A (bvs l)
def RC (w : World) (B g : Nat) (c : Option L) : Prop := ∃ A n cap e, Blk w g 100 #[.slice A n cap, .bool e] ∧ RS w B A n cap e c
theorem RC.keep {w w' : World} {B g : Nat} {c : Option L} (h : RC w B g c) {row : Option Nat} (hg : w.grownBy w' row) (hne : row ≠ some g) (hB : B ≤ w.heap.size) (hr : ∀ k, row = some k → B ≤ k) : RC w' B g c := by
  obtain ⟨A, n, cap, e, h1, h2⟩ := h
  refine ⟨A, n, cap, e, h1.grown hg hne, ?_⟩
  cases c with
  | none => exact h2
  | some l => exact ⟨h2.1, h2.2.1, h2.2.2.1, h2.2.2.2.grown hg hB hr⟩
def Took (w : World) (B g : Nat) (t : UInt8) (c : Option L) (e : Ending) (w' : World) : Prop :=
  (∃ A' cap', e = .returned (.slice A' ((bodyC t c).getD []).length cap') ∧ ((bodyC t c).getD []).length ≤ cap' ∧ Rd w' B A' (bvs ((bodyC t c).getD []))) ∧ RC w' B g (nextC t c) ∧ w.grownBy w' (some g)

theorem took_err {w : World} {B g : Nat} {t : UInt8} {c : Option L} {A : Option Addr} {n cap : Nat} {e : Bool} (hb : Blk w g 100 #[.slice A n cap, .bool e]) (h : bodyC t c = none) {w0 : World} (hg : w0.grownBy w (some g)) :
    Took w0 B g t c (.returned (.slice none 0 0)) (w.setCell ⟨g, 1, none⟩ (.bool true)) := by
  have hn := body_next t c h
  unfold Took
  rw [h, hn]
  exact ⟨⟨none, 0, rfl, Nat.le_refl _, .inl rfl⟩, ⟨A, n, cap, true, hb.set 1 (.bool true), rfl⟩, g_set hg (.inl rfl) _⟩

set_option maxRecDepth 100000 in
set_option maxHeartbeats 1000000 in
theorem rtake_none (t : UInt8) (B g : Nat) (w : World) (h : RC w B g none) :
    Calls Tryz.prog 95 #[.pointer (some ⟨g, 0, none⟩), .int .u8 t.toNat] w (Took w B g t none) := by
  obtain ⟨A, n, cap, e, hb, he⟩ := h
  obtain rfl : e = true := he
  have h0 : w.cell? ⟨g, 0, none⟩ = some (.slice A n cap) := hb.cell 0
  have h1 : w.cell? ⟨g, 1, none⟩ = some (.bool true) := hb.cell 1
  have f1 := hb.frozen 1
  have HB := Lib.hid hb
  clear hb
  go_enter Tryz.func95, Tryz.ntmps95
  go_wp2
  go_ret
  exact took_err HB.out rfl (World.grownBy.refl _ _)

set_option maxRecDepth 100000 in
set_option maxHeartbeats 1000000 in
theorem rtake_short (t : UInt8) (B g : Nat) (A : Option Addr) (cap : Nat) (l : L) (w : World) (hb : Blk w g 100 #[.slice A l.length cap, .bool false]) (hl : l.length < 2) :
    Calls Tryz.prog 95 #[.pointer (some ⟨g, 0, none⟩), .int .u8 t.toNat] w (Took w B g t (some l)) := by
  have h0 : w.cell? ⟨g, 0, none⟩ = some (.slice A l.length cap) := hb.cell 0
  have h1 : w.cell? ⟨g, 1, none⟩ = some (.bool false) := hb.cell 1
  have f1 := hb.frozen 1
  have HB := Lib.hid hb
  have g1 : decide ((l.length : Int) < 2) = true := by simp only [decide_eq_true_eq]; omega
  have E := Lib.hid (show bodyC t (some l) = none by
    refine (body_none ?_).1
    rcases l with _ | ⟨a, _ | ⟨b, r⟩⟩
    · rfl
    · simp [splitL, lenR]
    · simp at hl; omega)
  clear hb hl
  go_enter Tryz.func95, Tryz.ntmps95
  go_wp2
  go_ret
  exact took_err HB.out E.out (World.grownBy.refl _ _)

end Go.Proofs.YteeabfplnaknfaaGreat.DerR
end
