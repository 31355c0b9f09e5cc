import Derived.Test.YteeabfplnaknfaaProg
import Derived.Deep.RegionHeld3
import Derived.Lib.MinMax
import Derived.Deep.LoopGhost
import Derived.Laws.OwnMore
import Derived.Test.YteeabfplnaknfaaZMsgOthers1
import Derived.Test.YteeabfplnaknfaaZMsgOthers2
section
namespace Go.Proofs.Yteeabfplnaknfaa.DerW
open Go.RowKit Go.Proofs.Yteeabfplnaknfaa.Mem Go.Proofs.Yteeabfplnaknfaa.DerP

theorem u8_info : (Try.prog.info? 5).map (fun i => (i.zero, i.size, i.bytes)) = some (some (.int .u8 0), 1, 1) := by kernel_rfl

def filled (K m j : Nat) : Array Value := (List.replicate j (bv 0) ++ bvs ((digK K m).drop j)).toArray
theorem filled_start (K m : Nat) : filled K m K = zeros K := by
  rw [filled, List.drop_of_length_le (by rw [length_digK]; exact Nat.le_refl _)]
  simp [zeros, bvs]
theorem filled_end (K m : Nat) : filled K m 0 = (bvs (digK K m)).toArray := by simp [filled]
theorem filled_set (K m j : Nat) (hj : j < K) : (filled K m (j + 1)).setIfInBounds j (bv (UInt8.ofNat (m / 256 ^ (K - 1 - j)))) = filled K m j := by
  have h := drop_step (digK K m) j _ (digK_at K m j hj)
  apply Array.toList_inj.1
  simp only [filled, Array.toList_setIfInBounds]
  rw [h]
  rw [List.set_append_left _ _ (by simp)]
  rw [List.replicate_succ', List.set_append_right _ _ (by simp)]
  simp [bvs]

set_option maxHeartbeats 400000 in
theorem digits_any (m : Nat) (hm : m ≤ 4611686018427387904) (w : World) : Calls Try.prog 71 #[.int .i64 (m : Int)] w fun e w' =>
    ∃ g, e = .returned (.slice (some ⟨g, 0, none⟩) (dig m).length (dig m).length) ∧ w.heap.size ≤ g ∧ Blk w' g 5 (bvs (dig m)).toArray ∧ Below w.heap.size w w' := by
  obtain ⟨i0, hi0, hz0, hs0, hb0⟩ := info_parts u8_info
  have hbl := bitLen_62 m hm
  have hL : (dig m).length = Lib.bitLen m / 8 + 1 := length_dig m
  have hD : dig m = digK (Lib.bitLen m / 8 + 1) m := rfl
  rw [hL, hD]
  have hc : ∀ W, Calls Try.prog 83 #[.int .u64 (m : Int)] W fun e w' => e = .returned (.int .i64 (Lib.bitLen m : Int)) ∧ W = w' := by
    intro W
    exact DerLib.bits_len m W (by omega)
  clear hL hD
  generalize hq : Lib.bitLen m = q at *
  have hmk := run_make_bytes (P := Try.prog) Try.underlying26 hi0 hz0 hs0 hb0 ((q : Int) / 8 + 1) (q / 8 + 1) (by omega) (by omega)
  have HC := Lib.hid hc; clear hc
  have HQ := Lib.hid hq; clear hq
  have hm' : (m : Int) ≤ 4611686018427387904 := by omega
  have hq' : (q : Int) ≤ 63 := by omega
  clear hm hbl hi0 hz0 hs0 hb0
  go_enter Try.func71, Try.ntmps71
  go_wp2_with (go_at_call 83; refine (HC.out _).mono ?_; rintro e w' ⟨rfl, rfl⟩)
  go_loopw [0, 4] (fun n i wr => ∃ j : Nat, j ≤ q / 8 + 1 ∧ i = .int .i64 ((j : Int) - 1) ∧ n = .int .i64 ((m / 256 ^ (q / 8 + 1 - j) : Nat) : Int) ∧ Blk wr w.heap.size 5 (filled (q / 8 + 1) m j) ∧ Below w.heap.size w wr) (fun _ i _ => (intOf i + 1).toNat)
  case atStart =>
    refine ⟨q / 8 + 1, Nat.le_refl _, by congr 1; omega, by simp, ?_, (Below.refl _ _).alloc (Nat.le_refl _) _⟩
    rw [filled_start]
    exact Blk.new _ _ _
  case round =>
    obtain ⟨j, hj, rfl, rfl, hB, hbel⟩ := hrel
    cases j with
    | zero =>
      have e : ((0 : Nat) : Int) - 1 = -1 := rfl
      rw [e]
      go_wp2
      go_ret
      rw [filled_end] at hB
      exact ⟨_, rfl, Nat.le_refl _, hB, hbel⟩
    | succ j =>
      have e : ((j + 1 : Nat) : Int) - 1 = (j : Int) := by omega
      rw [e]
      clear e
      have hf := hB.frozen j
      have hset := hB.set j (bv (UInt8.ofNat (m / 256 ^ (q / 8 + 1 - 1 - j))))
      rw [filled_set _ _ _ (by omega)] at hset
      have hcell : ∃ u, (filled (q / 8 + 1) m (j + 1))[j]? = some u := by
        have : j < (filled (q / 8 + 1) m (j + 1)).size := by simp [filled, bvs, length_digK]; omega
        exact ⟨_, Array.getElem?_eq_getElem this⟩
      obtain ⟨u, hu⟩ := hcell
      have hcu := (hB.cell j).trans hu
      have hdiv : m / 256 ^ (q / 8 + 1 - (j + 1)) ≤ m := Nat.div_le_self _ _
      have hdiv' : ((m / 256 ^ (q / 8 + 1 - (j + 1)) : Nat) : Int) ≤ 4611686018427387904 := by omega
      have hnx := Lib.hid (show m / 256 ^ (q / 8 + 1 - (j + 1)) / 256 = m / 256 ^ (q / 8 + 1 - j) by
        rw [Nat.div_div_eq_div_mul, ← Nat.pow_succ]; congr 2; omega)
      have hpw := Lib.hid (show q / 8 + 1 - 1 - j = q / 8 + 1 - (j + 1) by omega)
      rw [hpw.out] at hset
      generalize m / 256 ^ (q / 8 + 1 - (j + 1)) = y at *
      have HS := Lib.hid hset; clear hset hu
      go_wp2
      refine ⟨⟨j, by omega, rfl, ?_, ?_, hbel.setCell (Nat.le_refl _) _⟩, by simp [intOf]⟩
      · rw [← hnx.out]; rfl
      · have e : bv (UInt8.ofNat y) = .int .u8 ((y : Int) % 256) := by simp [bv]
        rw [← e]
        exact HS.out

theorem ml (n : Nat) (h : n ≤ 1000000) : n ≤ maxLen := by unfold maxLen; omega
theorem rd_lit (w : World) (t : TypeId) (cs : Array Value) (l : L) (h : cs.toList = bvs l) (N : Nat) (hN : w.heap.size = N) : Rd (w.alloc (.cells cs t)) (N + 1) (some ⟨N, 0, none⟩) (bvs l) := by
  subst hN
  refine .inr ⟨w.heap.size, 0, rfl, by omega, fun i u hu => ?_⟩
  rw [Nat.zero_add, (Blk.new w t cs).cell i]
  rw [← h] at hu
  simpa using hu
theorem byte_nat (n : Nat) (h : n < 256) : bv (UInt8.ofNat n) = .int .u8 (n : Int) := by simp [bv]; omega
set_option maxRecDepth 100000 in
set_option maxHeartbeats 400000 in
theorem head_small (t : UInt8) (n : Nat) (h1 : n < 128) (w : World) : Calls Try.prog 70 #[.int .u8 t.toNat, .int .i64 (n : Int)] w fun e w' =>
    ∃ v, e = .returned v ∧ w'.ownsRow w.heap.size 5 1 v (1 + (szL n).length) (bvs (t :: szL n)) ∧ Below w.heap.size w w' := by
  obtain ⟨i0, hi0, hz0, hs0, hb0⟩ := info_parts u8_info
  have hmk := run_make_room (P := Try.prog) Try.underlying26 hi0 hz0 hs0 hb0 ((n : Int) + 4) (n + 4) (by omega) (by omega)
  have E := Lib.hid (show szL n = [UInt8.ofNat n] by simp [szL, h1])
  have g1 : decide ((n : Int) < 128) = true := by simp; omega
  have hn : (n : Int) ≤ 127 := by omega
  have hown0 : Hid (∀ o, (World.alloc (World.alloc w (.cells (zeros (n + 4)) 5)) o).ownsRow w.heap.size 5 1 (.slice (some ⟨w.heap.size, 0, none⟩) 0 (n + 4)) 0 []) := fun o => (World.ownsRow_made w (zeros (n + 4)) (n + 4) (Nat.le_refl _) (ml _ (by omega)) (by rw [zeros_size]; omega)).alloc o
  have hm1 := Lib.hid (ml 1 (by omega))
  have hm2 := Lib.hid (ml 2 (by omega))
  have hbn := Lib.hid (byte_nat n (by omega))
  clear h1
  go_enter Try.func70, Try.ntmps70
  go_wp2_with (first
    | (at_builtin
       refine wpList_append_rd _ rfl (.tmp 8) (.tmp 10) 26 rfl w.heap.size 5 i0 _ 1 Try.underlying26 hi0 hz0 hs0 hb0 rfl (.slice (some ⟨w.heap.size, 0, none⟩) 0 (n + 4)) 0 [] rfl (hown0.out _) _ _ 1 1 (bvs [t]) rfl rfl (rd_lit _ 5 _ [t] rfl _ (by simp)) (bvs_one _) hm1.out (by omega) (by simp; omega) ?_
       intro v1 w1 hown1 hg1 hat1)
    | (at_builtin
       refine wpList_append_rd _ rfl (.tmp 15) (.tmp 18) 26 rfl w.heap.size 5 i0 _ 1 Try.underlying26 hi0 hz0 hs0 hb0 rfl v1 (0 + 1) ([] ++ bvs [t]) rfl (hown1.alloc _) _ _ 1 1 (bvs [UInt8.ofNat n]) rfl rfl (rd_lit w1 5 _ [UInt8.ofNat n] (by simp [bvs, hbn.out]) _ rfl) (bvs_one _) hm2.out (by omega) (by simp; have := hg1.size; simp at this; omega) ?_
       intro v2 w2 hown2 hg2 hat2))
  go_ret
  have b1 : Below w.heap.size w w1 := (((Below.refl w.heap.size w).alloc (Nat.le_refl _) _).alloc (by simp) _).grown hg1 (by simp; omega) (by intro k hk; simp [Value.ownBlock] at hk; omega)
  have b2 := (b1.alloc b1.size _).grown hg2 (by have := b1.size; simp; omega) (fun k hk => (hown1.lt k hk).1)
  exact ⟨v2, rfl, by rw [E.out]; simpa [bvs] using hown2, b2⟩
set_option maxRecDepth 100000 in
set_option maxHeartbeats 400000 in
theorem head_mid (t : UInt8) (n : Nat) (h1 : ¬ n < 128) (h2 : n ≤ 255) (w : World) : Calls Try.prog 70 #[.int .u8 t.toNat, .int .i64 (n : Int)] w fun e w' =>
    ∃ v, e = .returned v ∧ w'.ownsRow w.heap.size 5 1 v (1 + (szL n).length) (bvs (t :: szL n)) ∧ Below w.heap.size w w' := by
  obtain ⟨i0, hi0, hz0, hs0, hb0⟩ := info_parts u8_info
  have hmk := run_make_room (P := Try.prog) Try.underlying26 hi0 hz0 hs0 hb0 ((n : Int) + 4) (n + 4) (by omega) (by omega)
  have E := Lib.hid (show szL n = [129, UInt8.ofNat n] by simp [szL, h1, h2])
  have g1 : decide ((n : Int) < 128) = false := by simp; omega
  have g2 : decide ((n : Int) ≤ 255) = true := by simp; omega
  have hn : (n : Int) ≤ 255 := by omega
  have hown0 : Hid (∀ o, (World.alloc (World.alloc w (.cells (zeros (n + 4)) 5)) o).ownsRow w.heap.size 5 1 (.slice (some ⟨w.heap.size, 0, none⟩) 0 (n + 4)) 0 []) := fun o => (World.ownsRow_made w (zeros (n + 4)) (n + 4) (Nat.le_refl _) (ml _ (by omega)) (by rw [zeros_size]; omega)).alloc o
  have hm1 := Lib.hid (ml 1 (by omega))
  have hm2 := Lib.hid (ml 3 (by omega))
  have hbn := Lib.hid (byte_nat n (by omega))
  clear h1 h2
  go_enter Try.func70, Try.ntmps70
  go_wp2_with (first
    | (at_builtin
       refine wpList_append_rd _ rfl (.tmp 8) (.tmp 10) 26 rfl w.heap.size 5 i0 _ 1 Try.underlying26 hi0 hz0 hs0 hb0 rfl (.slice (some ⟨w.heap.size, 0, none⟩) 0 (n + 4)) 0 [] rfl (hown0.out _) _ _ 1 1 (bvs [t]) rfl rfl (rd_lit _ 5 _ [t] rfl _ (by simp)) (bvs_one _) hm1.out (by omega) (by simp; omega) ?_
       intro v1 w1 hown1 hg1 hat1)
    | (at_builtin
       refine wpList_append_rd _ rfl (.tmp 23) (.tmp 26) 26 rfl w.heap.size 5 i0 _ 1 Try.underlying26 hi0 hz0 hs0 hb0 rfl v1 (0 + 1) ([] ++ bvs [t]) rfl (hown1.alloc _) _ _ 2 2 (bvs [129, UInt8.ofNat n]) rfl rfl (rd_lit w1 5 _ [129, UInt8.ofNat n] (by simp [bvs, hbn.out]; rfl) _ rfl) (bvs_one _) hm2.out (by omega) (by simp; have := hg1.size; simp at this; omega) ?_
       intro v2 w2 hown2 hg2 hat2))
  go_ret
  have b1 : Below w.heap.size w w1 := (((Below.refl w.heap.size w).alloc (Nat.le_refl _) _).alloc (by simp) _).grown hg1 (by simp; omega) (by intro k hk; simp [Value.ownBlock] at hk; omega)
  have b2 := (b1.alloc b1.size _).grown hg2 (by have := b1.size; simp; omega) (fun k hk => (hown1.lt k hk).1)
  exact ⟨v2, rfl, by rw [E.out]; simpa [bvs] using hown2, b2⟩
set_option maxRecDepth 100000 in
set_option maxHeartbeats 400000 in
theorem head_big (t : UInt8) (n : Nat) (h1 : ¬ n < 128) (h2 : ¬ n ≤ 255) (h3 : n ≤ 65535) (w : World) : Calls Try.prog 70 #[.int .u8 t.toNat, .int .i64 (n : Int)] w fun e w' =>
    ∃ v, e = .returned v ∧ w'.ownsRow w.heap.size 5 1 v (1 + (szL n).length) (bvs (t :: szL n)) ∧ Below w.heap.size w w' := by
  obtain ⟨i0, hi0, hz0, hs0, hb0⟩ := info_parts u8_info
  have hmk := run_make_room (P := Try.prog) Try.underlying26 hi0 hz0 hs0 hb0 ((n : Int) + 4) (n + 4) (by omega) (by omega)
  have E := Lib.hid (show szL n = [130, UInt8.ofNat (n / 256), UInt8.ofNat n] by simp [szL, h1, h2])
  have g1 : decide ((n : Int) < 128) = false := by simp; omega
  have g2 : decide ((n : Int) ≤ 255) = false := by simp; omega
  have hn : (n : Int) ≤ 65535 := by omega
  have hown0 : Hid (∀ o, (World.alloc (World.alloc w (.cells (zeros (n + 4)) 5)) o).ownsRow w.heap.size 5 1 (.slice (some ⟨w.heap.size, 0, none⟩) 0 (n + 4)) 0 []) := fun o => (World.ownsRow_made w (zeros (n + 4)) (n + 4) (Nat.le_refl _) (ml _ (by omega)) (by rw [zeros_size]; omega)).alloc o
  have hm1 := Lib.hid (ml 1 (by omega))
  have hm2 := Lib.hid (ml 4 (by omega))
  have hbn := Lib.hid (show bvs [130, UInt8.ofNat (n / 256), UInt8.ofNat n] = [.int .u8 130, .int .u8 ((n : Int) / 256), .int .u8 ((n : Int) % 256)] by simp [bvs, bv]; omega)
  clear h1 h2 h3
  go_enter Try.func70, Try.ntmps70
  go_wp2_with (first
    | (at_builtin
       refine wpList_append_rd _ rfl (.tmp 8) (.tmp 10) 26 rfl w.heap.size 5 i0 _ 1 Try.underlying26 hi0 hz0 hs0 hb0 rfl (.slice (some ⟨w.heap.size, 0, none⟩) 0 (n + 4)) 0 [] rfl (hown0.out _) _ _ 1 1 (bvs [t]) rfl rfl (rd_lit _ 5 _ [t] rfl _ (by simp)) (bvs_one _) hm1.out (by omega) (by simp; omega) ?_
       intro v1 w1 hown1 hg1 hat1)
    | (at_builtin
       refine wpList_append_rd _ rfl (.tmp 28) (.tmp 34) 26 rfl w.heap.size 5 i0 _ 1 Try.underlying26 hi0 hz0 hs0 hb0 rfl v1 (0 + 1) ([] ++ bvs [t]) rfl (hown1.alloc _) _ _ 3 3 (bvs [130, UInt8.ofNat (n / 256), UInt8.ofNat n]) rfl rfl (rd_lit w1 5 _ [130, UInt8.ofNat (n / 256), UInt8.ofNat n] (by rw [hbn.out]) _ rfl) (bvs_one _) hm2.out (by omega) (by simp; have := hg1.size; simp at this; omega) ?_
       intro v2 w2 hown2 hg2 hat2))
  go_ret
  have b1 : Below w.heap.size w w1 := (((Below.refl w.heap.size w).alloc (Nat.le_refl _) _).alloc (by simp) _).grown hg1 (by simp; omega) (by intro k hk; simp [Value.ownBlock] at hk; omega)
  have b2 := (b1.alloc b1.size _).grown hg2 (by have := b1.size; simp; omega) (fun k hk => (hown1.lt k hk).1)
  exact ⟨v2, rfl, by rw [E.out]; simpa [bvs] using hown2, b2⟩
theorem head_any (t : UInt8) (n : Nat) (h : n ≤ 65535) (w : World) : Calls Try.prog 70 #[.int .u8 t.toNat, .int .i64 (n : Int)] w fun e w' =>
    ∃ v, e = .returned v ∧ w'.ownsRow w.heap.size 5 1 v (1 + (szL n).length) (bvs (t :: szL n)) ∧ Below w.heap.size w w' := by
  by_cases h1 : n < 128
  · exact head_small t n h1 w
  · by_cases h2 : n ≤ 255
    · exact head_mid t n h1 h2 w
    · exact head_big t n h1 h2 h w

end Go.Proofs.Yteeabfplnaknfaa.DerW
end

section
namespace Go.Proofs.Yteeabfplnaknfaa.DerW
open Go.RowKit Go.Proofs.Yteeabfplnaknfaa.Mem Go.Proofs.Yteeabfplnaknfaa.DerP

def Rds (w : World) (B : Nat) (A : Option Addr) (ls : List L) : Prop :=
  ls = [] ∨ ∃ b o, A = some ⟨b, o, none⟩ ∧ b < B ∧ ∀ i l, ls[i]? = some l → ∃ A' c', w.cell? ⟨b, o + i, none⟩ = some (.slice A' l.length c') ∧ Rd w B A' (bvs l)
theorem Rds.at_ {w : World} {B : Nat} {A : Option Addr} {ls : List L} (h : Rds w B A ls) {i : Nat} {l : L} (hi : ls[i]? = some l) :
    ∃ b o, A = some ⟨b, o, none⟩ ∧ b < B ∧ ∃ A' c', w.cell? ⟨b, o + i, none⟩ = some (.slice A' l.length c') ∧ Rd w B A' (bvs l) := by
  rcases h with h | ⟨b, o, h1, h2, h3⟩
  · subst h; simp at hi
  · exact ⟨b, o, h1, h2, h3 i l hi⟩
theorem Rds.below {w w' : World} {B : Nat} {A : Option Addr} {ls : List L} (h : Rds w B A ls) (hb : Below B w w') : Rds w' B A ls := by
  rcases h with h | ⟨b, o, h1, h2, h3⟩
  · exact .inl h
  · refine .inr ⟨b, o, h1, h2, fun i l hl => ?_⟩
    obtain ⟨A', c', g1, g2⟩ := h3 i l hl
    exact ⟨A', c', (hb.cell (p := ⟨b, o + i, none⟩) h2).trans g1, g2.below hb⟩

theorem flat_snoc (ls : List L) (k : Nat) (l : L) (h : ls[k]? = some l) : (ls.take (k + 1)).flatten = (ls.take k).flatten ++ l := by
  obtain ⟨hk, e⟩ := List.getElem?_eq_some_iff.1 h
  rw [List.take_succ_eq_append_getElem hk, e]; simp
theorem flat_le (ls : List L) (k : Nat) : (ls.take k).flatten.length ≤ ls.flatten.length := by
  conv => rhs; rw [← List.take_append_drop k ls, List.flatten_append, List.length_append]
  omega

def pre (ls : List L) (k : Nat) : Nat := (ls.take k).flatten.length
def built (t : UInt8) (ls : List L) (k : Nat) : L := t :: szL ls.flatten.length ++ (ls.take k).flatten
theorem pre_succ (ls : List L) (k : Nat) (l : L) (h : ls[k]? = some l) : pre ls (k + 1) = pre ls k + l.length := by
  rw [pre, flat_snoc ls k l h, List.length_append]; rfl
theorem pre_le (ls : List L) (k : Nat) : pre ls k ≤ ls.flatten.length := flat_le ls k
theorem pre_all (ls : List L) : pre ls ls.length = ls.flatten.length := by rw [pre, List.take_of_length_le (Nat.le_refl _)]
theorem built_succ (t : UInt8) (ls : List L) (k : Nat) (l : L) (h : ls[k]? = some l) : built t ls (k + 1) = built t ls k ++ l := by
  rw [built, flat_snoc ls k l h, built, List.append_assoc]
theorem built_all (t : UInt8) (ls : List L) : built t ls ls.length = elem t ls.flatten := by
  rw [built, List.take_of_length_le (Nat.le_refl _)]; rfl
theorem built_le (t : UInt8) (ls : List L) (k : Nat) (h : ls.flatten.length ≤ 65535) : (built t ls k).length ≤ 65539 := by
  have h1 := flat_le ls k
  have h2 := length_szL ls.flatten.length
  have h3 : (szL ls.flatten.length).length ≤ 3 := by rw [h2]; split <;> (try split) <;> omega
  rw [built, List.length_append, List.length_cons]; omega

set_option maxRecDepth 100000 in
set_option maxHeartbeats 1000000 in
theorem wrap_any (t : UInt8) (ls : List L) (A : Option Addr) (m c B : Nat) (w : World) (hr : Rds w B A ls) (hm : m = ls.length) (hB : B ≤ w.heap.size) (hl : ls.flatten.length ≤ 65535) (hc : ls.length ≤ 1000000) :
    Calls Try.prog 45 #[.int .u8 t.toNat, .slice A m c] w fun e w' =>
      ∃ v, e = .returned v ∧ w'.ownsRow w.heap.size 5 1 v (elem t ls.flatten).length (bvs (elem t ls.flatten)) ∧ Below w.heap.size w w' := by
  obtain ⟨i0, hi0, hz0, hs0, hb0⟩ := info_parts u8_info
  have hpa := pre_all ls
  have hh : ∀ W, Calls Try.prog 70 #[.int .u8 t.toNat, .int .i64 ((pre ls m : Nat) : Int)] W fun e w' =>
    ∃ v, e = .returned v ∧ w'.ownsRow W.heap.size 5 1 v (built t ls 0).length (bvs (built t ls 0)) ∧ Below W.heap.size W w' := by
    intro W
    have := head_any t _ hl W
    have e1 : built t ls 0 = t :: szL ls.flatten.length := by simp [built]
    rw [e1, hm, hpa, List.length_cons, Nat.add_comm]
    exact this
  have HH := Lib.hid hh; clear hh
  have hpl := Lib.hid (fun k => Nat.le_trans (pre_le ls k) hl)
  have hbl := Lib.hid (fun k => built_le t ls k hl)
  have hba := Lib.hid (built_all t ls)
  have hml := Lib.hid ml
  have HR := Lib.hid hr; clear hr
  have hc' : (m : Int) ≤ 1000000 := by omega
  have HM := Lib.hid hm
  clear hm hc hl hpa
  go_enter Try.func45, Try.ntmps45
  go_wp2
  go_loop [5, 13] (fun n i => ∃ k : Nat, k ≤ m ∧ i = .int .i64 (k : Int) ∧ n = .int .i64 ((pre ls k : Nat) : Int)) (fun _ i => m - (intOf i).toNat)
  case atStart => exact ⟨0, by omega, rfl, rfl⟩
  case round =>
    obtain ⟨k, hk, rfl, rfl⟩ := hrel
    by_cases hlt : k < m
    · obtain ⟨l, hx⟩ : ∃ l, ls[k]? = some l := ⟨_, List.getElem?_eq_getElem (by have := HM.out; omega)⟩
      obtain ⟨b, o, rfl, hb, A', c', hcell, hrd⟩ := HR.out.at_ hx
      have hf1 := hpl.out k
      have hf2 := hpl.out (k + 1)
      have hs := pre_succ ls k l hx
      have HS := Lib.hid hs
      have g1 : decide ((65535 : Int) < ((pre ls k : Nat) : Int) + (l.length : Int)) = false := by simp only [decide_eq_false_iff_not]; omega
      have hll : (l.length : Int) ≤ 65535 := by omega
      have hf1' : ((pre ls k : Nat) : Int) ≤ 65535 := by omega
      clear hs hf1 hf2 hx hrd
      go_wp2
      exact ⟨⟨k + 1, by omega, by go_num, by rw [HS.out]; go_num⟩, by simp [intOf]; omega⟩
    · obtain rfl : k = m := by omega
      clear hk hlt
      go_wp2_with (go_at_call 70; refine (HH.out _).mono ?_; rintro e w1 ⟨v, rfl, hown, hbel⟩)
      go_loopw [8, 29] (fun v i wr => ∃ j : Nat, j ≤ k ∧ i = .int .i64 (j : Int) ∧ wr.ownsRow w.heap.size 5 1 v (built t ls j).length (bvs (built t ls j)) ∧ Below w.heap.size w wr) (fun _ i _ => k - (intOf i).toNat)
      case atStart => exact ⟨0, by omega, rfl, hown, hbel⟩
      case round =>
        obtain ⟨j, hj, rfl, hown1, hbel1⟩ := hrel
        by_cases hlt : j < k
        · obtain ⟨l, hx⟩ : ∃ l, ls[j]? = some l := ⟨_, List.getElem?_eq_getElem (by have := HM.out; omega)⟩
          obtain ⟨b, o, rfl, hb, A', c', hcell, hrd⟩ := (HR.out.below (hbel1.mono hB)).at_ hx
          have hs := built_succ t ls j l hx
          have hf1 := hbl.out j
          have hf2 := hbl.out (j + 1)
          have hs1 := congrArg List.length hs
          rw [List.length_append] at hs1
          have HS := Lib.hid hs
          have hsum : (built t ls j).length + l.length ≤ 65539 := by omega
          have HO := Lib.hid hown1
          have HQ := Lib.hid hrd
          clear hs hs1 hx hf1 hf2 hown1 hrd hown
          go_wp2_with (at_builtin
                       refine wpList_append_rd _ rfl (.tmp 33) (.tmp 34) 26 rfl w.heap.size 5 i0 _ 1 Try.underlying26 hi0 hz0 hs0 hb0 rfl _ (built t ls j).length (bvs (built t ls j)) rfl HO.out B A' l.length c' (bvs l) rfl (bvs_length l).symm HQ.out (bvs_one _) (hml.out _ (by omega)) (by omega) hbel1.size ?_
                       intro v2 w2 hown2 hg2 hat2)
          refine ⟨⟨j + 1, by omega, by go_num, ?_, hbel1.grown hg2 hbel1.size (fun i hi => (HO.out.lt i hi).1)⟩, by simp [intOf]; omega⟩
          rw [HS.out, bvs_append, List.length_append]
          exact hown2
        · obtain rfl : j = k := by omega
          clear hj hlt
          go_wp2
          go_ret
          have e : built t ls j = elem t ls.flatten := by rw [HM.out]; exact hba.out
          rw [e] at hown1
          exact ⟨_, rfl, hown1, hbel1⟩

end Go.Proofs.Yteeabfplnaknfaa.DerW
end

section
namespace Go.Proofs.Yteeabfplnaknfaa.DerW
open Go.RowKit Go.Proofs.Yteeabfplnaknfaa.Mem Go.Proofs.Yteeabfplnaknfaa.DerP

theorem rds_one (w : World) (t : TypeId) (B : Nat) (A : Option Addr) (l : L) (n c : Nat) (hn : n = l.length) (h : Rd w B A (bvs l)) (hB : B ≤ w.heap.size) :
    Rds (w.alloc (.cells #[.slice A n c] t)) (w.heap.size + 1) (some ⟨w.heap.size, 0, none⟩) [l] := by
  subst hn
  refine .inr ⟨w.heap.size, 0, rfl, by omega, fun i l' hi => ?_⟩
  have hi0 : i = 0 := by
    rcases Nat.eq_zero_or_pos i with g | g
    · exact g
    · rw [List.getElem?_eq_none (by simp; omega)] at hi; cases hi
  subst hi0
  injection hi with hi
  subst hi
  exact ⟨A, c, (Blk.new w t _).cell 0, (h.alloc hB _).more (by omega)⟩

theorem octets_any (l : L) (A : Option Addr) (n c B : Nat) (w : World) (hr : Rd w B A (bvs l)) (hn : n = l.length) (hB : B ≤ w.heap.size) (hl : l.length ≤ 65535) :
    Calls Try.prog 47 #[.slice A n c] w fun e w' =>
      ∃ v, e = .returned v ∧ w'.ownsRow w.heap.size 5 1 v (elem 4 l).length (bvs (elem 4 l)) ∧ Below w.heap.size w w' := by
  have hrs := rds_one w 26 B A l n c hn hr hB
  have hw := wrap_any 4 [l] (some ⟨w.heap.size, 0, none⟩) 1 1 (w.heap.size + 1) (w.alloc (.cells #[.slice A n c] 26)) hrs rfl (by simp) (by simpa using hl) (by simp)
  have e : [l].flatten = l := by simp
  rw [e] at hw
  have HW := Lib.hid hw
  clear hw hrs hr hn hl e
  go_enter Try.func47, Try.ntmps47
  go_wp2_with (go_at_call 45; refine HW.out.mono ?_; rintro e w1 ⟨v, rfl, hown, hbel⟩)
  go_ret
  refine ⟨_, rfl, ?_, (Below.refl w.heap.size w).alloc (Nat.le_refl _) _ |>.trans (hbel.mono (by simp))⟩
  exact hown.mono (by simp)

theorem int_any (n : Int) (w : World) :
    Calls Try.prog 49 #[.int .i64 n] w fun e w' =>
      ∃ v, e = .returned v ∧ w'.ownsRow w.heap.size 5 1 v (encI n).length (bvs (encI n)) ∧ Below w.heap.size w w' := by
  have hd := digits_any (clampN n) (clampN_le n)
  rw [clampN_int] at hd
  have hw : ∀ (W : World) (g : Nat), Blk W g 5 (bvs (dig (clampN n))).toArray → Calls Try.prog 45 #[.int .u8 2, .slice (some ⟨W.heap.size, 0, none⟩) 1 1] (W.alloc (.cells #[.slice (some ⟨g, 0, none⟩) (dig (clampN n)).length (dig (clampN n)).length] 26)) fun e w' =>
      ∃ v, e = .returned v ∧ w'.ownsRow W.heap.size 5 1 v (encI n).length (bvs (encI n)) ∧ Below W.heap.size W w' := by
    intro W g hB
    have hr : Rd W W.heap.size (some ⟨g, 0, none⟩) (bvs (dig (clampN n))) := .inr ⟨g, 0, rfl, hB.lt, fun i u hu => by
      rw [Nat.zero_add, hB.cell i]; simpa using hu⟩
    have hrs := rds_one W 26 W.heap.size _ _ _ (dig (clampN n)).length rfl hr (Nat.le_refl _)
    have hd8 := encI_len n
    have h := wrap_any 2 [dig (clampN n)] (some ⟨W.heap.size, 0, none⟩) 1 1 (W.heap.size + 1) _ hrs rfl (by simp) (by simp; omega) (by simp)
    have e : [dig (clampN n)].flatten = dig (clampN n) := by simp
    rw [e] at h
    refine h.mono ?_
    rintro e w' ⟨v, rfl, hown, hbel⟩
    exact ⟨v, rfl, hown.mono (by simp), (Below.refl W.heap.size W).alloc (Nat.le_refl _) _ |>.trans (hbel.mono (by simp))⟩
  have HD := Lib.hid hd
  have HW := Lib.hid hw
  clear hd hw
  go_enter Try.func49, Try.ntmps49
  go_wp2_with (first
    | (go_at_call 71; refine (HD.out _).mono ?_; rintro e w1 ⟨g, rfl, hg, hB, hbel⟩)
    | (go_at_call 45; refine (HW.out _ _ hB).mono ?_; rintro e w2 ⟨v, rfl, hown, hbel2⟩))
  go_ret
  exact ⟨_, rfl, hown.mono hbel.size, hbel.trans (hbel2.mono hbel.size)⟩

theorem text_any (l : L) (w : World) (hl : l.length ≤ 65535) :
    Calls Try.prog 48 #[.string ⟨l.toArray⟩] w fun e w' =>
      ∃ v, e = .returned v ∧ w'.ownsRow w.heap.size 5 1 v (elem 27 l).length (bvs (elem 27 l)) ∧ Below w.heap.size w w' := by
  have hcv := fun (W : World) => Lib.run_convert_string_bytes (P := Try.prog) W 9 26 5 ⟨l.toArray⟩ Try.underlying9 Try.underlying26 Try.underlying5
  have hw : ∀ (W : World) (c : Nat), Calls Try.prog 45 #[.int .u8 27, .slice (some ⟨W.heap.size + 1, 0, none⟩) 1 1] ((Lib.bytesWorld W 5 ⟨l.toArray⟩).alloc (.cells #[.slice (some ⟨W.heap.size, 0, none⟩) l.length c] 26)) fun e w' =>
      ∃ v, e = .returned v ∧ w'.ownsRow W.heap.size 5 1 v (elem 27 l).length (bvs (elem 27 l)) ∧ Below W.heap.size W w' := by
    intro W c
    have hs := Lib.bytesWorld_size W 5 ⟨l.toArray⟩
    have hr := (bytes_fresh W 5 l).rd
    have hrs := rds_one _ 26 _ _ _ l.length c rfl hr (Nat.le_refl _)
    rw [hs] at hrs
    have h := wrap_any 27 [l] (some ⟨W.heap.size + 1, 0, none⟩) 1 1 (W.heap.size + 1 + 1) _ hrs rfl (by simp [hs]) (by simpa using hl) (by simp)
    have e : [l].flatten = l := by simp
    rw [e] at h
    refine h.mono ?_
    rintro e w' ⟨v, rfl, hown, hbel⟩
    refine ⟨v, rfl, hown.mono (by simp [hs]; omega), ?_⟩
    exact ((bytes_below W _ _).alloc (by rw [hs]; omega) _).trans (hbel.mono (by simp [hs]; omega))
  have HW := Lib.hid hw
  clear hw hl
  have hsz := fun (W : World) => Lib.bytesWorld_size W 5 ⟨l.toArray⟩
  go_enter Try.func48, Try.ntmps48
  go_wp2_with (go_at_call 45; refine (HW.out _ _).mono ?_; rintro e w2 ⟨v, rfl, hown, hbel2⟩)
  go_ret
  exact ⟨_, rfl, hown, hbel2⟩

end Go.Proofs.Yteeabfplnaknfaa.DerW
end

section
namespace Go.Proofs.Yteeabfplnaknfaa.DerK
open Go.RowKit Go.Proofs.Yteeabfplnaknfaa.Mem Go.Proofs.Yteeabfplnaknfaa.DerP
attribute [local go_sem] mk_at List.getElem_cons_zero List.getElem_cons_succ

theorem own_slice {w : World} {base n : Nat} {t : TypeId} {v : Value} {l : L} (h : w.ownsRow base t 1 v n (bvs l)) (hl : 0 < l.length) :
    ∃ g cap, v = .slice (some ⟨g, 0, none⟩) l.length cap ∧ base ≤ g ∧ l.length ≤ cap ∧ Rd w w.heap.size (some ⟨g, 0, none⟩) (bvs l) := by
  have hn : n = l.length := by have := h.1; rw [bvs_length] at this; omega
  subst hn
  rcases h.2 with ⟨_, h2⟩ | ⟨g, cap, cur, rfl, hg, _, hc, _⟩
  · omega
  · exact ⟨g, cap, rfl, hg, hc, Rd.of_own h⟩

end Go.Proofs.Yteeabfplnaknfaa.DerK
end

section
set_option linter.unusedVariables false
namespace Go.Proofs.Yteeabfplnaknfaa.DerR
open Go.RowKit Go.Proofs.Yteeabfplnaknfaa.Mem Go.Proofs.Yteeabfplnaknfaa.DerP

def Gives (w : World) (l : L) (e : Ending) (w' : World) : Prop :=
  (∃ g cap, e = .returned (.slice (some ⟨g, 0, none⟩) l.length cap) ∧ w.heap.size ≤ g ∧ l.length ≤ cap ∧ Rd w' w'.heap.size (some ⟨g, 0, none⟩) (bvs l)) ∧ Below w.heap.size w w'
theorem gives_own {w w' : World} {v : Value} {n : Nat} {t : TypeId} {l : L} (h : w'.ownsRow w.heap.size t 1 v n (bvs l)) (hl : 0 < l.length) (hb : Below w.heap.size w w') : Gives w l (.returned v) w' := by
  obtain ⟨g, cap, rfl, h1, h2, h3⟩ := DerK.own_slice h hl
  exact ⟨⟨g, cap, rfl, h1, h2, h3⟩, hb⟩

end Go.Proofs.Yteeabfplnaknfaa.DerR
end

section
set_option linter.unusedVariables false
namespace Go.Proofs.Yteeabfplnaknfaa.Reg
open Go.RowKit Go.Proofs.Yteeabfplnaknfaa.Mem

section
variable {P : Program} {ops : Array Oper} {Q : Exit → Act → World → Prop} {md : Region.Mode}

theorem held_mono {S1 S2 : World → Prop} (hS : ∀ w, S2 w → S1 w) : ∀ (f : Nat) (l : Array Bool) (a : Act) (w : World), wpAnyH P md ops Q S2 f l a w → wpAnyH P md ops Q S1 f l a w
  | 0, _, _, _, h => h
  | f + 1, _, _, _, h => ⟨h.1, fun i hi => wpOp_mono (fun a' w' hh => ⟨hS w' hh.1, held_mono hS f _ a' w' hh.2⟩) (h.2 i hi)⟩

def Since (W w : World) : Prop := Below W.heap.size W w
theorem held_on {W w : World} {f : Nat} {l : Array Bool} {a : Act} (hb : Below W.heap.size W w) (h : wpAnyH P md ops Q (Since w) f l a w) : wpAnyH P md ops Q (Since W) f l a w :=
  held_mono (fun _ h' => bt hb h') f l a w h
theorem region_begin (n : Nat) {id : Nat} {a : Act} {w : World} (hn : ops.size = n) (hm : P.follows .mixedOrders = true) (h : wpAnyH P .any ops Q (Since w.drew) n (Array.replicate n false) a w.drew) : (Code.region id ops true).wp P Q a w := by
  subst hn
  exact wp_region_held_drew hm (Below.refl _ _) (fun _ => h)
theorem take_op (i : Nat) {dst : Option Tmp} {op : Op} {ty : TypeId} {pos : String} {after : Array _} {guard : Option (Nat × Bool)} {v : Value} {fuel : Nat} {listed : Array Bool} {a : Act} {w : World} (hi : ops[i]? = some ⟨dst, op, ty, pos, after, guard⟩)
    (hs : Region.noSelect ops = true) (hf : Region.free md ops listed i = true) (hr : (Region.ready md ops listed).contains i = true)
    (hQ : ∀ c a w, Q (.panic c) (a.put dst v) w → Q (.panic c) a w)
    (hw : Region.wanted ⟨dst, op, ty, pos, after, guard⟩ (yielded ops a.tmps) = true) (hy : ∀ w', Since w w' → (execOp a.eval ⟨dst, op, ty, pos, after, guard⟩).run P w' = .ok (.value v) w')
    (h : wpAnyH P md ops Q (Since w) fuel (listed.setIfInBounds i true) (a.put dst v) w) : wpAnyH P md ops Q (Since w) (fuel + 1) listed a w :=
  wpAnyH_take hi hs hf hr hQ (.inl ⟨hw, hy⟩) (Below.refl _ _) h
theorem skip_op (i : Nat) {dst : Option Tmp} {op : Op} {ty : TypeId} {pos : String} {after : Array _} {guard : Option (Nat × Bool)} {fuel : Nat} {listed : Array Bool} {a : Act} {w : World} (hi : ops[i]? = some ⟨dst, op, ty, pos, after, guard⟩)
    (hs : Region.noSelect ops = true) (hf : Region.free md ops listed i = true) (hr : (Region.ready md ops listed).contains i = true)
    (hQ : ∀ c a w, Q (.panic c) (a.put dst undef) w → Q (.panic c) a w)
    (hw : Region.wanted ⟨dst, op, ty, pos, after, guard⟩ (yielded ops a.tmps) = false)
    (h : wpAnyH P md ops Q (Since w) fuel (listed.setIfInBounds i true) (a.put dst undef) w) : wpAnyH P md ops Q (Since w) (fuel + 1) listed a w :=
  wpAnyH_take hi hs hf hr hQ (.inr ⟨hw, rfl⟩) (Below.refl _ _) h
theorem call_op (i : Nat) {dst : Option Tmp} {op : Op} {ty : TypeId} {pos : String} {after : Array _} {guard : Option (Nat × Bool)} {fuel : Nat} {listed : Array Bool} {a : Act} {w : World} (hi : ops[i]? = some ⟨dst, op, ty, pos, after, guard⟩)
    (hr : Region.ready md ops listed = [i]) (hw : Region.wanted ⟨dst, op, ty, pos, after, guard⟩ (yielded ops a.tmps) = true) (f : FuncId) (args : Array Value)
    (hx : (execOp a.eval ⟨dst, op, ty, pos, after, guard⟩).run P w = .ok (.enter f args) w)
    (h : Calls P f args w fun e w' => ∃ v, e = .returned v ∧ Below w.heap.size w w' ∧ wpAnyH P md ops Q (Since w') fuel (listed.setIfInBounds i true) (a.put dst v) w') : wpAnyH P md ops Q (Since w) (fuel + 1) listed a w := by
  refine wpAnyH_all hr (by simp) fun j hj => ?_
  obtain rfl : j = i := by simpa using hj
  unfold wpOp
  simp only [hi]
  rw [if_pos hw]
  left
  unfold Oper.wp
  rw [hx]
  exact h.mono fun e w' hh => by
    obtain ⟨v, rfl, hb, hh⟩ := hh
    exact ⟨hb, held_on hb hh⟩
end

end Go.Proofs.Yteeabfplnaknfaa.Reg
end

section
set_option linter.unusedVariables false
namespace Go.Proofs.Yteeabfplnaknfaa.DerR
open Go.RowKit Go.Proofs.Yteeabfplnaknfaa.Mem Go.Proofs.Yteeabfplnaknfaa.DerP

theorem split_at {t : UInt8} {s : L} {m k : Nat} (h : lenR s = (m, k, true)) (hf : m + k ≤ s.length) : splitL t (t :: s) = some (((t :: s).drop (k + 1)).take m, (t :: s).drop (k + 1 + m)) := by
  rw [splitL, h, if_pos ⟨rfl, rfl, hf⟩]
  congr 2
  rw [List.drop_drop, show k + 1 + m = (k + m) + 1 by omega]
  rfl
end Go.Proofs.Yteeabfplnaknfaa.DerR
end

section
set_option linter.unusedVariables false
namespace Go.Proofs.Yteeabfplnaknfaa.Nm
open Go.RowKit Go.Proofs.Yteeabfplnaknfaa.Mem
attribute [local go_sem] mk_at List.getElem_cons_zero List.getElem_cons_succ ext_tail ext_drop ext_mid ext_take

theorem Drawn.trans {a b c : World} (h : Drawn a b) (k : Drawn b c) : Drawn a c := by
  obtain ⟨n, rfl⟩ := h
  obtain ⟨m, rfl⟩ := k
  exact ⟨n + m, by simp [World.drewN_drewN]⟩

set_option maxHeartbeats 800000 in
theorem arelabels_any (l : L) (b : UInt8) (w : World) (hs : l.length ≤ 1000000000) : Calls Try.prog 87 #[.string ⟨l.toArray⟩, .string ⟨#[b]⟩] w fun e w' => e = .returned (.bool (areL b 4 l)) ∧ Drawn w w' := by
  have HS := Lib.hid hs; clear hs
  go_enter Try.func87, Try.ntmps87
  go_wp2
  go_loopw [0, 8] (fun sv iv wr => ∃ (k : Nat) (s : L), k ≤ 4 ∧ sv = .string ⟨s.toArray⟩ ∧ iv = .int .i64 (k : Int) ∧ areL b (4 - k) s = areL b 4 l ∧ s.length ≤ l.length ∧ Drawn w wr) (fun _ iv _ => 4 - (intOf iv).toNat)
  case atStart => exact ⟨0, l, by omega, rfl, rfl, rfl, Nat.le_refl _, Drawn.refl _⟩
  case round =>
    obtain ⟨k, s, hk, rfl, rfl, ha, hl, hd⟩ := hrel
    have HL := Lib.hid hl; clear hl
    have HD := Lib.hid hd; clear hd
    by_cases hlt : k < 4
    · have e1 : (k : Int) < 4 := by omega
      have hsl : s.length ≤ 1000000000 := Nat.le_trans HL.out HS.out
      have c1 := cut_one s b wr hsl
      have c2 := fun w1 => isword_cap (bef b s) w1 (by have := bef_len b s; omega)
      have C2 := Lib.hid c2; clear c2
      have ea : areL b (4 - k) s = (wordL capB (bef b s) && (if hasC b s then areL b (4 - (k + 1)) (aft b s) else true)) := by
        rw [show 4 - k = (4 - (k + 1)) + 1 by omega]; rfl
      rw [ea] at ha
      have hal : (aft b s).length ≤ l.length := by have := aft_len b s; have := HL.out; omega
      have HAL := Lib.hid hal; clear hal ea hsl
      cases hw : wordL capB (bef b s) with
      | false =>
        rw [hw, Bool.false_and] at ha
        have HA := Lib.hid ha; clear ha
        have HW := Lib.hid hw; clear hw
        go_wp2_with (first
          | (go_at_call 92; refine Calls.mono c1 ?_; rintro e w1 ⟨rfl, hd⟩; clear c1; have c2 := C2.out w1; rw [HW.out] at c2; have H1 := Lib.hid hd; clear hd)
          | (go_at_call 68; refine Calls.mono c2 ?_; rintro e w2 ⟨rfl, rfl⟩; clear c2))
        go_ret
        exact ⟨by rw [← HA.out]; rfl, HD.out.trans H1.out⟩
      | true =>
        rw [hw, Bool.true_and] at ha
        have HW := Lib.hid hw; clear hw
        cases hc : hasC b s with
        | false =>
          rw [hc, if_neg (by simp)] at ha
          rw [hc] at c1
          have HA := Lib.hid ha; clear ha
          have HC := Lib.hid hc; clear hc
          go_wp2_with (first
            | (go_at_call 92; refine Calls.mono c1 ?_; rintro e w1 ⟨rfl, hd⟩; clear c1; have c2 := C2.out w1; rw [HW.out] at c2; have H1 := Lib.hid hd; clear hd)
            | (go_at_call 68; refine Calls.mono c2 ?_; rintro e w2 ⟨rfl, rfl⟩; clear c2))
          go_ret
          exact ⟨by rw [← HA.out]; rfl, HD.out.trans H1.out⟩
        | true =>
          rw [hc, if_pos rfl] at ha
          rw [hc] at c1
          have HA := Lib.hid ha; clear ha
          have HC := Lib.hid hc; clear hc
          go_wp2_with (first
            | (go_at_call 92; refine Calls.mono c1 ?_; rintro e w1 ⟨rfl, hd⟩; clear c1; have c2 := C2.out w1; rw [HW.out] at c2; have H1 := Lib.hid hd; clear hd)
            | (go_at_call 68; refine Calls.mono c2 ?_; rintro e w2 ⟨rfl, rfl⟩; clear c2))
          go_roundw
          case rel => exact ⟨k + 1, aft b s, by omega, rfl, by go_num, HA.out, HAL.out, HD.out.trans H1.out⟩
          case measure => simp [intOf]; omega
    · have e1 : ¬ (k : Int) < 4 := by omega
      obtain rfl : k = 4 := by omega
      have HA := Lib.hid (show areL b 4 l = false by rw [← ha]; rfl); clear ha
      go_wp2
      go_ret
      exact ⟨by rw [HA.out]; rfl, HD.out⟩

theorem sl_pre (l : L) : slL l = (preL [47] l && labsL (split 47 (cpL [47] l))) := by
  cases l with
  | nil => rfl
  | cons x r =>
    rw [slL, cpL]
    by_cases h : x = 47
    · subst h
      have e : preL [47] (47 :: r) = true := by simp [preL]
      rw [e]; simp
    · have e : preL [47] (x :: r) = false := by
        cases q : preL [47] (x :: r) with
        | false => rfl
        | true => have := congrArg List.head? (pre_iff.1 q); simp at this; exact absurd this h
      rw [e]; simp [h]
theorem cp_len (p l : L) : (cpL p l).length ≤ l.length := by rw [cpL]; split <;> simp

set_option maxHeartbeats 800000 in
theorem kind_any (l : L) (w : World) (hs : l.length ≤ 1000000000) : Calls Try.prog 80 #[.string ⟨l.toArray⟩] w fun e w' => e = .returned (.int .i64 (kindL l : Int)) ∧ Drawn w w' := by
  have c1 := arelabels_any l 46 w hs
  rw [areL_labs] at c1
  have C2 := Lib.hid (fun w1 => cutprefix_any l [47] w1 hs (by decide))
  have c3 := fun w1 => arelabels_any (cpL [47] l) 47 w1 (by have := cp_len [47] l; omega)
  rw [areL_labs] at c3
  have C3 := Lib.hid c3; clear c3 hs
  have ek := kind_order l
  rw [sl_pre] at ek
  cases h1 : labsL (split 46 l) with
  | true =>
    rw [h1] at c1
    have E := Lib.hid (show kindL l = 1 by rw [ek, h1]; rfl); clear ek h1
    go_enter Try.func80, Try.ntmps80
    go_wp2_with (go_at_call 87; refine Calls.mono c1 ?_; rintro e w1 ⟨rfl, hd⟩; clear c1; have H1 := Lib.hid hd; clear hd)
    go_ret
    exact ⟨by rw [E.out]; rfl, H1.out⟩
  | false =>
    rw [h1] at c1
    rw [h1, if_neg (by simp)] at ek
    cases h2 : preL [47] l with
    | false =>
      have E := Lib.hid (show kindL l = 0 by rw [ek, h2]; rfl)
      have H2 := Lib.hid h2
      clear ek h1 h2
      go_enter Try.func80, Try.ntmps80
      go_wp2_with (first
        | (go_at_call 87; refine Calls.mono c1 ?_; rintro e w1 ⟨rfl, hd⟩; clear c1; have H1 := Lib.hid hd; clear hd; have c2 := C2.out w1; rw [H2.out] at c2)
        | (go_at_call 81; refine Calls.mono c2 ?_; rintro e w2 ⟨rfl, rfl⟩; clear c2))
      go_ret
      exact ⟨by rw [E.out]; rfl, H1.out⟩
    | true =>
      rw [h2, Bool.true_and] at ek
      have H2 := Lib.hid h2
      cases h3 : labsL (split 47 (cpL [47] l)) with
      | false =>
        have E := Lib.hid (show kindL l = 0 by rw [ek, h3]; rfl)
        have H3 := Lib.hid h3
        clear ek h1 h2 h3
        go_enter Try.func80, Try.ntmps80
        go_wp2_with (first
          | (go_at_call 87; refine Calls.mono c1 ?_; rintro e w1 ⟨rfl, hd⟩; clear c1; have H1 := Lib.hid hd; clear hd; have c2 := C2.out w1; rw [H2.out] at c2)
          | (go_at_call 81; refine Calls.mono c2 ?_; rintro e w2 ⟨rfl, rfl⟩; clear c2; have c4 := C3.out w1; rw [H3.out] at c4)
          | (go_at_call 87; refine Calls.mono c4 ?_; rintro e w3 ⟨rfl, hd⟩; clear c4; have H4 := Lib.hid hd; clear hd))
        go_ret
        exact ⟨by rw [E.out]; rfl, H1.out.trans H4.out⟩
      | true =>
        have E := Lib.hid (show kindL l = 2 by rw [ek, h3]; rfl)
        have H3 := Lib.hid h3
        clear ek h1 h2 h3
        go_enter Try.func80, Try.ntmps80
        go_wp2_with (first
          | (go_at_call 87; refine Calls.mono c1 ?_; rintro e w1 ⟨rfl, hd⟩; clear c1; have H1 := Lib.hid hd; clear hd; have c2 := C2.out w1; rw [H2.out] at c2)
          | (go_at_call 81; refine Calls.mono c2 ?_; rintro e w2 ⟨rfl, rfl⟩; clear c2; have c4 := C3.out w1; rw [H3.out] at c4)
          | (go_at_call 87; refine Calls.mono c4 ?_; rintro e w3 ⟨rfl, hd⟩; clear c4; have H4 := Lib.hid hd; clear hd))
        go_ret
        exact ⟨by rw [E.out]; rfl, H1.out.trans H4.out⟩

theorem is_any (l : L) (w : World) (hs : l.length ≤ 1000000000) : Calls Try.prog 66 #[.string ⟨l.toArray⟩] w fun e w' => e = .returned (.bool (isL l)) ∧ Drawn w w' := by
  have c1 := kind_any l w hs
  by_cases h : 1 ≤ kindL l
  · have E := Lib.hid (show isL l = true by simp [isL, h])
    have t : ((kindL l : Int) != 0) = true := by simp; omega
    clear h
    go_enter Try.func66, Try.ntmps66
    go_wp2_with (go_at_call 80; refine Calls.mono c1 ?_; rintro e w1 ⟨rfl, hd⟩; clear c1; have H1 := Lib.hid hd; clear hd)
    go_ret
    exact ⟨by rw [E.out]; rfl, H1.out⟩
  · have E := Lib.hid (show isL l = false by simp [isL]; omega)
    have e0 : kindL l = 0 := by omega
    rw [e0] at c1
    clear h e0
    go_enter Try.func66, Try.ntmps66
    go_wp2_with (go_at_call 80; refine Calls.mono c1 ?_; rintro e w1 ⟨rfl, hd⟩; clear c1; have H1 := Lib.hid hd; clear hd)
    go_ret
    exact ⟨by rw [E.out]; rfl, H1.out⟩
end Go.Proofs.Yteeabfplnaknfaa.Nm
end

section
set_option linter.unusedVariables false
namespace Go.Proofs.Yteeabfplnaknfaa.Nm
open Go.RowKit Go.Proofs.Yteeabfplnaknfaa.Mem

def st (l : L) : Value := .string ⟨l.toArray⟩
def strs (ls : List L) : List Value := ls.map st
theorem strs_length (ls : List L) : (strs ls).length = ls.length := by simp [strs]
theorem strs_append (ls ms : List L) : strs (ls ++ ms) = strs ls ++ strs ms := by simp [strs]
theorem strs_one (ls : List L) : ∀ u ∈ strs ls, u.oneCell' = true := by
  intro u hu
  obtain ⟨b, _, rfl⟩ := List.mem_map.1 hu
  rfl
theorem strs_at {ls : List L} {i : Nat} (h : i < ls.length) : (strs ls)[i]? = some (st (pl ls i)) := by
  rw [strs, List.getElem?_map, List.getElem?_eq_getElem h, pl_lt h]; rfl
theorem str_info : (Try.prog.info? 9).map (fun i => (i.zero, i.size, i.bytes)) = some (some (.string ⟨#[]⟩), 1, 16) := by kernel_rfl

def Own (w : World) (base : Nat) (v : Value) (ls : List L) : Prop := w.ownsRow base 9 1 v ls.length (strs ls)
theorem Own.nil (w : World) (base : Nat) : Own w base (.slice none 0 0) [] := World.ownsRow_nil w base _ 1
theorem Own.below {w w' : World} {base : Nat} {v : Value} {ls : List L} (h : Own w base v ls) (hb : Below w.heap.size w w') : Own w' base v ls := own_kept h hb
theorem Own.slice {w : World} {base : Nat} {v : Value} {ls : List L} (h : Own w base v ls) : ∃ A c, v = .slice A ls.length c ∧ Rd w w.heap.size A (strs ls) := by
  have h' := h
  rcases h.2 with ⟨h1, h2⟩ | ⟨g, cap, cur, h1, _⟩
  · have e : ls = [] := List.eq_nil_of_length_eq_zero h2
    subst e
    exact ⟨none, 0, h1, .inl rfl⟩
  · subst h1
    exact ⟨_, cap, rfl, Rd.of_own (n := ls.length) (cap := cap) h'⟩
theorem Own.lt {w : World} {base : Nat} {v : Value} {ls : List L} (h : Own w base v ls) : ∀ k, v.ownBlock = some k → base ≤ k ∧ k < w.heap.size := World.ownsRow.lt h
theorem rd_txt {w : World} {B : Nat} {A : Option Addr} {ls : List L} (h : Rd w B A (strs ls)) {i : Nat} (hi : i < ls.length) : ∃ b o, A = some ⟨b, o, none⟩ ∧ b < B ∧ w.cell? ⟨b, o + i, none⟩ = some (.string ⟨(pl ls i).toArray⟩) :=
  h.at_ (strs_at hi)

section
variable {w : World} {ops : Array Oper} {rest : List Oper} {o : Oper} {a : Act} {Q : Exit → Act → World → Prop}
theorem app_rd (hgd : o.guard = none) (s x : Operand) (ho : o.op = .call { callee := .builtin .append, args := #[s, x], argTypes := #[112, 112] })
    (base : Nat) (v : Value) (ls : List L) (hs : a.eval s = v) (hown : Own w base v ls) (B : Nat) (A : Option Addr) (c : Nat) (ms : List L) (hx : a.eval x = .slice A ms.length c) (hr : Rd w B A (strs ms))
    (hl : ls.length + ms.length ≤ 8000000000000) (hb : base ≤ w.heap.size)
    (h : ∀ v' w', Own w' base v' (ls ++ ms) → Below base w w' → wpList Try.prog ops Q rest (a.put o.dst v') w') : wpList Try.prog ops Q (o :: rest) a w := by
  obtain ⟨i0, hi0, hz0, hs0, hb0⟩ := info_parts str_info
  refine wpList_append_rd w hgd s x 112 ho base 9 i0 _ 16 Try.underlying112 hi0 hz0 hs0 hb0 rfl v ls.length (strs ls) hs hown B A ms.length c (strs ms) hx (strs_length _).symm hr (strs_one _) (by unfold maxLen; omega) (by omega) hb ?_
  intro v' w' h1 h2 _
  refine h v' w' (by rw [Own, List.length_append, strs_append]; exact h1) ?_
  exact (Below.refl _ _).grown h2 hb (fun k hk => (hown.lt k hk).1)
theorem app_one (hgd : o.guard = none) (s x : Operand) (ho : o.op = .call { callee := .builtin .append, args := #[s, x], argTypes := #[112, 112] })
    (base : Nat) (v : Value) (ls : List L) (hs : a.eval s = v) (hown : Own w base v ls) (r : L) (hx : a.eval x = .slice (some ⟨w.heap.size, 0, none⟩) 1 1)
    (hl : ls.length + 1 ≤ 8000000000000) (hb : base ≤ w.heap.size)
    (h : ∀ v' w', Own w' base v' (ls ++ [r]) → Below base w w' → wpList Try.prog ops Q rest (a.put o.dst v') w') : wpList Try.prog ops Q (o :: rest) a (w.alloc (.cells #[.string ⟨r.toArray⟩] 9)) := by
  refine app_rd hgd s x ho base v ls hs (hown.below ((Below.refl _ _).alloc (Nat.le_refl _) _)) (w.heap.size + 1) _ 1 [r] hx ?_ hl (by simp; omega) ?_
  · refine .inr ⟨w.heap.size, 0, rfl, by omega, fun i u hu => ?_⟩
    cases i with
    | zero =>
      simp only [strs, List.map_cons, List.map_nil, List.getElem?_cons_zero, Option.some.injEq] at hu
      subst hu
      exact (Blk.new w 9 _).cell 0
    | succ i => simp [strs] at hu
  · intro v' w' h1 h2
    exact h v' w' h1 (((Below.refl _ _).alloc hb _).trans h2)
end

theorem Own.drew {w : World} {base : Nat} {v : Value} {ls : List L} (h : Own w base v ls) : Own w.drew base v ls := h
end Go.Proofs.Yteeabfplnaknfaa.Nm
end

section
set_option linter.unusedVariables false
namespace Go.Proofs.Yteeabfplnaknfaa.Nm
open Go.RowKit Go.Proofs.Yteeabfplnaknfaa.Mem
attribute [local go_sem] mk_at List.getElem_cons_zero List.getElem_cons_succ ext_tail ext_drop ext_mid ext_take

def krb : L := [107, 114, 98, 116, 103, 116, 47]
def tgL (n : L) : Bool := preL krb n && isL (cpL krb n)
def tgR (n : L) : L := if tgL n then n.drop 7 else []
def princL (r n : L) : Bool := isL r && (tgL n || wordL wordB n)
set_option maxHeartbeats 800000 in
theorem target_any (n : L) (w : World) (hs : n.length ≤ 1000000000) : Calls Try.prog 67 #[.string ⟨n.toArray⟩] w fun e w' => e = .returned (.tuple #[.string ⟨(tgR n).toArray⟩, .bool (tgL n)]) ∧ Below w.heap.size w w' := by
  have c1 := cutprefix_any n krb w hs (by decide)
  have hcl := cp_len krb n
  have c2 := is_any (cpL krb n) w (by omega)
  have C3 := Lib.hid (fun w1 => clone_any (cpL krb n) w1 (by omega))
  have HB0 := Lib.hid (Below.refl w.heap.size w)
  cases h1 : preL krb n with
  | false =>
    have E1 := Lib.hid (show tgL n = false by rw [tgL, h1]; rfl)
    have E2 := Lib.hid (show tgR n = [] by rw [tgR, E1.out]; rfl)
    rw [h1] at c1
    clear h1 hs hcl c2
    go_enter Try.func67, Try.ntmps67
    go_wp2_with (go_at_call 81; refine Calls.mono c1 ?_; rintro e w1 ⟨rfl, rfl⟩; clear c1)
    go_ret2
    exact ⟨by rw [E1.out, E2.out]; rfl, HB0.out⟩
  | true =>
    cases h2 : isL (cpL krb n) with
    | false =>
      have E1 := Lib.hid (show tgL n = false by rw [tgL, h1, h2]; rfl)
      have E2 := Lib.hid (show tgR n = [] by rw [tgR, E1.out]; rfl)
      rw [h1] at c1
      rw [h2] at c2
      clear h1 h2 hs hcl
      go_enter Try.func67, Try.ntmps67
      go_wp2_with (first
        | (go_at_call 81; refine Calls.mono c1 ?_; rintro e w1 ⟨rfl, rfl⟩; clear c1)
        | (go_at_call 66; refine Calls.mono c2 ?_; rintro e w2 ⟨rfl, hd⟩; clear c2; have H2 := Lib.hid hd.below; clear hd))
      go_ret2
      exact ⟨by rw [E1.out, E2.out]; rfl, H2.out⟩
    | true =>
      have E1 := Lib.hid (show tgL n = true by rw [tgL, h1, h2]; rfl)
      have E2 := Lib.hid (show tgR n = cpL krb n by rw [tgR, E1.out, cpL, h1]; rfl)
      rw [h1] at c1
      rw [h2] at c2
      clear h1 h2 hs hcl
      go_enter Try.func67, Try.ntmps67
      go_wp2_with (first
        | (go_at_call 81; refine Calls.mono c1 ?_; rintro e w1 ⟨rfl, rfl⟩; clear c1)
        | (go_at_call 66; refine Calls.mono c2 ?_; rintro e w2 ⟨rfl, hd⟩; clear c2; have H2 := Lib.hid hd.below; clear hd; have c3 := C3.out w2)
        | (go_at_call 74; refine Calls.mono c3 ?_; rintro e w3 ⟨rfl, hb⟩; clear c3; have H3 := Lib.hid (H2.out.trans (hb.mono H2.out.size)); clear hb))
      go_ret2
      exact ⟨by rw [E1.out, E2.out]; rfl, H3.out⟩

set_option maxHeartbeats 800000 in
theorem isprinc_any (r n : L) (w : World) (hs : r.length ≤ 1000000000) (hs2 : n.length ≤ 1000000000) : Calls Try.prog 42 #[.agg #[.string ⟨r.toArray⟩, .string ⟨n.toArray⟩]] w fun e w' => e = .returned (.bool (princL r n)) ∧ Below w.heap.size w w' := by
  have c1 := is_any r (w.alloc (.cells #[.string ⟨r.toArray⟩, .string ⟨n.toArray⟩] 23)) hs
  have hk := Blk.new w 23 #[.string ⟨r.toArray⟩, .string ⟨n.toArray⟩]
  have hb0 := (Below.refl w.heap.size w).alloc (Nat.le_refl _) (.cells #[.string ⟨r.toArray⟩, .string ⟨n.toArray⟩] 23)
  have hsz : w.heap.size < (w.alloc (.cells #[.string ⟨r.toArray⟩, .string ⟨n.toArray⟩] 23)).heap.size := by simp
  obtain ⟨N, eN⟩ : ∃ N, N = w.heap.size := ⟨_, rfl⟩
  have C2 := Lib.hid (fun w1 => target_any n w1 hs2)
  have C3 := Lib.hid (fun w1 => isword_sd n w1 hs2)
  have E1 := Lib.hid (show princL r n = (isL r && (tgL n || wordL wordB n)) from rfl)
  rw [← eN] at hk hb0 hsz ⊢
  have EN := Lib.hid eN; clear eN
  have HK := Lib.hid hk; clear hk
  have HB0 := Lib.hid hb0; clear hb0
  have HSZ := Lib.hid hsz; clear hsz hs hs2
  cases h1 : isL r with
  | false =>
    rw [h1] at c1
    have E := Lib.hid (show princL r n = false by rw [E1.out, h1]; rfl)
    clear h1
    go_enter Try.func42, Try.ntmps42
    go_wp2_with (go_at_call 66; refine Calls.mono c1 ?_; rintro e w1 ⟨rfl, hd⟩; clear c1; have H1 := Lib.hid (HB0.out.trans (hd.below.mono (Nat.le_of_lt HSZ.out))); clear hd)
    go_ret
    exact ⟨by rw [E.out]; rfl, H1.out⟩
  | true =>
    rw [h1] at c1
    have C2' := Lib.hid (fun w1 => C2.out w1)
    cases h2 : tgL n with
    | true =>
      have E := Lib.hid (show princL r n = true by rw [E1.out, h1, h2]; rfl)
      have HT := Lib.hid h2
      clear h1 h2
      go_enter Try.func42, Try.ntmps42
      go_wp2_with (first
        | (go_at_call 66; refine Calls.mono c1 ?_; rintro e w1 ⟨rfl, hd⟩; clear c1; have H1 := Lib.hid (HB0.out.trans (hd.below.mono (Nat.le_of_lt HSZ.out))); have hk1 := (HK.out.below hd.below).cell 1; have hs1 : N < w1.heap.size := (by have := hd.below.size; have := HSZ.out; omega); have HS1 := Lib.hid hs1; rw [EN.out] at hk1; clear hd hs1; have c2 := C2.out w1; rw [HT.out] at c2)
        | (go_at_call 67; refine Calls.mono c2 ?_; rintro e w2 ⟨rfl, hb⟩; clear c2; have H2 := Lib.hid (H1.out.trans (hb.mono (Nat.le_of_lt HS1.out))); clear hb))
      go_ret
      exact ⟨by rw [E.out]; rfl, H2.out⟩
    | false =>
      have E := Lib.hid (show princL r n = wordL wordB n by rw [E1.out, h1, h2]; rfl)
      have HT := Lib.hid h2
      clear h1 h2
      go_enter Try.func42, Try.ntmps42
      go_wp2_with (first
        | (go_at_call 66; refine Calls.mono c1 ?_; rintro e w1 ⟨rfl, hd⟩; clear c1; have H1 := Lib.hid (HB0.out.trans (hd.below.mono (Nat.le_of_lt HSZ.out))); have hkk := HK.out.below hd.below; have HKK := Lib.hid hkk; have hk1 := hkk.cell 1; have hs1 : N < w1.heap.size := (by have := hd.below.size; have := HSZ.out; omega); have HS1 := Lib.hid hs1; rw [EN.out] at hk1; clear hd hs1 hkk; have c2 := C2.out w1; rw [HT.out] at c2)
        | (go_at_call 67; refine Calls.mono c2 ?_; rintro e w2 ⟨rfl, hb⟩; clear c2 hk1; have H2 := Lib.hid (H1.out.trans (hb.mono (Nat.le_of_lt HS1.out))); have hk2 := (HKK.out.below hb).cell 1; rw [EN.out] at hk2; clear hb; have c3 := C3.out w2)
        | (go_at_call 68; refine Calls.mono c3 ?_; rintro e w3 ⟨rfl, rfl⟩; clear c3))
      go_ret
      exact ⟨by rw [E.out]; rfl, H2.out⟩
end Go.Proofs.Yteeabfplnaknfaa.Nm
end

section
set_option linter.unusedVariables false
namespace Go.Proofs.Yteeabfplnaknfaa.Nm
open Go.RowKit Go.Proofs.Yteeabfplnaknfaa.Mem
theorem ext_rng (l : List UInt8) (f k : Nat) : (ByteArray.mk l.toArray).extract f k = ByteArray.mk ((l.drop f).take (k - f)).toArray := by
  rw [ByteArray.extract_mk]
attribute [local go_sem] mk_at List.getElem_cons_zero List.getElem_cons_succ ext_rng

def piece (l : L) (f k : Nat) : L := (l.drop f).take (k - f)
theorem piece_cut {l : L} {f k : Nat} (hf : f ≤ k) (hk : k < l.length) : l.drop f = piece l f k ++ l[k] :: l.drop (k + 1) := by
  have h1 : l.drop f = (l.drop f).take (k - f) ++ (l.drop f).drop (k - f) := (List.take_append_drop _ _).symm
  rw [List.drop_drop, show f + (k - f) = k by omega, List.drop_eq_getElem_cons hk] at h1
  exact h1
theorem piece_succ {l : L} {f k : Nat} (hf : f ≤ k) (hk : k < l.length) : piece l f (k + 1) = piece l f k ++ [l[k]] := by
  have h := piece_cut hf hk
  have hl : (piece l f k).length = k - f := by rw [piece, List.length_take, List.length_drop]; omega
  rw [piece, h, show k + 1 - f = (piece l f k).length + 1 by omega, List.take_append, List.take_of_length_le (by omega), Nat.add_sub_cancel_left]
  rfl
theorem piece_all {l : L} {f : Nat} : piece l f l.length = l.drop f := by rw [piece, List.take_of_length_le (by simp)]
theorem split_le (c : UInt8) (l : L) : (split c l).length ≤ l.length + 1 := by
  induction l with
  | nil => simp [split]
  | cons x r ih =>
    rw [split]; split
    · simp; omega
    · split <;> simp_all <;> omega

set_option maxHeartbeats 1600000 in
set_option maxRecDepth 100000 in
theorem split_any (l : L) (c : UInt8) (w : World) (hs : l.length ≤ 1000000000) : Calls Try.prog 78 #[.string ⟨l.toArray⟩, .int .u8 (c.toNat : Int)] w fun e w' => ∃ v, e = .returned v ∧ Own w' w.heap.size v (split c l) ∧ Below w.heap.size w w' := by
  obtain ⟨N, eN⟩ : ∃ N, N = w.heap.size := ⟨_, rfl⟩
  rw [← eN]
  have HB0 := Lib.hid (show Below N w w by exact Below.refl _ _)
  have EN := Lib.hid eN; clear eN
  have HNE0 := Lib.hid (show ∀ w1 : World, Below N w w1 → N ≤ w1.heap.size from fun w1 h => by have := h.size; have := EN.out; omega)
  go_enter Try.func78, Try.ntmps78
  go_wp2
  go_loopw [5, 6, 7] (fun vv fv iv wr => ∃ (f k : Nat) (ls : List L), f ≤ k ∧ k ≤ l.length ∧ fv = .int .i64 (f : Int) ∧ iv = .int .i64 (k : Int) ∧ Own wr N vv ls ∧ c ∉ piece l f k ∧ ls ++ split c (l.drop f) = split c l ∧ ls.length ≤ f ∧ Below N w wr) (fun _ _ iv _ => l.length - (intOf iv).toNat)
  case atStart => exact ⟨0, 0, [], Nat.le_refl _, Nat.zero_le _, rfl, rfl, Own.nil _ _, by simp [piece], by simp, by simp, HB0.out⟩
  case round =>
    obtain ⟨f, k, ls, hf, hk, rfl, rfl, ho, hc, hsp, hll, hb⟩ := hrel
    have HO := Lib.hid ho; clear ho
    have HB := Lib.hid hb; clear hb
    have HC := Lib.hid hc; clear hc
    have HSP := Lib.hid hsp; clear hsp
    by_cases hlt : k < l.length
    · have e1 : (k : Int) < (l.length : Int) := by omega
      have hpc := piece_cut hf hlt
      have hps := piece_succ hf hlt
      by_cases hx : l[k] = c
      · have t1 : ((l[k].toNat : Int) == (c.toNat : Int)) = true := by simp [hx]
        have hn : (ls ++ [piece l f k]) ++ split c (l.drop (k + 1)) = split c l := by
          rw [← HSP.out, hpc, hx, split_head HC.out]; simp
        have HN := Lib.hid hn; clear hn hpc hps hx
        have e2 : (f : Int) ≤ (k : Int) := by omega
        go_wp2_with (at_builtin; refine app_one rfl (.tmp 19) (.tmp 24) rfl N _ ls rfl HO.out (piece l f k) rfl (by omega) (HNE0.out _ HB.out) ?_; intro v' w3 ho3 hb3; have H3 := Lib.hid (HB.out.trans hb3); have HO3 := Lib.hid ho3; clear ho3 hb3)
        go_roundw
        case rel => exact ⟨k + 1, k + 1, _, Nat.le_refl _, by omega, by go_num, by go_num, HO3.out, by simp [piece], HN.out, by simp; omega, H3.out⟩
        case measure => simp [intOf]; omega
      · have t1 : ((l[k].toNat : Int) == (c.toNat : Int)) = false := by
          simp only [beq_eq_false_iff_ne, ne_eq]
          intro q
          exact hx (UInt8.toNat_inj.1 (by omega))
        have HC1 := Lib.hid (show c ∉ piece l f (k + 1) by
          rw [hps, List.mem_append, not_or]
          exact ⟨HC.out, by simpa using fun q : c = l[k] => hx q.symm⟩)
        clear hpc hps hx
        go_wp2
        go_roundw
        case rel => exact ⟨f, k + 1, ls, by omega, by omega, rfl, by go_num, HO.out, HC1.out, HSP.out, hll, HB.out⟩
        case measure => simp [intOf]; omega
    · obtain rfl : k = l.length := by omega
      have e1 : ¬ (l.length : Int) < (l.length : Int) := by omega
      have e2 : (f : Int) ≤ (l.length : Int) := by omega
      have hc := HC.out
      rw [piece_all] at hc
      have hn : ls ++ [piece l f l.length] = split c l := by rw [← HSP.out, split_none hc, piece_all]
      have HN := Lib.hid hn; clear hn hc
      go_wp2_with (at_builtin; refine app_one rfl (.tmp 28) (.tmp 32) rfl N _ ls rfl HO.out (piece l f l.length) rfl (by omega) (HNE0.out _ HB.out) ?_; intro v' w3 ho3 hb3; have H3 := Lib.hid (HB.out.trans hb3); have HO3 := Lib.hid ho3; clear ho3 hb3)
      go_ret
      exact ⟨_, rfl, by rw [← HN.out]; exact HO3.out, H3.out⟩
end Go.Proofs.Yteeabfplnaknfaa.Nm
end
