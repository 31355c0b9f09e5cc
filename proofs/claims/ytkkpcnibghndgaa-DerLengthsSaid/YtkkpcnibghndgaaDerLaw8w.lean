/-
  The walk of the law on lengths, case by case.
-/
import Derived.Test.YtkkpcnibghndgaaDerLaw8
set_option linter.unusedVariables false
namespace Go.Proofs.Ytkkpcnibghndgaa.DerL
open Go.RowKit Go.Proofs.Ytkkpcnibghndgaa.Mem Go.Proofs.Ytkkpcnibghndgaa.DerP

set_option maxRecDepth 100000 in
set_option maxHeartbeats 2000000 in
theorem lengths_small (n : Nat) (cut : Int) (w : World) (h : n ≤ 3000) (h1 : n ≤ 127) :
    Calls Try.prog 7 #[.int .i64 (n : Int), .int .i64 cut] w fun e w' => e = .returned (.bool true) ∧ Below w.heap.size w w' := by
  have g1 : decide ((n : Int) < 0) = false := by simp
  have g2 : decide ((3000 : Int) < (n : Int)) = false := by simp; omega
  have g3 : decide ((127 : Int) < (n : Int)) = false := by simp; omega
  have g4 : decide ((255 : Int) < (n : Int)) = false := by simp; omega
  have hH : (elem 4 (zl n)).length = n + 2 := by rw [head_of]; rw [if_pos (by omega)]
  have HLay := Lib.hid (lay_zl n 2 h hH)
  obtain ⟨i0, hi0, hz0, hs0, hb0⟩ := info_parts DerW.u8_info
  have hmk := fun W => run_make_bytes (P := Try.prog) (t := 22) (e := 5) Try.underlying22 hi0 hz0 hs0 hb0 (n : Int) n rfl (by omega) W
  obtain ⟨a, ha⟩ : ∃ a : Nat, cut % 65536 = (a : Int) := ⟨(cut % 65536).toNat, by omega⟩
  have hand : bits .and .i64 cut 65535 = (a : Int) := (and_mask cut).trans ha
  obtain ⟨k, hk, hkl⟩ : ∃ k : Nat, ((a : Int).tmod ((n : Int) + 2)) = (k : Int) ∧ k < n + 2 := ⟨a % (n + 2), by rw [show ((n : Int) + 2) = ((n + 2 : Nat) : Int) by omega, ← Int.ofNat_tmod], Nat.mod_lt _ (by omega)⟩
  have HCut := Lib.hid (cut_bad n k h (by rw [hH]; exact hkl))
  have HLen := Lib.hid hH
  have HApp := Lib.hid (app_long n h)
  have HN := Lib.hid h
  have HK := Lib.hid hkl
  have hnu : (n : Int) ≤ 3000 := by omega
  have hkk : (k : Int) < (n : Int) + 2 := by omega
  have HLB := Lib.hid (long_bad n (by omega))
  clear ha hH h hkl
  clear h1
  go_enter Try.func7, Try.ntmps7
  go_wp2_with (first
    | (go_at_call 16; refine (HLay.out w).mono ?_; rintro e w1 ⟨⟨q1, d1, rfl, hd1, hrd1⟩, hb1⟩)
    | (go_at_call 23; refine (DerC.open_any _ _ _ _ _ _ hrd1 HLen.out.symm).mono ?_; rintro e w2 ⟨g1, rfl, hg1, hc2, hb2⟩
       have hrd2 := rd_take' (hrd1.below hb2) k
       have hct := run_cut_to q1 (n + 2) d1 k (k : Int) rfl (by have := HK.out; omega)
       have bb2 := bt hb1 hb2
       clear hrd1)
    | (go_at_call 23; refine (DerC.open_any _ _ _ _ _ _ hrd2 (by rw [List.length_take, HLen.out]; have := HK.out; omega)).mono ?_; rintro e w3 ⟨g2, rfl, hg2, hd3, hb3⟩
       have hc3 := hc2.below hb3
       have h12 : g1 < g2 := by have := Blk.lt hc2; omega
       have bb3 := bt bb2 hb3
       have hw1 : w.heap.size ≤ g1 := Nat.le_trans hb1.size hg1
       have hw2 : w.heap.size ≤ g2 := Nat.le_trans hw1 (Nat.le_of_lt h12)
       clear hrd2 hc2)
    | (go_at_call 26; refine (octets_bad g2 _ _ HCut.out (by rw [List.length_take, HLen.out]; have := HN.out; omega) hd3).mono ?_; rintro e w4 ⟨⟨q4, d4, rfl⟩, hd4, hg4⟩
       have hc4 := hc3.grown hg4 (by simp; omega)
       have bb4 := btg bb3 hg4 hw2
       obtain ⟨q5, d5, W5, hr5, hrd5, hb5⟩ := HApp.out w4 ((n : Int) / 256) ((n : Int) % 256) rfl rfl 22
       have hc5 := hc4.below hb5
       have hd5 := hd4.below hb5
       have bb5 := bt bb4 hb5
       clear hd3 hc3)
    | (at_builtin; refine Lib.wpList_append_run _ rfl _ _ _ _ rfl _ _ rfl rfl _ _ hr5 ?_)
    | (go_at_call 23; refine (DerC.open_any _ _ _ _ _ _ hrd5 (long_len n).symm).mono ?_; rintro e w6 ⟨g3, rfl, hg3, he6, hb6⟩
       have hc6 := hc5.below hb6
       have hd6 := hd5.below hb6
       have h13 : g1 < g3 := by have := Blk.lt hc5; omega
       have h23 : g2 < g3 := by have := Blk.lt hd5; omega
       have bb6 := bt bb5 hb6
       have hw3 : w.heap.size ≤ g3 := Nat.le_trans hw1 (Nat.le_of_lt h13)
       clear hrd5 hc5 hd5 hc4 hd4)
    | (go_at_call 26; refine (octets_bad g3 _ _ HLB.out (by rw [long_len]; have := HN.out; omega) he6).mono ?_; rintro e w7 ⟨⟨q7, d7, rfl⟩, he7, hg7⟩
       have hc7 := hc6.grown hg7 (by simp; omega)
       have hd7 := hd6.grown hg7 (by simp; omega)
       have bb7 := btg bb6 hg7 hw3
       clear he6 hc6 hd6)
    | (go_at_call 26; have hc7' := hc7; rw [← List.append_nil (elem 4 (zl n))] at hc7'; refine (octets_zl g1 n _ HN.out hc7').mono ?_; rintro e w8 ⟨⟨q8, d8, rfl⟩, hc8, hg8⟩
       have hd8 := hd7.grown hg8 (by simp; omega)
       have he8 := he7.grown hg8 (by simp; omega)
       have bb8 := btg bb7 hg8 hw1
       clear he7 hc7 hd7)
    | (go_at_call 33; refine (whole_end g1 _ hc8).mono ?_; rintro e w' ⟨rfl, rfl⟩)
    | (go_at_call 32; refine (good_none g2 _ hd8).mono ?_; rintro e w' ⟨rfl, rfl⟩; clear hd8)
    | (go_at_call 32; refine (good_none g3 _ he8).mono ?_; rintro e w' ⟨rfl, rfl⟩)
    | (go_at_call 22; refine (DerK.known_any _).mono ?_; rintro e w9 ⟨rfl, hb9⟩))
  go_ret
  exact ⟨rfl, bt bb8 hb9⟩

set_option maxRecDepth 100000 in
set_option maxHeartbeats 2000000 in
theorem lengths_mid (n : Nat) (cut : Int) (w : World) (h : n ≤ 3000) (h1 : ¬ n ≤ 127) (h2 : n ≤ 255) :
    Calls Try.prog 7 #[.int .i64 (n : Int), .int .i64 cut] w fun e w' => e = .returned (.bool true) ∧ Below w.heap.size w w' := by
  have g1 : decide ((n : Int) < 0) = false := by simp
  have g2 : decide ((3000 : Int) < (n : Int)) = false := by simp; omega
  have g3 : decide ((127 : Int) < (n : Int)) = true := by simp; omega
  have g4 : decide ((255 : Int) < (n : Int)) = false := by simp; omega
  have hH : (elem 4 (zl n)).length = n + 3 := by rw [head_of]; rw [if_neg (by omega), if_pos h2]
  have HLay := Lib.hid (lay_zl n 3 h hH)
  obtain ⟨i0, hi0, hz0, hs0, hb0⟩ := info_parts DerW.u8_info
  have hmk := fun W => run_make_bytes (P := Try.prog) (t := 22) (e := 5) Try.underlying22 hi0 hz0 hs0 hb0 (n : Int) n rfl (by omega) W
  obtain ⟨a, ha⟩ : ∃ a : Nat, cut % 65536 = (a : Int) := ⟨(cut % 65536).toNat, by omega⟩
  have hand : bits .and .i64 cut 65535 = (a : Int) := (and_mask cut).trans ha
  obtain ⟨k, hk, hkl⟩ : ∃ k : Nat, ((a : Int).tmod ((n : Int) + 3)) = (k : Int) ∧ k < n + 3 := ⟨a % (n + 3), by rw [show ((n : Int) + 3) = ((n + 3 : Nat) : Int) by omega, ← Int.ofNat_tmod], Nat.mod_lt _ (by omega)⟩
  have HCut := Lib.hid (cut_bad n k h (by rw [hH]; exact hkl))
  have HLen := Lib.hid hH
  have HApp := Lib.hid (app_long n h)
  have HN := Lib.hid h
  have HK := Lib.hid hkl
  have hnu : (n : Int) ≤ 3000 := by omega
  have hkk : (k : Int) < (n : Int) + 3 := by omega
  have HLB := Lib.hid (long_bad n h2)
  clear ha hH h hkl
  clear h1 h2
  go_enter Try.func7, Try.ntmps7
  go_wp2_with (first
    | (go_at_call 16; refine (HLay.out w).mono ?_; rintro e w1 ⟨⟨q1, d1, rfl, hd1, hrd1⟩, hb1⟩)
    | (go_at_call 23; refine (DerC.open_any _ _ _ _ _ _ hrd1 HLen.out.symm).mono ?_; rintro e w2 ⟨g1, rfl, hg1, hc2, hb2⟩
       have hrd2 := rd_take' (hrd1.below hb2) k
       have hct := run_cut_to q1 (n + 3) d1 k (k : Int) rfl (by have := HK.out; omega)
       have bb2 := bt hb1 hb2
       clear hrd1)
    | (go_at_call 23; refine (DerC.open_any _ _ _ _ _ _ hrd2 (by rw [List.length_take, HLen.out]; have := HK.out; omega)).mono ?_; rintro e w3 ⟨g2, rfl, hg2, hd3, hb3⟩
       have hc3 := hc2.below hb3
       have h12 : g1 < g2 := by have := Blk.lt hc2; omega
       have bb3 := bt bb2 hb3
       have hw1 : w.heap.size ≤ g1 := Nat.le_trans hb1.size hg1
       have hw2 : w.heap.size ≤ g2 := Nat.le_trans hw1 (Nat.le_of_lt h12)
       clear hrd2 hc2)
    | (go_at_call 26; refine (octets_bad g2 _ _ HCut.out (by rw [List.length_take, HLen.out]; have := HN.out; omega) hd3).mono ?_; rintro e w4 ⟨⟨q4, d4, rfl⟩, hd4, hg4⟩
       have hc4 := hc3.grown hg4 (by simp; omega)
       have bb4 := btg bb3 hg4 hw2
       obtain ⟨q5, d5, W5, hr5, hrd5, hb5⟩ := HApp.out w4 ((n : Int) / 256) ((n : Int) % 256) rfl rfl 22
       have hc5 := hc4.below hb5
       have hd5 := hd4.below hb5
       have bb5 := bt bb4 hb5
       clear hd3 hc3)
    | (at_builtin; refine Lib.wpList_append_run _ rfl _ _ _ _ rfl _ _ rfl rfl _ _ hr5 ?_)
    | (go_at_call 23; refine (DerC.open_any _ _ _ _ _ _ hrd5 (long_len n).symm).mono ?_; rintro e w6 ⟨g3, rfl, hg3, he6, hb6⟩
       have hc6 := hc5.below hb6
       have hd6 := hd5.below hb6
       have h13 : g1 < g3 := by have := Blk.lt hc5; omega
       have h23 : g2 < g3 := by have := Blk.lt hd5; omega
       have bb6 := bt bb5 hb6
       have hw3 : w.heap.size ≤ g3 := Nat.le_trans hw1 (Nat.le_of_lt h13)
       clear hrd5 hc5 hd5 hc4 hd4)
    | (go_at_call 26; refine (octets_bad g3 _ _ HLB.out (by rw [long_len]; have := HN.out; omega) he6).mono ?_; rintro e w7 ⟨⟨q7, d7, rfl⟩, he7, hg7⟩
       have hc7 := hc6.grown hg7 (by simp; omega)
       have hd7 := hd6.grown hg7 (by simp; omega)
       have bb7 := btg bb6 hg7 hw3
       clear he6 hc6 hd6)
    | (go_at_call 26; have hc7' := hc7; rw [← List.append_nil (elem 4 (zl n))] at hc7'; refine (octets_zl g1 n _ HN.out hc7').mono ?_; rintro e w8 ⟨⟨q8, d8, rfl⟩, hc8, hg8⟩
       have hd8 := hd7.grown hg8 (by simp; omega)
       have he8 := he7.grown hg8 (by simp; omega)
       have bb8 := btg bb7 hg8 hw1
       clear he7 hc7 hd7)
    | (go_at_call 33; refine (whole_end g1 _ hc8).mono ?_; rintro e w' ⟨rfl, rfl⟩)
    | (go_at_call 32; refine (good_none g2 _ hd8).mono ?_; rintro e w' ⟨rfl, rfl⟩; clear hd8)
    | (go_at_call 32; refine (good_none g3 _ he8).mono ?_; rintro e w' ⟨rfl, rfl⟩)
    | (go_at_call 22; refine (DerK.known_any _).mono ?_; rintro e w9 ⟨rfl, hb9⟩))
  go_ret
  exact ⟨rfl, bt bb8 hb9⟩

set_option maxRecDepth 100000 in
set_option maxHeartbeats 2000000 in
theorem lengths_big (n : Nat) (cut : Int) (w : World) (h : n ≤ 3000) (h2 : ¬ n ≤ 255) :
    Calls Try.prog 7 #[.int .i64 (n : Int), .int .i64 cut] w fun e w' => e = .returned (.bool true) ∧ Below w.heap.size w w' := by
  have g1 : decide ((n : Int) < 0) = false := by simp
  have g2 : decide ((3000 : Int) < (n : Int)) = false := by simp; omega
  have g3 : decide ((127 : Int) < (n : Int)) = true := by simp; omega
  have g4 : decide ((255 : Int) < (n : Int)) = true := by simp; omega
  have hH : (elem 4 (zl n)).length = n + 4 := by rw [head_of]; rw [if_neg (by omega), if_neg h2]
  have HLay := Lib.hid (lay_zl n 4 h hH)
  obtain ⟨i0, hi0, hz0, hs0, hb0⟩ := info_parts DerW.u8_info
  have hmk := fun W => run_make_bytes (P := Try.prog) (t := 22) (e := 5) Try.underlying22 hi0 hz0 hs0 hb0 (n : Int) n rfl (by omega) W
  obtain ⟨a, ha⟩ : ∃ a : Nat, cut % 65536 = (a : Int) := ⟨(cut % 65536).toNat, by omega⟩
  have hand : bits .and .i64 cut 65535 = (a : Int) := (and_mask cut).trans ha
  obtain ⟨k, hk, hkl⟩ : ∃ k : Nat, ((a : Int).tmod ((n : Int) + 4)) = (k : Int) ∧ k < n + 4 := ⟨a % (n + 4), by rw [show ((n : Int) + 4) = ((n + 4 : Nat) : Int) by omega, ← Int.ofNat_tmod], Nat.mod_lt _ (by omega)⟩
  have HCut := Lib.hid (cut_bad n k h (by rw [hH]; exact hkl))
  have HLen := Lib.hid hH
  have HApp := Lib.hid (app_long n h)
  have HN := Lib.hid h
  have HK := Lib.hid hkl
  have hnu : (n : Int) ≤ 3000 := by omega
  have hkk : (k : Int) < (n : Int) + 4 := by omega
  have HLB := Lib.hid (long_good n h2)
  clear ha hH h hkl
  clear h2
  go_enter Try.func7, Try.ntmps7
  go_wp2_with (first
    | (go_at_call 16; refine (HLay.out w).mono ?_; rintro e w1 ⟨⟨q1, d1, rfl, hd1, hrd1⟩, hb1⟩)
    | (go_at_call 23; refine (DerC.open_any _ _ _ _ _ _ hrd1 HLen.out.symm).mono ?_; rintro e w2 ⟨g1, rfl, hg1, hc2, hb2⟩
       have hrd2 := rd_take' (hrd1.below hb2) k
       have hct := run_cut_to q1 (n + 4) d1 k (k : Int) rfl (by have := HK.out; omega)
       have bb2 := bt hb1 hb2
       clear hrd1)
    | (go_at_call 23; refine (DerC.open_any _ _ _ _ _ _ hrd2 (by rw [List.length_take, HLen.out]; have := HK.out; omega)).mono ?_; rintro e w3 ⟨g2, rfl, hg2, hd3, hb3⟩
       have hc3 := hc2.below hb3
       have h12 : g1 < g2 := by have := Blk.lt hc2; omega
       have bb3 := bt bb2 hb3
       have hw1 : w.heap.size ≤ g1 := Nat.le_trans hb1.size hg1
       have hw2 : w.heap.size ≤ g2 := Nat.le_trans hw1 (Nat.le_of_lt h12)
       clear hrd2 hc2)
    | (go_at_call 26; refine (octets_bad g2 _ _ HCut.out (by rw [List.length_take, HLen.out]; have := HN.out; omega) hd3).mono ?_; rintro e w4 ⟨⟨q4, d4, rfl⟩, hd4, hg4⟩
       have hc4 := hc3.grown hg4 (by simp; omega)
       have bb4 := btg bb3 hg4 hw2
       obtain ⟨q5, d5, W5, hr5, hrd5, hb5⟩ := HApp.out w4 ((n : Int) / 256) ((n : Int) % 256) rfl rfl 22
       have hc5 := hc4.below hb5
       have hd5 := hd4.below hb5
       have bb5 := bt bb4 hb5
       clear hd3 hc3)
    | (at_builtin; refine Lib.wpList_append_run _ rfl _ _ _ _ rfl _ _ rfl rfl _ _ hr5 ?_)
    | (go_at_call 23; refine (DerC.open_any _ _ _ _ _ _ hrd5 (long_len n).symm).mono ?_; rintro e w6 ⟨g3, rfl, hg3, he6, hb6⟩
       have hc6 := hc5.below hb6
       have hd6 := hd5.below hb6
       have h13 : g1 < g3 := by have := Blk.lt hc5; omega
       have h23 : g2 < g3 := by have := Blk.lt hd5; omega
       have bb6 := bt bb5 hb6
       have hw3 : w.heap.size ≤ g3 := Nat.le_trans hw1 (Nat.le_of_lt h13)
       clear hrd5 hc5 hd5 hc4 hd4)
    | (go_at_call 26; have he6' := he6; rw [HLB.out] at he6'; refine (octets_zl g3 n _ HN.out he6').mono ?_; rintro e w7 ⟨⟨q7, d7, rfl⟩, he7, hg7⟩
       have hc7 := hc6.grown hg7 (by simp; omega)
       have hd7 := hd6.grown hg7 (by simp; omega)
       have bb7 := btg bb6 hg7 hw3
       clear he6 hc6 hd6)
    | (go_at_call 26; have hc7' := hc7; rw [← List.append_nil (elem 4 (zl n))] at hc7'; refine (octets_zl g1 n _ HN.out hc7').mono ?_; rintro e w8 ⟨⟨q8, d8, rfl⟩, hc8, hg8⟩
       have hd8 := hd7.grown hg8 (by simp; omega)
       have he8 := he7.grown hg8 (by simp; omega)
       have bb8 := btg bb7 hg8 hw1
       clear he7 hc7 hd7)
    | (go_at_call 33; refine (whole_end g1 _ hc8).mono ?_; rintro e w' ⟨rfl, rfl⟩)
    | (go_at_call 32; refine (good_none g2 _ hd8).mono ?_; rintro e w' ⟨rfl, rfl⟩; clear hd8)
    | (go_at_call 32; refine (good_some g3 _ _ he8).mono ?_; rintro e w' ⟨rfl, rfl⟩)
    | (go_at_call 22; refine (DerK.known_any _).mono ?_; rintro e w9 ⟨rfl, hb9⟩))
  go_ret
  exact ⟨rfl, bt bb8 hb9⟩

theorem lengths (n cut : Int) (w : World) (hn : (Lit.int .i64 n).wf = true) (hc : (Lit.int .i64 cut).wf = true) :
    Calls Try.prog 7 #[.int .i64 n, .int .i64 cut] w fun e w' => e = .returned (.bool true) ∧ Below w.heap.size w w' := by
  by_cases h : n < 0 ∨ 3000 < n
  · exact lengths_out n cut w h
  · obtain ⟨m, rfl⟩ : ∃ m : Nat, n = (m : Int) := ⟨n.toNat, by omega⟩
    by_cases h1 : m ≤ 127
    · exact lengths_small m cut w (by omega) h1
    · by_cases h2 : m ≤ 255
      · exact lengths_mid m cut w (by omega) h1 h2
      · exact lengths_big m cut w (by omega) h2

end Go.Proofs.Ytkkpcnibghndgaa.DerL
