/-
  TransitJunk walked, of rows of at most 1048576.
-/
import Derived.Test.YtmgbhkhkbebfpaaTrLaw6
import Derived.IntWalk
import Derived.Deep.RegionHeld3
import Derived.Deep.Cut
import Derived.Deep.RegionWith
set_option linter.unusedVariables false
namespace Go.Proofs.Ytmgbhkhkbebfpaa.TrW
open Go.RowKit Go.Proofs.Ytmgbhkhkbebfpaa.Mem Go.Proofs.Ytmgbhkhkbebfpaa.Nm Go.Proofs.Ytmgbhkhkbebfpaa.Tr
attribute [local go_sem] ext_drop ext_take

theorem junk_mask (n : Int) : bits .and .i64 n 65535 = n % 65536 := by
  have h16 : (BitVec.ofInt 64 65535).toNat = 2 ^ 16 - 1 := by decide
  have key : (BitVec.ofInt 64 n &&& BitVec.ofInt 64 65535).toNat = (n % ((2 ^ 64 : Nat) : Int)).toNat % 2 ^ 16 := by
    rw [BitVec.toNat_and, BitVec.toNat_ofInt, h16, Nat.and_two_pow_sub_one_eq_mod]
  show IntKind.i64.wrap ((BitVec.ofInt 64 n &&& BitVec.ofInt 64 65535).toNat : Nat) = n % 65536
  rw [key, IntKind.wrap_i64]
  omega
set_option maxHeartbeats 1600000 in
theorem junk_bad (l : List L) (A : Option Addr) (c : Nat) (u : UInt8) (z : Int) (w : World) (hr : Rd w w.heap.size A (strs l)) (hl : l.length ≤ 1048576) (hx : ∀ x ∈ l, x.length ≤ 1048576) (h : (onceR l).2 = false) :
    Calls Try.prog 12 #[.slice A l.length c, .int .u8 (u.toNat : Int), .int .i64 z] w fun e w' => e = .returned (.bool true) ∧ Below w.heap.size w w' := by
  have c1 := once_any l A c w hl hr (fun i hi => by have := hx _ (pl_mem hi); omega)
  rw [h] at c1
  clear hr hl hx h
  go_enter Try.func12, Try.ntmps12
  go_wp2_with (go_at_call 22; refine Calls.mono c1 ?_; rintro e w1 ⟨v1, rfl, ho, hb⟩; have H := Lib.hid hb; clear c1 ho hb)
  go_ret
  exact ⟨rfl, H.out⟩
set_option maxHeartbeats 1600000 in
theorem junk_large (l : List L) (A : Option Addr) (c : Nat) (u : UInt8) (z : Int) (w : World) (hr : Rd w w.heap.size A (strs l)) (hl : l.length ≤ 1048576) (hx : ∀ x ∈ l, x.length ≤ 1048576) (hall : l.all isL = true) (h8 : (onceL l).length ≤ 8) (h : onceR l = (onceL l, true)) (h6 : 600 < sumL l) :
    Calls Try.prog 12 #[.slice A l.length c, .int .u8 (u.toNat : Int), .int .i64 z] w fun e w' => e = .returned (.bool true) ∧ Below w.heap.size w w' := by
  have c1 := once_any l A c w hl hr (fun i hi => by have := hx _ (pl_mem hi); omega)
  rw [h] at c1
  have g1 := fun w1 B hr1 => large_any l A l.length c B w1 rfl (sum_real hall hl) hr1
  have HR := Lib.hid hr
  rw [decide_eq_true h6] at g1
  have G1 := Lib.hid g1
  clear hr hl hx h hall h8 h6 g1
  go_enter Try.func12, Try.ntmps12
  go_wp2_with (first
    | (go_at_call 22; refine Calls.mono c1 ?_; rintro e w1 ⟨v1, rfl, ho, hb⟩; have H := Lib.hid hb; have R0 := Lib.hid (HR.out.below hb); obtain ⟨A1, q1, rfl, r1⟩ := ho.slice; have R1 := Lib.hid r1; clear c1 ho hb r1)
    | (go_at_call 13; refine Calls.mono (G1.out _ _ R0.out) ?_; rintro e w2 ⟨rfl, rfl⟩; clear G1))
  go_ret
  exact ⟨rfl, H.out⟩
set_option maxHeartbeats 1600000 in
theorem junk_none (l : List L) (A : Option Addr) (c : Nat) (u : UInt8) (z : Int) (w : World) (hr : Rd w w.heap.size A (strs l)) (hl : l.length ≤ 1048576) (hx : ∀ x ∈ l, x.length ≤ 1048576) (hall : l.all isL = true) (h8 : (onceL l).length ≤ 8) (h : onceR l = (onceL l, true)) (h6 : sumL l ≤ 600) (h0 : (onceL l).length = 0) :
    Calls Try.prog 12 #[.slice A l.length c, .int .u8 (u.toNat : Int), .int .i64 z] w fun e w' => e = .returned (.bool true) ∧ Below w.heap.size w w' := by
  have c1 := once_any l A c w hl hr (fun i hi => by have := hx _ (pl_mem hi); omega)
  rw [h] at c1
  have g1 := fun w1 B hr1 => large_any l A l.length c B w1 rfl (sum_real hall hl) hr1
  have HR := Lib.hid hr
  rw [decide_eq_false (by omega)] at g1
  have G1 := Lib.hid g1
  have hma := once_all hall
  obtain ⟨m, em⟩ : ∃ m, m = onceL l := ⟨_, rfl⟩
  rw [← em] at c1 h8 hma h0
  clear em
  have t0 : ((m.length : Int) == 0) = true := beq_iff_eq.2 (by omega)
  clear hr hl hx h hall h8 h6 g1 hma h0
  go_enter Try.func12, Try.ntmps12
  go_wp2_with (first
    | (go_at_call 22; refine Calls.mono c1 ?_; rintro e w1 ⟨v1, rfl, ho, hb⟩; have H := Lib.hid hb; have R0 := Lib.hid (HR.out.below hb); obtain ⟨A1, q1, rfl, r1⟩ := ho.slice; have R1 := Lib.hid r1; clear c1 ho hb r1)
    | (go_at_call 13; refine Calls.mono (G1.out _ _ R0.out) ?_; rintro e w2 ⟨rfl, rfl⟩; clear G1))
  go_ret
  exact ⟨rfl, H.out⟩
set_option maxHeartbeats 1600000 in
theorem junk_cap (l : List L) (A : Option Addr) (c : Nat) (u : UInt8) (z : Int) (w : World) (hr : Rd w w.heap.size A (strs l)) (hl : l.length ≤ 1048576) (hx : ∀ x ∈ l, x.length ≤ 1048576) (hall : l.all isL = true) (h8 : (onceL l).length ≤ 8) (h : onceR l = (onceL l, true)) (h6 : sumL l ≤ 600) (h0 : (onceL l).length ≠ 0) (hu : capB u = true) :
    Calls Try.prog 12 #[.slice A l.length c, .int .u8 (u.toNat : Int), .int .i64 z] w fun e w' => e = .returned (.bool true) ∧ Below w.heap.size w w' := by
  have c1 := once_any l A c w hl hr (fun i hi => by have := hx _ (pl_mem hi); omega)
  rw [h] at c1
  have g1 := fun w1 B hr1 => large_any l A l.length c B w1 rfl (sum_real hall hl) hr1
  have HR := Lib.hid hr
  rw [decide_eq_false (by omega)] at g1
  have G1 := Lib.hid g1
  have hma := once_all hall
  obtain ⟨m, em⟩ : ∃ m, m = onceL l := ⟨_, rfl⟩
  rw [← em] at c1 h8 hma h0
  clear em
  have t0 : ((m.length : Int) == 0) = false := beq_eq_false_iff_ne.2 (by omega)
  simp only [capB, Bool.and_eq_true, decide_eq_true_eq] at hu
  have u1 : decide (65 ≤ (u.toNat : Int)) = true := decide_eq_true (by omega)
  have u2 : decide ((u.toNat : Int) ≤ 90) = true := decide_eq_true (by omega)
  clear hu
  clear hr hl hx h hall h8 h6 g1 hma h0
  go_enter Try.func12, Try.ntmps12
  go_wp2_with (first
    | (go_at_call 22; refine Calls.mono c1 ?_; rintro e w1 ⟨v1, rfl, ho, hb⟩; have H := Lib.hid hb; have R0 := Lib.hid (HR.out.below hb); obtain ⟨A1, q1, rfl, r1⟩ := ho.slice; have R1 := Lib.hid r1; clear c1 ho hb r1)
    | (go_at_call 13; refine Calls.mono (G1.out _ _ R0.out) ?_; rintro e w2 ⟨rfl, rfl⟩; clear G1))
  go_ret
  exact ⟨rfl, H.out⟩
set_option maxHeartbeats 1600000 in
theorem junk_46 (l : List L) (A : Option Addr) (c : Nat) (z : Int) (w : World) (hr : Rd w w.heap.size A (strs l)) (hl : l.length ≤ 1048576) (hx : ∀ x ∈ l, x.length ≤ 1048576) (hall : l.all isL = true) (h8 : (onceL l).length ≤ 8) (h : onceR l = (onceL l, true)) (h6 : sumL l ≤ 600) (h0 : (onceL l).length ≠ 0) :
    Calls Try.prog 12 #[.slice A l.length c, .int .u8 46, .int .i64 z] w fun e w' => e = .returned (.bool true) ∧ Below w.heap.size w w' := by
  have c1 := once_any l A c w hl hr (fun i hi => by have := hx _ (pl_mem hi); omega)
  rw [h] at c1
  have g1 := fun w1 B hr1 => large_any l A l.length c B w1 rfl (sum_real hall hl) hr1
  have HR := Lib.hid hr
  rw [decide_eq_false (by omega)] at g1
  have G1 := Lib.hid g1
  have hma := once_all hall
  obtain ⟨m, em⟩ : ∃ m, m = onceL l := ⟨_, rfl⟩
  rw [← em] at c1 h8 hma h0
  clear em
  have t0 : ((m.length : Int) == 0) = false := beq_eq_false_iff_ne.2 (by omega)
  clear hr hl hx h hall h8 h6 g1 hma h0
  go_enter Try.func12, Try.ntmps12
  go_wp2_with (first
    | (go_at_call 22; refine Calls.mono c1 ?_; rintro e w1 ⟨v1, rfl, ho, hb⟩; have H := Lib.hid hb; have R0 := Lib.hid (HR.out.below hb); obtain ⟨A1, q1, rfl, r1⟩ := ho.slice; have R1 := Lib.hid r1; clear c1 ho hb r1)
    | (go_at_call 13; refine Calls.mono (G1.out _ _ R0.out) ?_; rintro e w2 ⟨rfl, rfl⟩; clear G1))
  go_ret
  exact ⟨rfl, H.out⟩
set_option maxHeartbeats 1600000 in
theorem junk_47 (l : List L) (A : Option Addr) (c : Nat) (z : Int) (w : World) (hr : Rd w w.heap.size A (strs l)) (hl : l.length ≤ 1048576) (hx : ∀ x ∈ l, x.length ≤ 1048576) (hall : l.all isL = true) (h8 : (onceL l).length ≤ 8) (h : onceR l = (onceL l, true)) (h6 : sumL l ≤ 600) (h0 : (onceL l).length ≠ 0) :
    Calls Try.prog 12 #[.slice A l.length c, .int .u8 47, .int .i64 z] w fun e w' => e = .returned (.bool true) ∧ Below w.heap.size w w' := by
  have c1 := once_any l A c w hl hr (fun i hi => by have := hx _ (pl_mem hi); omega)
  rw [h] at c1
  have g1 := fun w1 B hr1 => large_any l A l.length c B w1 rfl (sum_real hall hl) hr1
  have HR := Lib.hid hr
  rw [decide_eq_false (by omega)] at g1
  have G1 := Lib.hid g1
  have hma := once_all hall
  obtain ⟨m, em⟩ : ∃ m, m = onceL l := ⟨_, rfl⟩
  rw [← em] at c1 h8 hma h0
  clear em
  have t0 : ((m.length : Int) == 0) = false := beq_eq_false_iff_ne.2 (by omega)
  clear hr hl hx h hall h8 h6 g1 hma h0
  go_enter Try.func12, Try.ntmps12
  go_wp2_with (first
    | (go_at_call 22; refine Calls.mono c1 ?_; rintro e w1 ⟨v1, rfl, ho, hb⟩; have H := Lib.hid hb; have R0 := Lib.hid (HR.out.below hb); obtain ⟨A1, q1, rfl, r1⟩ := ho.slice; have R1 := Lib.hid r1; clear c1 ho hb r1)
    | (go_at_call 13; refine Calls.mono (G1.out _ _ R0.out) ?_; rintro e w2 ⟨rfl, rfl⟩; clear G1))
  go_ret
  exact ⟨rfl, H.out⟩
set_option maxHeartbeats 1600000 in
theorem junk_44 (l : List L) (A : Option Addr) (c : Nat) (z : Int) (w : World) (hr : Rd w w.heap.size A (strs l)) (hl : l.length ≤ 1048576) (hx : ∀ x ∈ l, x.length ≤ 1048576) (hall : l.all isL = true) (h8 : (onceL l).length ≤ 8) (h : onceR l = (onceL l, true)) (h6 : sumL l ≤ 600) (h0 : (onceL l).length ≠ 0) :
    Calls Try.prog 12 #[.slice A l.length c, .int .u8 44, .int .i64 z] w fun e w' => e = .returned (.bool true) ∧ Below w.heap.size w w' := by
  have c1 := once_any l A c w hl hr (fun i hi => by have := hx _ (pl_mem hi); omega)
  rw [h] at c1
  have g1 := fun w1 B hr1 => large_any l A l.length c B w1 rfl (sum_real hall hl) hr1
  have HR := Lib.hid hr
  rw [decide_eq_false (by omega)] at g1
  have G1 := Lib.hid g1
  have hma := once_all hall
  obtain ⟨m, em⟩ : ∃ m, m = onceL l := ⟨_, rfl⟩
  rw [← em] at c1 h8 hma h0
  clear em
  have t0 : ((m.length : Int) == 0) = false := beq_eq_false_iff_ne.2 (by omega)
  clear hr hl hx h hall h8 h6 g1 hma h0
  go_enter Try.func12, Try.ntmps12
  go_wp2_with (first
    | (go_at_call 22; refine Calls.mono c1 ?_; rintro e w1 ⟨v1, rfl, ho, hb⟩; have H := Lib.hid hb; have R0 := Lib.hid (HR.out.below hb); obtain ⟨A1, q1, rfl, r1⟩ := ho.slice; have R1 := Lib.hid r1; clear c1 ho hb r1)
    | (go_at_call 13; refine Calls.mono (G1.out _ _ R0.out) ?_; rintro e w2 ⟨rfl, rfl⟩; clear G1))
  go_ret
  exact ⟨rfl, H.out⟩
set_option maxHeartbeats 1600000 in
theorem junk_32 (l : List L) (A : Option Addr) (c : Nat) (z : Int) (w : World) (hr : Rd w w.heap.size A (strs l)) (hl : l.length ≤ 1048576) (hx : ∀ x ∈ l, x.length ≤ 1048576) (hall : l.all isL = true) (h8 : (onceL l).length ≤ 8) (h : onceR l = (onceL l, true)) (h6 : sumL l ≤ 600) (h0 : (onceL l).length ≠ 0) :
    Calls Try.prog 12 #[.slice A l.length c, .int .u8 32, .int .i64 z] w fun e w' => e = .returned (.bool true) ∧ Below w.heap.size w w' := by
  have c1 := once_any l A c w hl hr (fun i hi => by have := hx _ (pl_mem hi); omega)
  rw [h] at c1
  have g1 := fun w1 B hr1 => large_any l A l.length c B w1 rfl (sum_real hall hl) hr1
  have HR := Lib.hid hr
  rw [decide_eq_false (by omega)] at g1
  have G1 := Lib.hid g1
  have hma := once_all hall
  obtain ⟨m, em⟩ : ∃ m, m = onceL l := ⟨_, rfl⟩
  rw [← em] at c1 h8 hma h0
  clear em
  have t0 : ((m.length : Int) == 0) = false := beq_eq_false_iff_ne.2 (by omega)
  clear hr hl hx h hall h8 h6 g1 hma h0
  go_enter Try.func12, Try.ntmps12
  go_wp2_with (first
    | (go_at_call 22; refine Calls.mono c1 ?_; rintro e w1 ⟨v1, rfl, ho, hb⟩; have H := Lib.hid hb; have R0 := Lib.hid (HR.out.below hb); obtain ⟨A1, q1, rfl, r1⟩ := ho.slice; have R1 := Lib.hid r1; clear c1 ho hb r1)
    | (go_at_call 13; refine Calls.mono (G1.out _ _ R0.out) ?_; rintro e w2 ⟨rfl, rfl⟩; clear G1))
  go_ret
  exact ⟨rfl, H.out⟩
set_option maxHeartbeats 3200000 in
set_option maxRecDepth 100000 in
theorem junk_lo (l : List L) (A : Option Addr) (c : Nat) (u : UInt8) (z : Int) (w : World) (hr : Rd w w.heap.size A (strs l)) (hl : l.length ≤ 1048576) (hx : ∀ x ∈ l, x.length ≤ 1048576) (hall : l.all isL = true) (h8 : (onceL l).length ≤ 8) (h : onceR l = (onceL l, true)) (h6 : sumL l ≤ 600) (h0 : (onceL l).length ≠ 0) (hj : junkB u = true) (hg : u.toNat < 65) :
    Calls Try.prog 12 #[.slice A l.length c, .int .u8 (u.toNat : Int), .int .i64 z] w fun e w' => e = .returned (.bool true) ∧ Below w.heap.size w w' := by
  have g65 : decide (65 ≤ (u.toNat : Int)) = false := decide_eq_false (by omega)
  clear hg
  have c1 := once_any l A c w hl hr (fun i hi => by have := hx _ (pl_mem hi); omega)
  rw [h] at c1
  have g1 := fun w1 B hr1 => large_any l A l.length c B w1 rfl (sum_real hall hl) hr1
  have HR := Lib.hid hr
  rw [decide_eq_false (by omega)] at g1
  have G1 := Lib.hid g1
  have hma := once_all hall
  obtain ⟨m, em⟩ : ∃ m, m = onceL l := ⟨_, rfl⟩
  rw [← em] at c1 h8 hma h0
  clear em
  have t0 : ((m.length : Int) == 0) = false := beq_eq_false_iff_ne.2 (by omega)
  have hj2 := hj
  simp only [junkB, Bool.and_eq_true, Bool.not_eq_true', bne_iff_ne, ne_eq] at hj2
  obtain ⟨j1, j2, j3, j4, j5⟩ := hj2
  have un : ∀ k : UInt8, u ≠ k → ((u.toNat : Int) == (k.toNat : Int)) = false := fun k hk => by
    simp only [beq_eq_false_iff_ne, ne_eq]
    intro q
    exact hk (UInt8.toNat_inj.1 (by omega))
  have u3 : ((u.toNat : Int) == 46) = false := un 46 j2
  have u4 : ((u.toNat : Int) == 47) = false := un 47 j3
  have u5 : ((u.toNat : Int) == 44) = false := un 44 j4
  have u6 : ((u.toNat : Int) == 32) = false := un 32 j5
  have hm0 : m ≠ [] := by rintro rfl; exact h0 rfl
  have hco := comp_ok hma h8
  have hcl := comp_len hma
  have hne := comp_ne hma hm0
  have hjx := fun k => junk_all (k := k) hma hm0 h8 isA isB hj
  have p1 := fun A c w1 hr1 => comp_any m A c w1 (by omega) hr1 (fun i hi => by have := real_len (all_isL hma (pl_mem hi)); omega)
  rw [hco] at p1
  obtain ⟨S, eS⟩ : ∃ S, S = compT m := ⟨_, rfl⟩
  rw [← eS] at p1 hcl hne hjx
  have hsl : 0 < S.length := by
    cases S with
    | nil => exact absurd rfl hne
    | cons x t => simp
  have t1 : ((S.length : Int) == 0) = false := beq_eq_false_iff_ne.2 (by omega)
  have hs1 : S.length ≤ 304 := by omega
  obtain ⟨q, eq⟩ : ∃ q : Nat, z % 65536 = (q : Int) := ⟨(z % 65536).toNat, by omega⟩
  have hand : bits .and .i64 z 65535 = (q : Int) := (junk_mask z).trans eq
  obtain ⟨k, ek⟩ : ∃ k, k = q % S.length := ⟨_, rfl⟩
  have hkl : k < S.length := by rw [ek]; exact Nat.mod_lt _ hsl
  have hrem : Int.tmod (q : Int) (S.length : Int) = (k : Int) := by rw [Int.tmod_eq_emod_of_nonneg (by omega), ek]; rfl
  have k1 : (0 : Int) ≤ (k : Int) := by omega
  have k2 : (k : Int) ≤ (S.length : Int) := by omega
  have b1 : ¬ (9223372036854775807 < min k (List.length S) + 1) := by omega
  have b2 : ¬ (9223372036854775807 < min k (List.length S) + 1 + (List.length S - k)) := by omega
  have hjk := hjx k
  obtain ⟨J, eJ⟩ : ∃ J, J = S.take k ++ u :: S.drop k := ⟨_, rfl⟩
  have m1 : ByteArray.mk (S.take k).toArray ++ ByteArray.mk #[u] ++ ByteArray.mk (S.drop k).toArray = ByteArray.mk J.toArray := by
    rw [show ByteArray.mk #[u] = ByteArray.mk ([u] : L).toArray from rfl, mk_append, mk_append, eJ]; simp
  have hJl : J.length ≤ 305 := by rw [eJ]; simp; omega
  rw [← eJ] at hjk
  have p3 := fun w1 => exp_any J [65] [66] w1 (by omega) (by decide) (by decide)
  rw [hjk] at p3
  have P1 := Lib.hid p1
  have P3 := Lib.hid (show ∀ w1, Calls Try.prog 16 #[.string ⟨J.toArray⟩, .string ⟨#[65]⟩, .string ⟨#[66]⟩] w1 fun e w' => ExpV w' w1.heap.size e ([], 2) ∧ Below w1.heap.size w1 w' from p3)
  have CK := Lib.hid (fun w1 => known_any w1)
  have hrd : ∀ w1 : World, Rd (w1.alloc (.cells #[.int .u8 (u.toNat : Int)] 5)) (w1.heap.size + 1) (some ⟨w1.heap.size, 0, none⟩) (bvs [u]) := fun w1 => by
    refine .inr ⟨w1.heap.size, 0, rfl, by omega, fun j v hv => ?_⟩
    rw [Nat.zero_add, (Blk.new w1 5 _).cell j]
    cases j with
    | zero => simpa [bvs, bv] using hv
    | succ j => simp [bvs] at hv
  have hcv : ∀ w1 : World, (convert 46 9 (.slice (some ⟨w1.heap.size, 0, none⟩) 1 1)).run Try.prog (w1.alloc (.cells #[.int .u8 (u.toNat : Int)] 5)) = .ok (.string ⟨#[u]⟩) (w1.alloc (.cells #[.int .u8 (u.toNat : Int)] 5)) := fun w1 =>
    run_bytes_str (P := Try.prog) _ 46 5 Try.underlying46 Try.underlying5 (hrd w1) 1 1 rfl 9 Try.underlying9
  have hcvd : ∀ w1 : World, (convert 46 9 (.slice (some ⟨w1.heap.size, 0, none⟩) 1 1)).run Try.prog (w1.alloc (.cells #[.int .u8 (u.toNat : Int)] 5)).drew = .ok (.string ⟨#[u]⟩) (w1.alloc (.cells #[.int .u8 (u.toNat : Int)] 5)).drew := fun w1 =>
    run_bytes_str (P := Try.prog) _ 46 5 Try.underlying46 Try.underlying5 ((hrd w1).drewN 1) 1 1 rfl 9 Try.underlying9
  clear hrd hr hl hx h hall h8 h6 g1 hma h0 hj j1 j2 j3 j4 j5 un hm0 hco hcl hne hjx p1 p3 hjk eJ eS eq ek hsl
  go_enter Try.func12, Try.ntmps12
  go_upto_region 8 with (first
    | (go_at_call 22; refine Calls.mono c1 ?_; rintro e w1 ⟨v1, rfl, ho, hb⟩; have H := Lib.hid hb; have R0 := Lib.hid (HR.out.below hb); obtain ⟨A1, q1, rfl, r1⟩ := ho.slice; have R1 := Lib.hid r1; clear c1 ho hb r1)
    | (go_at_call 13; refine Calls.mono (G1.out _ _ R0.out) ?_; rintro e w2 ⟨rfl, rfl⟩; clear G1)
    | (go_at_call 14; refine Calls.mono (P1.out _ _ _ R1.out) ?_; rintro e w5 ⟨rfl, hb⟩; replace H := Lib.hid (H.out.trans (hb.mono H.out.size)); clear hb))
  have HW := Lib.hid (show Below w.heap.size w (w5.alloc (.cells #[.int .u8 (u.toNat : Int)] 5)).drew from below_drewN (H.out.alloc H.out.size _) 1)
  go_region_with (first
    | (go_at_call 16; refine Calls.mono (P3.out _) ?_; rintro e w7 ⟨⟨v7, rfl, ho⟩, hb⟩; obtain ⟨A7, q7, rfl, _⟩ := ho.slice; replace H := Lib.hid (HW.out.trans (hb.mono HW.out.size)); clear ho hb))
  go_wp2_with (go_at_call 21; refine Calls.mono (CK.out _) ?_; rintro e w8 ⟨rfl, hb⟩; replace H := Lib.hid (H.out.trans (hb.mono H.out.size)); clear hb)
  go_ret
  exact ⟨rfl, H.out⟩
set_option maxHeartbeats 3200000 in
set_option maxRecDepth 100000 in
theorem junk_hi (l : List L) (A : Option Addr) (c : Nat) (u : UInt8) (z : Int) (w : World) (hr : Rd w w.heap.size A (strs l)) (hl : l.length ≤ 1048576) (hx : ∀ x ∈ l, x.length ≤ 1048576) (hall : l.all isL = true) (h8 : (onceL l).length ≤ 8) (h : onceR l = (onceL l, true)) (h6 : sumL l ≤ 600) (h0 : (onceL l).length ≠ 0) (hj : junkB u = true) (hg : 90 < u.toNat) :
    Calls Try.prog 12 #[.slice A l.length c, .int .u8 (u.toNat : Int), .int .i64 z] w fun e w' => e = .returned (.bool true) ∧ Below w.heap.size w w' := by
  have g65 : decide (65 ≤ (u.toNat : Int)) = true := decide_eq_true (by omega)
  have g90 : decide ((u.toNat : Int) ≤ 90) = false := decide_eq_false (by omega)
  clear hg
  have c1 := once_any l A c w hl hr (fun i hi => by have := hx _ (pl_mem hi); omega)
  rw [h] at c1
  have g1 := fun w1 B hr1 => large_any l A l.length c B w1 rfl (sum_real hall hl) hr1
  have HR := Lib.hid hr
  rw [decide_eq_false (by omega)] at g1
  have G1 := Lib.hid g1
  have hma := once_all hall
  obtain ⟨m, em⟩ : ∃ m, m = onceL l := ⟨_, rfl⟩
  rw [← em] at c1 h8 hma h0
  clear em
  have t0 : ((m.length : Int) == 0) = false := beq_eq_false_iff_ne.2 (by omega)
  have hj2 := hj
  simp only [junkB, Bool.and_eq_true, Bool.not_eq_true', bne_iff_ne, ne_eq] at hj2
  obtain ⟨j1, j2, j3, j4, j5⟩ := hj2
  have un : ∀ k : UInt8, u ≠ k → ((u.toNat : Int) == (k.toNat : Int)) = false := fun k hk => by
    simp only [beq_eq_false_iff_ne, ne_eq]
    intro q
    exact hk (UInt8.toNat_inj.1 (by omega))
  have u3 : ((u.toNat : Int) == 46) = false := un 46 j2
  have u4 : ((u.toNat : Int) == 47) = false := un 47 j3
  have u5 : ((u.toNat : Int) == 44) = false := un 44 j4
  have u6 : ((u.toNat : Int) == 32) = false := un 32 j5
  have hm0 : m ≠ [] := by rintro rfl; exact h0 rfl
  have hco := comp_ok hma h8
  have hcl := comp_len hma
  have hne := comp_ne hma hm0
  have hjx := fun k => junk_all (k := k) hma hm0 h8 isA isB hj
  have p1 := fun A c w1 hr1 => comp_any m A c w1 (by omega) hr1 (fun i hi => by have := real_len (all_isL hma (pl_mem hi)); omega)
  rw [hco] at p1
  obtain ⟨S, eS⟩ : ∃ S, S = compT m := ⟨_, rfl⟩
  rw [← eS] at p1 hcl hne hjx
  have hsl : 0 < S.length := by
    cases S with
    | nil => exact absurd rfl hne
    | cons x t => simp
  have t1 : ((S.length : Int) == 0) = false := beq_eq_false_iff_ne.2 (by omega)
  have hs1 : S.length ≤ 304 := by omega
  obtain ⟨q, eq⟩ : ∃ q : Nat, z % 65536 = (q : Int) := ⟨(z % 65536).toNat, by omega⟩
  have hand : bits .and .i64 z 65535 = (q : Int) := (junk_mask z).trans eq
  obtain ⟨k, ek⟩ : ∃ k, k = q % S.length := ⟨_, rfl⟩
  have hkl : k < S.length := by rw [ek]; exact Nat.mod_lt _ hsl
  have hrem : Int.tmod (q : Int) (S.length : Int) = (k : Int) := by rw [Int.tmod_eq_emod_of_nonneg (by omega), ek]; rfl
  have k1 : (0 : Int) ≤ (k : Int) := by omega
  have k2 : (k : Int) ≤ (S.length : Int) := by omega
  have b1 : ¬ (9223372036854775807 < min k (List.length S) + 1) := by omega
  have b2 : ¬ (9223372036854775807 < min k (List.length S) + 1 + (List.length S - k)) := by omega
  have hjk := hjx k
  obtain ⟨J, eJ⟩ : ∃ J, J = S.take k ++ u :: S.drop k := ⟨_, rfl⟩
  have m1 : ByteArray.mk (S.take k).toArray ++ ByteArray.mk #[u] ++ ByteArray.mk (S.drop k).toArray = ByteArray.mk J.toArray := by
    rw [show ByteArray.mk #[u] = ByteArray.mk ([u] : L).toArray from rfl, mk_append, mk_append, eJ]; simp
  have hJl : J.length ≤ 305 := by rw [eJ]; simp; omega
  rw [← eJ] at hjk
  have p3 := fun w1 => exp_any J [65] [66] w1 (by omega) (by decide) (by decide)
  rw [hjk] at p3
  have P1 := Lib.hid p1
  have P3 := Lib.hid (show ∀ w1, Calls Try.prog 16 #[.string ⟨J.toArray⟩, .string ⟨#[65]⟩, .string ⟨#[66]⟩] w1 fun e w' => ExpV w' w1.heap.size e ([], 2) ∧ Below w1.heap.size w1 w' from p3)
  have CK := Lib.hid (fun w1 => known_any w1)
  have hrd : ∀ w1 : World, Rd (w1.alloc (.cells #[.int .u8 (u.toNat : Int)] 5)) (w1.heap.size + 1) (some ⟨w1.heap.size, 0, none⟩) (bvs [u]) := fun w1 => by
    refine .inr ⟨w1.heap.size, 0, rfl, by omega, fun j v hv => ?_⟩
    rw [Nat.zero_add, (Blk.new w1 5 _).cell j]
    cases j with
    | zero => simpa [bvs, bv] using hv
    | succ j => simp [bvs] at hv
  have hcv : ∀ w1 : World, (convert 46 9 (.slice (some ⟨w1.heap.size, 0, none⟩) 1 1)).run Try.prog (w1.alloc (.cells #[.int .u8 (u.toNat : Int)] 5)) = .ok (.string ⟨#[u]⟩) (w1.alloc (.cells #[.int .u8 (u.toNat : Int)] 5)) := fun w1 =>
    run_bytes_str (P := Try.prog) _ 46 5 Try.underlying46 Try.underlying5 (hrd w1) 1 1 rfl 9 Try.underlying9
  have hcvd : ∀ w1 : World, (convert 46 9 (.slice (some ⟨w1.heap.size, 0, none⟩) 1 1)).run Try.prog (w1.alloc (.cells #[.int .u8 (u.toNat : Int)] 5)).drew = .ok (.string ⟨#[u]⟩) (w1.alloc (.cells #[.int .u8 (u.toNat : Int)] 5)).drew := fun w1 =>
    run_bytes_str (P := Try.prog) _ 46 5 Try.underlying46 Try.underlying5 ((hrd w1).drewN 1) 1 1 rfl 9 Try.underlying9
  clear hrd hr hl hx h hall h8 h6 g1 hma h0 hj j1 j2 j3 j4 j5 un hm0 hco hcl hne hjx p1 p3 hjk eJ eS eq ek hsl
  go_enter Try.func12, Try.ntmps12
  go_upto_region 8 with (first
    | (go_at_call 22; refine Calls.mono c1 ?_; rintro e w1 ⟨v1, rfl, ho, hb⟩; have H := Lib.hid hb; have R0 := Lib.hid (HR.out.below hb); obtain ⟨A1, q1, rfl, r1⟩ := ho.slice; have R1 := Lib.hid r1; clear c1 ho hb r1)
    | (go_at_call 13; refine Calls.mono (G1.out _ _ R0.out) ?_; rintro e w2 ⟨rfl, rfl⟩; clear G1)
    | (go_at_call 14; refine Calls.mono (P1.out _ _ _ R1.out) ?_; rintro e w5 ⟨rfl, hb⟩; replace H := Lib.hid (H.out.trans (hb.mono H.out.size)); clear hb))
  have HW := Lib.hid (show Below w.heap.size w (w5.alloc (.cells #[.int .u8 (u.toNat : Int)] 5)).drew from below_drewN (H.out.alloc H.out.size _) 1)
  go_region_with (first
    | (go_at_call 16; refine Calls.mono (P3.out _) ?_; rintro e w7 ⟨⟨v7, rfl, ho⟩, hb⟩; obtain ⟨A7, q7, rfl, _⟩ := ho.slice; replace H := Lib.hid (HW.out.trans (hb.mono HW.out.size)); clear ho hb))
  go_wp2_with (go_at_call 21; refine Calls.mono (CK.out _) ?_; rintro e w8 ⟨rfl, hb⟩; replace H := Lib.hid (H.out.trans (hb.mono H.out.size)); clear hb)
  go_ret
  exact ⟨rfl, H.out⟩
theorem junk_ (A : Option Addr) (l : List L) (c : Nat) (u : UInt8) (z : Int) (w : World) (hr : Rd w w.heap.size A (strs l)) (hl : l.length ≤ 1048576 ∧ ∀ x ∈ l, x.length ≤ 1048576) (_ : (Lit.int .i64 z).wf = true) :
    Calls Try.prog 12 #[.slice A l.length c, .int .u8 (u.toNat : Int), .int .i64 z] w fun e w' => e = .returned (.bool true) ∧ Below w.heap.size w w' := by
  rcases once_cases l with h | ⟨_, _, h⟩ | ⟨hall, h8, h⟩
  · exact junk_bad l A c u z w hr hl.1 hl.2 (by rw [h])
  · exact junk_bad l A c u z w hr hl.1 hl.2 (by rw [h])
  · by_cases h6 : 600 < sumL l
    · exact junk_large l A c u z w hr hl.1 hl.2 hall h8 h h6
    · have h6 : sumL l ≤ 600 := by omega
      by_cases h0 : (onceL l).length = 0
      · exact junk_none l A c u z w hr hl.1 hl.2 hall h8 h h6 h0
      · cases hu : capB u with
        | true => exact junk_cap l A c u z w hr hl.1 hl.2 hall h8 h h6 h0 hu
        | false =>
          by_cases e1 : u = 46
          · subst e1; exact junk_46 l A c z w hr hl.1 hl.2 hall h8 h h6 h0
          · by_cases e2 : u = 47
            · subst e2; exact junk_47 l A c z w hr hl.1 hl.2 hall h8 h h6 h0
            · by_cases e3 : u = 44
              · subst e3; exact junk_44 l A c z w hr hl.1 hl.2 hall h8 h h6 h0
              · by_cases e4 : u = 32
                · subst e4; exact junk_32 l A c z w hr hl.1 hl.2 hall h8 h h6 h0
                · have hj : junkB u = true := by simp [junkB, hu, e1, e2, e3, e4]
                  have hlh : u.toNat < 65 ∨ 90 < u.toNat := by
                    simp only [capB, Bool.and_eq_false_iff, decide_eq_false_iff_not] at hu
                    omega
                  rcases hlh with g | g
                  · exact junk_lo l A c u z w hr hl.1 hl.2 hall h8 h h6 h0 hj g
                  · exact junk_hi l A c u z w hr hl.1 hl.2 hall h8 h h6 h0 hj g
end Go.Proofs.Ytmgbhkhkbebfpaa.TrW
