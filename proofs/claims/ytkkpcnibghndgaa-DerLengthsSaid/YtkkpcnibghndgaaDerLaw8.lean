/-
  The walk of the law on lengths: a length is written in the shortest way; longer ways and what is cut are errors.
-/
import Derived.Test.YtkkpcnibghndgaaDerGood
import Derived.Lib.AppendZerosOnto
set_option linter.unusedVariables false
namespace Go.Proofs.Ytkkpcnibghndgaa.DerL
open Go.RowKit Go.Proofs.Ytkkpcnibghndgaa.Mem Go.Proofs.Ytkkpcnibghndgaa.DerP

/-- so many bytes of nothing -/
def zl (n : Nat) : L := List.replicate n 0
theorem zl_len (n : Nat) : (zl n).length = n := by simp [zl]
theorem bvs_zl (n : Nat) : bvs (zl n) = List.replicate n (bv 0) := by simp [bvs, zl]
theorem zeros_zl (n : Nat) : zeros n = (bvs (zl n)).toArray := by rw [bvs_zl]; rfl
theorem zeroCells_one (n : Nat) : Builtin.zeroCells (Value.int .u8 0).cells n = (bvs (zl n)).toArray := by
  rw [bvs_zl, show (Value.int .u8 0).cells = #[Value.int .u8 0] from rfl]
  apply Array.ext
  · simp [Builtin.zeroCells]
  · intro i h1 h2
    simp [Builtin.zeroCells, bv, Nat.mod_one]
theorem and_mask (n : Int) : bits .and .i64 n 65535 = n % 65536 := by
  have h127 : (BitVec.ofInt 64 65535).toNat = 2 ^ 16 - 1 := by decide
  have key : (BitVec.ofInt 64 n &&& BitVec.ofInt 64 65535).toNat = (n % ((2 ^ 64 : Nat) : Int)).toNat % 2 ^ 16 := by
    rw [BitVec.toNat_and, BitVec.toNat_ofInt, h127, Nat.and_two_pow_sub_one_eq_mod]
  show IntKind.i64.wrap ((BitVec.ofInt 64 n &&& BitVec.ofInt 64 65535).toNat : Nat) = n % 65536
  rw [key, IntKind.wrap_i64]
  omega
theorem size1_u8 : ∀ w : World, (sizeOf 5).run Try.prog w = .ok 1 w := fun w => by kernel_rfl
theorem run_cut_to_ {P : Program} {t e : TypeId} (ht : P.underlying t = some (.slice e)) (hz : ∀ w : World, (sizeOf e).run P w = .ok 1 w) (q n d k : Nat) (K : Int) (hK : K = (k : Int)) (hk : k ≤ d) (w : World) :
    (Instr.slice t (.slice (some ⟨q, 0, none⟩) n d) none (some (.int .i64 K)) none).run P w = .ok (.slice (some ⟨q, 0, none⟩) k d) w := by
  subst hK
  by_cases hd : d = 0
  · have hk0 : k = 0 := by omega
    simp [Instr.slice, run_underlying ht, Instr.sliceBounds, run_sliceBound, hz, Result.andThen, hd, hk0]
  · simp [Instr.slice, run_underlying ht, Instr.sliceBounds, run_sliceBound, hz, Result.andThen, addr_add, hd, (by omega : (k : Int) ≤ (d : Int))]
theorem run_cut_to (q n d k : Nat) (K : Int) (hK : K = (k : Int)) (hk : k ≤ d) (w : World) :
    (Instr.slice 22 (.slice (some ⟨q, 0, none⟩) n d) none (some (.int .i64 K)) none).run Try.prog w = .ok (.slice (some ⟨q, 0, none⟩) k d) w := run_cut_to_ Try.underlying22 size1_u8 q n d k K hK hk w
theorem rd_take' {w : World} {B q : Nat} {l : L} (h : Rd w B (some ⟨q, 0, none⟩) (bvs l)) (m : Nat) : Rd w B (some ⟨q, 0, none⟩) (bvs (l.take m)) := by
  rcases h with h | ⟨b, o, h1, h2, h3⟩
  · have : l = [] := List.map_eq_nil_iff.1 h
    subst this
    exact .inl (by simp [bvs])
  · refine .inr ⟨b, o, h1, h2, fun i u hu => h3 i u ?_⟩
    by_cases hi : i < m
    · rw [← hu]; simp only [bvs, List.getElem?_map, List.getElem?_take, if_pos hi]
    · rw [List.getElem?_eq_none (by rw [bvs_length, List.length_take]; omega)] at hu; cases hu

/-- the long way to write a length -/
def longL (n : Nat) : L := 4 :: 130 :: UInt8.ofNat (n / 256) :: UInt8.ofNat n :: zl n
theorem long_len (n : Nat) : (longL n).length = n + 4 := by simp [longL, zl_len]
theorem long_good (n : Nat) (h : ¬ n ≤ 255) : longL n = elem 4 (zl n) ++ [] := by
  have h1 : ¬ n < 128 := by omega
  simp [longL, elem, zl_len, szL, h, h1]
theorem long_bad (n : Nat) (h : n ≤ 255) : bodyC 4 (some (longL n)) = none := by
  refine (body_none ?_).1
  have e1 : (UInt8.ofNat (n / 256)).toNat = 0 := by simp; omega
  have e2 : (UInt8.ofNat n).toNat = n := by simp; omega
  have h3 := lenR_130 (a := 130) (b := UInt8.ofNat (n / 256)) (c := UInt8.ofNat n) (r := zl n) (by decide)
  rw [e1, e2] at h3
  show splitL 4 (4 :: 130 :: UInt8.ofNat (n / 256) :: UInt8.ofNat n :: zl n) = none
  rw [splitL, h3]
  refine if_neg fun hh => ?_
  have := hh.2.1
  simp at this
  omega
theorem cut_bad (n k : Nat) (h : n ≤ 3000) (hk : k < (elem 4 (zl n)).length) : bodyC 4 (some ((elem 4 (zl n)).take k)) = none :=
  (body_none (split_cut 4 (zl n) (by rw [zl_len]; omega) k hk)).1

theorem octets_bad (g : Nat) (l : L) (w : World) (hb : bodyC 4 (some l) = none) (hl : l.length ≤ 100000) (h : DerC.Cur w g (some l)) :
    Calls Try.prog 26 #[.pointer (some ⟨g, 0, none⟩)] w fun e w' =>
      (∃ b cap, e = .returned (.slice (some ⟨b, 0, none⟩) 0 cap)) ∧ DerC.Cur w' g none ∧ w.grownBy w' (some g) := by
  refine (DerC.octets_any g _ w h (by simp only [Option.getD_some]; omega)).mono ?_
  rw [hb, body_next 4 _ hb]
  rintro e w' ⟨⟨b, cap, rfl, _⟩, hc, hg⟩
  exact ⟨⟨b, cap, rfl⟩, hc, hg⟩
theorem octets_zl (g n : Nat) (w : World) (hn : n ≤ 3000) (h : DerC.Cur w g (some (elem 4 (zl n) ++ []))) :
    Calls Try.prog 26 #[.pointer (some ⟨g, 0, none⟩)] w fun e w' =>
      (∃ b cap, e = .returned (.slice (some ⟨b, 0, none⟩) n cap)) ∧ DerC.Cur w' g (some []) ∧ w.grownBy w' (some g) := by
  refine (octets_good g (zl n) [] w (by rw [zl_len]; omega) (by simp) h).mono ?_
  rw [zl_len]
  rintro e w' ⟨⟨b, cap, rfl, _⟩, hc, hg⟩
  exact ⟨⟨b, cap, rfl⟩, hc, hg⟩
theorem good_none (g : Nat) (w : World) (h : DerC.Cur w g none) : Calls Try.prog 32 #[.pointer (some ⟨g, 0, none⟩)] w fun e w' => e = .returned (.bool false) ∧ w = w' := DerC.good_any g _ w h
theorem lay_zl (n H : Nat) (hn : n ≤ 3000) (hH : (elem 4 (zl n)).length = n + H) (w : World) :
    Calls Try.prog 16 #[.slice (some ⟨w.heap.size, 0, none⟩) n n] (w.alloc (.cells (zeros n) 5)) fun e w' =>
      (∃ q d, e = .returned (.slice (some ⟨q, 0, none⟩) (n + H) d) ∧ n + H ≤ d ∧ Rd w' w'.heap.size (some ⟨q, 0, none⟩) (bvs (elem 4 (zl n)))) ∧ Below w.heap.size w w' := by
  have hrd : Rd (w.alloc (.cells (zeros n) 5)) (w.heap.size + 1) (some ⟨w.heap.size, 0, none⟩) (bvs (zl n)) := by
    refine .inr ⟨w.heap.size, 0, rfl, by omega, fun i u hu => ?_⟩
    rw [(Blk.new w 5 (zeros n)).cell, zeros_zl, Nat.zero_add]
    simpa using hu
  refine (DerW.octets_any (zl n) _ n n (w.heap.size + 1) _ hrd (zl_len n).symm (by simp) (by rw [zl_len]; omega)).mono ?_
  rintro e w' ⟨v, rfl, hown, hb⟩
  obtain ⟨q, d, rfl, _, hd, hr⟩ := DerK.own_slice hown (by rw [length_elem]; omega)
  rw [hH] at hd
  exact ⟨⟨q, d, by rw [hH], hd, hr⟩, ((Below.refl w.heap.size w).alloc (Nat.le_refl _) _).trans (hb.mono (by simp))⟩

theorem cells_long (n m : Nat) (t : TypeId) (w : World) : Rd (w.alloc (.cells ((bvs [4, 130, UInt8.ofNat (n / 256), UInt8.ofNat n]).toArray ++ (bvs (zl n)).toArray ++ (bvs (zl m)).toArray) t)) (w.heap.size + 1) (some ⟨w.heap.size, 0, none⟩) (bvs (longL n)) := by
  refine .inr ⟨w.heap.size, 0, rfl, by omega, fun i u hu => ?_⟩
  rw [(Blk.new w t _).cell, Nat.zero_add]
  have e : bvs (longL n) = bvs [4, 130, UInt8.ofNat (n / 256), UInt8.ofNat n] ++ bvs (zl n) := by rw [← bvs_append]; rfl
  rw [e] at hu
  have hi := (List.getElem?_eq_some_iff.1 hu).1
  rw [← Array.getElem?_toList]
  simp only [Array.toList_append, List.append_assoc]
  rw [← List.append_assoc, List.getElem?_append_left hi, hu]
theorem app_long (n : Nat) (hn : n ≤ 3000) (w : World) (x y : Int) (hx : x = (n : Int) / 256) (hy : y = (n : Int) % 256) (ty : TypeId) :
    ∃ q d W', (Builtin.append_ #[22, 3] ty #[.slice (some ⟨w.heap.size, 0, none⟩) 4 4, .int .i64 (n : Int)]).run Try.prog (w.alloc (.cells #[.int .u8 4, .int .u8 130, .int .u8 x, .int .u8 y] 5)) = .ok (.slice (some ⟨q, 0, none⟩) (n + 4) d) W' ∧
      Rd W' W'.heap.size (some ⟨q, 0, none⟩) (bvs (longL n)) ∧ Below w.heap.size w W' := by
  obtain ⟨i0, hi0, hz0, hs0, hb0⟩ := info_parts DerW.u8_info
  have hcs : (#[.int .u8 4, .int .u8 130, .int .u8 x, .int .u8 y] : Array Value) = (bvs [4, 130, UInt8.ofNat (n / 256), UInt8.ofNat n]).toArray := by
    subst hx hy
    simp [bvs, bv]; omega
  rw [hcs]
  have hb1 : Below w.heap.size w (w.alloc (.cells (bvs [4, 130, UInt8.ofNat (n / 256), UInt8.ofNat n]).toArray 5)) := (Below.refl w.heap.size w).alloc (Nat.le_refl _) _
  by_cases h0 : n = 0
  · subst h0
    refine ⟨w.heap.size, 4, _, ?_, ?_, hb1⟩
    · simp [Builtin.append_, run_underlying Try.underlying22, run_underlying Try.underlying3, sizeOf, typeInfo, zeroValue, hi0, hz0, asInt, asIntOf, IntKind.wrap_i64, Question.forced, Builtin.lenOf, Builtin.firstCells, storeCells]
    · have := cells_long 0 0 5 w
      have e : (bvs (zl 0)).toArray = #[] := rfl
      rw [e, Array.append_empty, Array.append_empty] at this
      exact this.more (by simp)
  · have hold : (Builtin.firstCells i0.size 4 (.slice (some ⟨w.heap.size, 0, none⟩) 4 4)).run Try.prog (w.alloc (.cells (bvs [4, 130, UInt8.ofNat (n / 256), UInt8.ofNat n]).toArray 5)).drew = .ok (bvs [4, 130, UInt8.ofNat (n / 256), UInt8.ofNat n]).toArray (w.alloc (.cells (bvs [4, 130, UInt8.ofNat (n / 256), UInt8.ofNat n]).toArray 5)).drew := by
      refine run_firstCells_some _ i0.size 4 _ 4 4 (bvs [4, 130, UInt8.ofNat (n / 256), UInt8.ofNat n]) (by rw [hs0]; rfl) fun j v hv => ?_
      rw [addr_add, Nat.zero_add]
      refine ((Blk.new w 5 (bvs [4, 130, UInt8.ofNat (n / 256), UInt8.ofNat n]).toArray).cell j).trans ?_
      simpa using hv
    have h := Lib.run_append_grow_zeros (P := Try.prog) (w.alloc (.cells (bvs [4, 130, UInt8.ofNat (n / 256), UInt8.ofNat n]).toArray 5)) 22 3 ty 5 i0 _ .i64 .i64 Try.underlying22 Try.underlying3 hi0 hz0 (some ⟨w.heap.size, 0, none⟩) 4 4 _ hold n (by omega) (by omega) (by omega) (by omega) (by rw [hb0]; omega) (growslice_fits (by omega) (by rw [hb0]; omega))
    rw [zeroCells_one, zeroCells_one, Nat.add_comm 4 n] at h
    refine ⟨_, _, _, h, ?_, ?_⟩
    · have := cells_long n (grownCap (w.alloc (.cells (bvs [4, 130, UInt8.ofNat (n / 256), UInt8.ofNat n]).toArray 5)) (n + 4) 4 5 - (n + 4)) 5 (w.alloc (.cells (bvs [4, 130, UInt8.ofNat (n / 256), UInt8.ofNat n]).toArray 5)).drew
      exact this.more (by simp)
    · exact (below_drewN hb1 1).alloc hb1.size _

theorem head_of (n : Nat) : (elem 4 (zl n)).length = n + (if n < 128 then 2 else if n ≤ 255 then 3 else 4) := by
  rw [length_elem, length_szL, zl_len]
  split <;> (try split) <;> omega

set_option maxRecDepth 100000 in
theorem lengths_out (n cut : Int) (w : World) (h : n < 0 ∨ 3000 < n) :
    Calls Try.prog 7 #[.int .i64 n, .int .i64 cut] w fun e w' => e = .returned (.bool true) ∧ Below w.heap.size w w' := by
  by_cases h1 : n < 0
  · have g1 : decide (n < 0) = true := by simpa using h1
    clear h h1
    go_enter Try.func7, Try.ntmps7
    go_wp2
    go_ret
    exact ⟨rfl, Below.refl _ _⟩
  · have g1 : decide (n < 0) = false := by simpa using h1
    have g2 : decide (3000 < n) = true := by
      have : 3000 < n := by omega
      simpa using this
    clear h h1
    go_enter Try.func7, Try.ntmps7
    go_wp2
    go_ret
    exact ⟨rfl, Below.refl _ _⟩

end Go.Proofs.Ytkkpcnibghndgaa.DerL
