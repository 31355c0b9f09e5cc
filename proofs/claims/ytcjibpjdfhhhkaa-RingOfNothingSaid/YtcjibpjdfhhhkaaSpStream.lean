/-
  The stream: a block's bytes are laid; Stream.
-/
import Derived.Test.YtcjibpjdfhhhkaaSpBlock
import Derived.Deep.CutBlock
set_option linter.unusedVariables false
namespace Go.Proofs.Ytcjibpjdfhhhkaa.Sp
open Go.RowKit Go.Proofs.Ytcjibpjdfhhhkaa.Mem

/-- n cells, of which the first m are the stream's -/
def scells (K : Nat → Wd) (up lo : Wd) (n m : Nat) : Array Value := ((List.range n).map fun i => if i < m then bv (sbyte K up lo i) else bv 0).toArray
theorem scells_at (K : Nat → Wd) (up lo : Wd) (n m i : Nat) (h : i < n) : (scells K up lo n m)[i]? = some (if i < m then bv (sbyte K up lo i) else bv 0) := by
  rw [scells, List.getElem?_toArray]; simp [h]
theorem scells_zero (K : Nat → Wd) (up lo : Wd) (n : Nat) : zeros n = scells K up lo n 0 := by
  unfold zeros scells
  congr 1
  apply List.ext_getElem?
  intro j
  rw [List.getElem?_map]
  rcases Nat.lt_or_ge j n with h | h
  · simp [h]
  · rw [List.getElem?_eq_none (by simpa using h), List.getElem?_eq_none (by simpa using h)]; rfl
theorem scells_set (K : Nat → Wd) (up lo : Wd) (n m : Nat) (h : m < n) : (scells K up lo n m).setIfInBounds m (bv (sbyte K up lo m)) = scells K up lo n (m + 1) := by
  unfold scells
  rw [List.setIfInBounds_toArray]
  congr 1
  apply List.ext_getElem?
  intro j
  rw [List.getElem?_set, List.getElem?_map, List.getElem?_map]
  by_cases hj : m = j
  · subst hj; simp [h]
  · rw [if_neg hj]
    rcases Nat.lt_or_ge j n with h2 | h2
    · have e : (j < m) = (j < m + 1) := propext ⟨by omega, by omega⟩
      simp [h2, e]
    · rw [List.getElem?_eq_none (by simpa using h2)]; rfl
theorem scells_all (K : Nat → Wd) (up lo : Wd) (n m : Nat) (h : n ≤ m) : scells K up lo n m = (bvs (strm K up lo n)).toArray := by
  unfold scells strm bvs
  rw [List.map_map]
  congr 1
  apply List.map_congr_left
  intro j hj
  rw [if_pos (by have := List.mem_range.1 hj; omega)]; rfl
theorem blk64_lt (K : Nat → Wd) (up lo : Wd) (i : Nat) : blk64 K up lo i < 18446744073709551616 := by
  have h1 := wd_lt (blockK K (up, lo + BitVec.ofNat 32 i)).1
  have h2 := wd_lt (blockK K (up, lo + BitVec.ofNat 32 i)).2
  unfold blk64; omega

set_option maxRecDepth 100000 in
set_option maxHeartbeats 1600000 in
theorem put_any (K : Nat → Wd) (up lo : Wd) (n j g c : Nat) (w : World) (h8 : 8 * j < n) (hn : n ≤ 2147483647) (hB : Blk w g 5 (scells K up lo n (8 * j))) :
    Calls Try.prog 53 #[.slice (some ⟨g, 8 * j, none⟩) (n - 8 * j) c, .int .u64 (blk64 K up lo j : Nat)] w fun e w' => e = .returned (.tuple #[]) ∧ Blk w' g 5 (scells K up lo n (min (8 * j + 8) n)) ∧ w.grownBy w' (some g) := by
  obtain ⟨X, eX⟩ : ∃ X, X = blk64 K up lo j := ⟨_, rfl⟩
  obtain ⟨L, eL⟩ : ∃ L, L = n - 8 * j := ⟨_, rfl⟩
  obtain ⟨M, eM⟩ : ∃ M, M = min L 8 := ⟨_, rfl⟩
  obtain ⟨o, eo⟩ : ∃ o, o = 8 * j := ⟨_, rfl⟩
  rw [← eX, ← eL, ← eo]
  rw [← eo] at hB
  have hX : X < 18446744073709551616 := eX ▸ blk64_lt K up lo j
  have hmin : min (L : Int) 8 = (M : Int) := by omega
  have EX := Lib.hid eX; clear eX
  have EL := Lib.hid eL; clear eL
  have EM := Lib.hid eM; clear eM
  have EO := Lib.hid eo; clear eo
  have HB := Lib.hid hB; clear hB
  have H8 := Lib.hid h8; clear h8
  have HN := Lib.hid hn; clear hn
  go_enter Try.func53, Try.ntmps53
  go_upto_region 0 with fail
  go_cut [7, 8] from 5 to 8 (fun mv zv wx => mv = .int .i64 (M : Int) ∧ zv = .int .i64 0 ∧ wx = w)
  case first =>
    go_wp2_with fail
    all_goals go_meet
    all_goals exact ⟨congrArg (Value.int .i64) (by omega), rfl, rfl⟩
  obtain ⟨rfl, rfl, rfl⟩ := hcut
  clear hmin
  go_wp2_with fail
  go_loopw [8] (fun iv wr => ∃ i : Nat, i ≤ M ∧ iv = .int .i64 (i : Int) ∧ Blk wr g 5 (scells K up lo n (o + i)) ∧ wc.grownBy wr (some g)) (fun iv _ => M - (intOf iv).toNat)
  case atStart => exact ⟨0, Nat.zero_le _, rfl, HB.out, World.grownBy.refl _ _⟩
  case round =>
    obtain ⟨i, hi, rfl, hB, hg⟩ := hrel
    by_cases hM : i = M
    · have e1 : decide ((i : Int) < (M : Int)) = false := by simp; omega
      have e2 : ¬ i < M := by omega
      have HB1 := Lib.hid hB; clear hB
      have HG1 := Lib.hid hg; clear hg
      have HM := Lib.hid hM; clear hM
      go_wp2_with fail
      go_end0
      refine ⟨rfl, ?_, HG1.out⟩
      have e : o + i = min (o + 8) n := by have := EM.out; have := EL.out; have := EO.out; have := H8.out; have := HM.out; omega
      rw [← e]
      exact HB1.out
    · have e1 : (i : Int) < (M : Int) := by omega
      have e2 : i < M := by omega
      have e3 : i < L := by have := EM.out; omega
      have e4 : (i : Int) < (L : Int) := by omega
      have e5 : (0 : Int) ≤ (i : Int) := by omega
      have e6 : i < 8 := by have := EM.out; omega
      have hon : o + i < n := by have := EM.out; have := EL.out; have := EO.out; omega
      have hy := hB.cell (o + i)
      rw [scells_at _ _ _ _ _ _ hon, if_neg (by omega)] at hy
      simp only [bv] at hy
      have fz := hB.frozen
      have HB1 := Lib.hid hB; clear hB
      have HG1 := Lib.hid hg; clear hg
      clear hM
      go_wp2_with fail
      go_roundw
      case rel =>
        refine ⟨i + 1, by omega, by go_num, ?_, g_set HG1.out (.inl rfl) _⟩
        have hs := HB1.out.set (o + i) (bv (sbyte K up lo (o + i)))
        rw [scells_set K up lo n (o + i) hon] at hs
        have hv : bv (sbyte K up lo (o + i)) = .int .u8 ((X : Int) / 2 ^ (8 * i) % 256) := by
          have q1 : (o + i) / 8 = j := by have := EO.out; omega
          have q2 : (o + i) % 8 = i := by have := EO.out; omega
          have q3 : (2 : Nat) ^ (8 * i) = 256 ^ i := by rw [Nat.pow_mul]
          unfold bv sbyte
          rw [q1, q2, ← EX.out, UInt8.toNat_ofNat', ← q3]
          congr 1
        rw [hv] at hs
        exact hs
      case measure => simp [intOf]; omega

theorem stream_nil (b : Option Addr) (N : Int) (n : Int) (w : World) (h : b = none ∨ n < 1) :
    Calls Try.prog 40 #[.pointer b, .int .u64 N, .int .i64 n] w fun e w' => e = .returned (.slice none 0 0) ∧ w' = w := by
  by_cases hb : b = none
  · subst hb
    clear h
    go_enter Try.func40, Try.ntmps40
    go_wp2
    go_ret
    exact ⟨rfl, rfl⟩
  · have hn : n < 1 := h.resolve_left hb
    have e1 : decide (n < 1) = true := by simpa using hn
    cases b with
    | none => exact absurd rfl hb
    | some a =>
      clear hb h
      go_enter Try.func40, Try.ntmps40
      go_wp2
      go_ret
      exact ⟨rfl, rfl⟩

theorem u8_info : (Try.prog.info? 5).map (fun i => (i.zero, i.size, i.bytes)) = some (some (.int .u8 0), 1, 1) := by kernel_rfl
def upW (N : Nat) : Wd := BitVec.ofNat 32 (N / 4294967296)
def loW (N : Nat) : Wd := BitVec.ofNat 32 N
theorem blk64_or (x y : Wd) : bits .or .u64 ((y.toNat : Int) * 4294967296 % 18446744073709551616) (x.toNat : Int) = ((x.toNat + 4294967296 * y.toNat : Nat) : Int) := by
  have hx := wd_lt x; have hy := wd_lt y
  have e : (y.toNat : Int) * 4294967296 % 18446744073709551616 = ((y.toNat * 4294967296 : Nat) : Int) := by omega
  rw [e, u64_or_nat _ _ (by omega) (by omega), nat_join 32 (y.toNat * 4294967296) x.toNat (by omega) (by omega)]
  omega
set_option maxRecDepth 100000 in
set_option maxHeartbeats 1600000 in
theorem stream_any (b : Nat) (ks : Nat → UInt8) (m : Bool) (N n : Nat) (nv : Int) (w : World) (hnv : nv = (n : Int)) (hn1 : 1 ≤ n) (hn2 : n ≤ 1000000) (hN : N < 18446744073709551616) (hK : Key w b ks m) :
    Calls Try.prog 40 #[.pointer (some ⟨b, 0, none⟩), .int .u64 (N : Int), .int .i64 nv] w fun e w' => ∃ g, e = .returned (.slice (some ⟨g, 0, none⟩) n n) ∧ w.heap.size ≤ g ∧
      Blk w' g 5 (bvs (strm (kw ks) (upW N) (loW N) n)).toArray ∧ Key w' b ks true ∧ w.grownBy w' (some b) ∧ (m = true → Below w.heap.size w w') := by
  subst hnv
  have cn := need_any b ks m w hK
  have hblt := hK.lt
  have i1 : decide ((n : Int) < 1) = false := by simp; omega
  have i2 : decide (2147483647 < (n : Int)) = false := by simp; omega
  have i3 : ¬ (n : Int) < 1 := by omega
  have i4 : ¬ 2147483647 < (n : Int) := by omega
  have hup : (N : Int) / 4294967296 % 4294967296 = ((upW N).toNat : Int) := by rw [upW, BitVec.toNat_ofNat]; omega
  have hlo : (N : Int) % 4294967296 = ((loW N).toNat : Int) := by rw [loW, BitVec.toNat_ofNat]; omega
  obtain ⟨up, eup⟩ : ∃ up, up = upW N := ⟨_, rfl⟩
  obtain ⟨lo, elo⟩ : ∃ lo, lo = loW N := ⟨_, rfl⟩
  rw [← eup] at hup
  rw [← elo] at hlo
  rw [← eup, ← elo]
  obtain ⟨it, hi0, hz0, hs0, hb0⟩ := info_parts u8_info
  have hmk := fun W => run_make_bytes (P := Try.prog) (t := 34) (e := 5) Try.underlying34 hi0 hz0 hs0 hb0 (n : Int) n rfl (by omega) W
  have N1 := Lib.hid hn1; clear hn1
  have N2 := Lib.hid hn2; clear hn2
  have BL := Lib.hid hblt; clear hblt
  clear hK hN eup elo
  go_enter Try.func40, Try.ntmps40
  go_wp2_with (first | (go_at_call 51; refine Calls.mono cn ?_; rintro e w2 ⟨rfl, hK2, hg2, he2⟩; have HK2 := Lib.hid hK2; clear hK2; have HG2 := Lib.hid hg2; clear hg2; have HE2 := Lib.hid he2; clear he2))
  rw [hup, hlo]
  clear hup hlo
  obtain ⟨g, eg⟩ : ∃ g, g = w2.heap.size := ⟨_, rfl⟩
  rw [← eg]
  have EG := Lib.hid eg; clear eg
  go_loopw [9, 10] (fun lv iv wr => ∃ j : Nat, 8 * j < n + 8 ∧ iv = .int .i64 ((8 * j : Nat) : Int) ∧ lv = wv (lo + BitVec.ofNat 32 j) ∧ Blk wr g 5 (scells (kw ks) up lo n (min (8 * j) n)) ∧ Below g w2 wr) (fun _ iv _ => n + 8 - (intOf iv).toNat)
  case atStart =>
    refine ⟨0, by omega, rfl, ?_, ?_, ?_⟩
    · show Value.int .u32 _ = _
      simp
    · have := scells_zero (kw ks) up lo n
      rw [show min (8 * 0) n = 0 by omega, ← this, EG.out]
      exact Blk.new w2 _ _
    · rw [EG.out]; exact (Below.refl _ _).alloc (Nat.le_refl _) _
  case round =>
    obtain ⟨j, hj, rfl, rfl, hB, hb⟩ := hrel
    obtain ⟨o, eo⟩ : ∃ o, o = 8 * j := ⟨_, rfl⟩
    rw [← eo] at hB hj ⊢
    obtain ⟨l0, el0⟩ : ∃ l0, l0 = lo + BitVec.ofNat 32 j := ⟨_, rfl⟩
    rw [← el0]
    by_cases hd : n ≤ o
    · have e1 : decide ((o : Int) < (n : Int)) = false := by simp; omega
      have e2 : ¬ o < n := by omega
      have HB1 := Lib.hid hB; clear hB
      have HB2 := Lib.hid hb; clear hb
      clear hj hd el0
      go_wp2_with fail
      go_ret
      have hKE : Key wr b ks true := HK2.out.below (EG.out ▸ HB2.out)
      have hgE : w.grownBy wr (some b) := g_then HG2.out (EG.out ▸ HB2.out)
      refine ⟨g, rfl, ?_, ?_, hKE, hgE, ?_⟩
      · rw [EG.out]; exact HG2.out.size
      · have := HB1.out
        rw [Nat.min_eq_right (by omega), scells_all _ _ _ _ _ (Nat.le_refl _)] at this
        exact this
      · intro hm
        have h2 := HE2.out hm
        subst h2
        exact EG.out ▸ HB2.out
    · have e1 : (o : Int) < (n : Int) := by omega
      have e2 : o < n := by omega
      have e3 : (0 : Int) ≤ (o : Int) := by omega
      have e4 : (o : Int) ≤ (n : Int) := by omega
      have e5 : o ≤ n := by omega
      obtain ⟨x0, ex⟩ : ∃ x0, x0 = (blockK (kw ks) (up, l0)).1 := ⟨_, rfl⟩
      obtain ⟨y0, ey⟩ : ∃ y0, y0 = (blockK (kw ks) (up, l0)).2 := ⟨_, rfl⟩
      obtain ⟨l1, el1⟩ : ∃ l1, l1 = lo + BitVec.ofNat 32 (j + 1) := ⟨_, rfl⟩
      have hX : blk64 (kw ks) up lo j = x0.toNat + 4294967296 * y0.toNat := by rw [blk64, ← el0, ← ex, ← ey]
      obtain ⟨X, eX⟩ : ∃ X : Nat, X = blk64 (kw ks) up lo j := ⟨_, rfl⟩
      have hKr : Key wr b ks true := HK2.out.below (EG.out ▸ hb)
      have ct := turn_any b ks up l0 wr hKr
      rw [← ex, ← ey] at ct
      have hBo : Blk wr g 5 (scells (kw ks) up lo n (8 * j)) := by rw [Nat.min_eq_left e5, eo] at hB; exact hB
      have cp := put_any (kw ks) up lo n j g (n - 8 * j) wr (eo ▸ e2) (by have := N2.out; omega) hBo
      rw [← eo, ← eX] at cp
      have cy : (y0.toNat : Int) % 18446744073709551616 = (y0.toNat : Int) := by have := wd_lt y0; omega
      have cx : (x0.toNat : Int) % 18446744073709551616 = (x0.toNat : Int) := by have := wd_lt x0; omega
      have cor : bits .or .u64 ((y0.toNat : Int) * 4294967296 % 18446744073709551616) (x0.toNat : Int) = (X : Int) := by rw [eX, hX]; exact blk64_or x0 y0
      have cor2 : bits .or .u64 ((y0.toNat : Int) * 4294967296) (x0.toNat : Int) = (X : Int) := by
        have hm : (y0.toNat : Int) * 4294967296 % 18446744073709551616 = (y0.toNat : Int) * 4294967296 := by have := wd_lt y0; omega
        rw [← hm]; exact cor
      have cl : ((l0.toNat : Int) + 1) % 4294967296 = (l1.toNat : Int) := by
        rw [el1, el0, BitVec.toNat_add, BitVec.toNat_add, BitVec.toNat_ofNat, BitVec.toNat_ofNat]; omega
      have HB1 := Lib.hid hB; clear hB
      have HB2 := Lib.hid hb; clear hb
      have HX := Lib.hid eX; clear eX
      have HL1 := Lib.hid el1; clear el1
      have HO := Lib.hid eo; clear eo
      have HO2 := Lib.hid e5
      clear hX hKr hBo ex ey el0 hj hd
      go_wp2_with (first | (go_at_call 52; refine Calls.mono ct ?_; rintro e w' ⟨rfl, rfl⟩) | (go_at_call 53; refine Calls.mono cp ?_; rintro e w3 ⟨rfl, hb3, hg3⟩; have HB3 := Lib.hid hb3; clear hb3; have HG3 := Lib.hid hg3; clear hg3))
      go_roundw
      case rel =>
        refine ⟨j + 1, by have := HO.out; omega, ?_, by rw [← HL1.out]; exact congrArg (Value.int .u32) cl, ?_, ?_⟩
        · exact congrArg (Value.int .i64) (by have := HO.out; omega)
        · have := HB3.out
          rw [show o + 8 = 8 * (j + 1) by have := HO.out; omega] at this
          exact this
        · exact Below.grown HB2.out HG3.out (by rw [EG.out]; exact HB2.out.size) (fun k hk => by injection hk with hk; omega)
      case measure => have := HO.out; simp [intOf]; omega
end Go.Proofs.Ytcjibpjdfhhhkaa.Sp
