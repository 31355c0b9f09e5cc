/-
  The Sum of rows, the code's.
-/
import Derived.Test.YtcjibpjdfhhhkaaSiBegin
set_option linter.unusedVariables false
namespace Go.Proofs.Ytcjibpjdfhhhkaa.Si
open Go.RowKit Go.Proofs.Ytcjibpjdfhhhkaa.Mem

/-- a slice of byte slices that reads so, all below block B -/
def Rows (w : World) (B : Nat) (A : Option Addr) (rows : List (List UInt8)) : Prop :=
  ∃ vs : List Value, vs.length = rows.length ∧ Rd w B A vs ∧ ∀ i (h : i < rows.length), ∃ (Ai : Option Addr) (ci : Nat), vs[i]? = some (.slice Ai (rows[i]).length ci) ∧ Rd w B Ai (bvs rows[i])
theorem Rows.below {w w' : World} {B : Nat} {A : Option Addr} {rows : List (List UInt8)} (h : Rows w B A rows) (hb : Below B w w') : Rows w' B A rows := by
  obtain ⟨vs, h1, h2, h3⟩ := h
  refine ⟨vs, h1, h2.below hb, fun i hi => ?_⟩
  obtain ⟨Ai, ci, h4, h5⟩ := h3 i hi
  exact ⟨Ai, ci, h4, h5.below hb⟩
theorem Rows.more {w : World} {B B' : Nat} {A : Option Addr} {rows : List (List UInt8)} (h : Rows w B A rows) (hB : B ≤ B') : Rows w B' A rows := by
  obtain ⟨vs, h1, h2, h3⟩ := h
  refine ⟨vs, h1, h2.more hB, fun i hi => ?_⟩
  obtain ⟨Ai, ci, h4, h5⟩ := h3 i hi
  exact ⟨Ai, ci, h4, h5.more hB⟩
def flat (rows : List (List UInt8)) : List UInt8 := rows.flatten
theorem flat_next (rows : List (List UInt8)) (i : Nat) (h : i < rows.length) : flat (rows.take (i + 1)) = flat (rows.take i) ++ rows[i] := by
  unfold flat
  rw [List.take_succ_eq_append_getElem h, List.flatten_append]; simp
theorem flat_le (rows : List (List UInt8)) (i : Nat) : (flat (rows.take i)).length ≤ (flat rows).length := by
  have h : rows = rows.take i ++ rows.drop i := (List.take_append_drop i rows).symm
  have h2 : flat rows = flat (rows.take i) ++ flat (rows.drop i) := by
    unfold flat
    rw [← List.flatten_append, List.take_append_drop]
  rw [h2, List.length_append]; omega
def stcOf (ks : Nat → UInt8) (l : List UInt8) : Array Value := stc (stOf ks l)
theorem addByte_of (g : Nat) (ks : Nat → UInt8) (l : List UInt8) (y : UInt8) (w : World) (hn : l.length < 100000) (hB : Blk w g 113 (stcOf ks l)) :
    Calls Try.prog 55 #[.pointer (some ⟨g, 0, none⟩), .int .u8 (y.toNat : Int)] w fun e w' => e = .returned (.tuple #[]) ∧ Blk w' g 113 (stcOf ks (l ++ [y])) ∧ w.grownBy w' (some g) := by
  have h := addByte_any g (stOf ks l) y w (by rw [stOf_n]; exact hn) (stOf_r ks l) hB
  rw [← stOf_snoc] at h
  exact h
theorem end_of (g : Nat) (ks : Nat → UInt8) (l : List UInt8) (w : World) (hB : Blk w g 113 (stcOf ks l)) :
    Calls Try.prog 56 #[.pointer (some ⟨g, 0, none⟩)] w fun e w' => e = .returned (wv (sumOf ks l)) ∧ w.grownBy w' (some g) :=
  end_any g (stOf ks l) w (Nat.lt_of_lt_of_le (stOf_r ks l) (pow_8 _ (by omega))) hB

theorem take_snoc (l : List UInt8) (j : Nat) (h : j < l.length) : l.take (j + 1) = l.take j ++ [l[j]] := List.take_succ_eq_append_getElem h
set_option maxRecDepth 100000 in
set_option maxHeartbeats 3200000 in
theorem sum_any (ks : Nat → UInt8) (A : Option Addr) (n c : Nat) (rows : List (List UInt8)) (w : World) (hn : n = rows.length) (hn5 : n ≤ 100000) (hl : (flat rows).length < 100000) (hr : Rows w w.heap.size A rows) :
    Calls Try.prog 41 #[.agg (key16 ks), .slice A n c] w fun e w' => e = .returned (wv (sumOf ks (flat rows))) ∧ Below w.heap.size w w' := by
  obtain ⟨vs, hv, hrd, hrows⟩ := hr
  obtain ⟨B, eB⟩ : ∃ B, B = w.heap.size := ⟨_, rfl⟩
  rw [← eB] at hrd hrows
  have EB := Lib.hid eB
  have HRD := Lib.hid hrd; clear hrd
  have HROWS := Lib.hid hrows; clear hrows
  have HN := Lib.hid hn; clear hn
  have e5 : (n : Int) ≤ 100000 := by omega
  clear hn5
  have HL := Lib.hid hl; clear hl
  have HV := Lib.hid hv; clear hv
  have hk : key16 ks = #[.int .u8 ((ks 0).toNat : Int), .int .u8 ((ks 1).toNat : Int), .int .u8 ((ks 2).toNat : Int), .int .u8 ((ks 3).toNat : Int), .int .u8 ((ks 4).toNat : Int), .int .u8 ((ks 5).toNat : Int), .int .u8 ((ks 6).toNat : Int), .int .u8 ((ks 7).toNat : Int), .int .u8 ((ks 8).toNat : Int), .int .u8 ((ks 9).toNat : Int), .int .u8 ((ks 10).toNat : Int), .int .u8 ((ks 11).toNat : Int), .int .u8 ((ks 12).toNat : Int), .int .u8 ((ks 13).toNat : Int), .int .u8 ((ks 14).toNat : Int), .int .u8 ((ks 15).toNat : Int)] := rfl
  have cb := begin_any ks
  rw [hk] at cb ⊢
  have hs : stc ⟨start ks, 0, 0⟩ = #[wv (start ks).a, wv (start ks).b, wv (start ks).c, wv (start ks).d, .int .u64 0, .int .u64 0] := rfl
  rw [hs] at cb
  have hs0 : stcOf ks [] = #[wv (start ks).a, wv (start ks).b, wv (start ks).c, wv (start ks).d, .int .u64 0, .int .u64 0] := rfl
  obtain ⟨p0, e0⟩ : ∃ x, x = (start ks).a := ⟨_, rfl⟩
  obtain ⟨p1, e1⟩ : ∃ x, x = (start ks).b := ⟨_, rfl⟩
  obtain ⟨p2, e2⟩ : ∃ x, x = (start ks).c := ⟨_, rfl⟩
  obtain ⟨p3, e3⟩ : ∃ x, x = (start ks).d := ⟨_, rfl⟩
  rw [← e0, ← e1, ← e2, ← e3] at hs0 cb
  have HS0 := Lib.hid hs0; clear hs0
  clear hk hs e0 e1 e2 e3
  go_enter Try.func41, Try.ntmps41
  go_upto_region 2 with (go_at_call 54; refine Calls.mono (cb _) ?_; rintro e w1 ⟨rfl, hb1⟩; have hW1 : Below w.heap.size w w1 := ((Below.refl w.heap.size w).alloc (Nat.le_refl _) _).trans (hb1.mono (by simp)); have HW1 := Lib.hid hW1; clear hW1 hb1 cb)
  clear eB
  obtain ⟨g, eg⟩ : ∃ g, g = w1.heap.size := ⟨_, rfl⟩
  have hB0 : Blk (w1.alloc (.cells #[.int .u64 (p0.toNat : Int), .int .u64 (p1.toNat : Int), .int .u64 (p2.toNat : Int), .int .u64 (p3.toNat : Int), .int .u64 0, .int .u64 0] 113)) g 113 (stcOf ks []) := Blk.new_of w1 g _ _ _ HS0.out.symm eg.symm
  have hW0 : Below B w (w1.alloc (.cells #[.int .u64 (p0.toNat : Int), .int .u64 (p1.toNat : Int), .int .u64 (p2.toNat : Int), .int .u64 (p3.toNat : Int), .int .u64 0, .int .u64 0] 113)) := by rw [EB.out]; exact HW1.out.alloc HW1.out.size _
  have hg : B ≤ g := by rw [eg, EB.out]; exact HW1.out.size
  rw [← eg]
  generalize w1.alloc (.cells #[.int .u64 (p0.toNat : Int), .int .u64 (p1.toNat : Int), .int .u64 (p2.toNat : Int), .int .u64 (p3.toNat : Int), .int .u64 0, .int .u64 0] 113) = w2 at hB0 hW0 ⊢
  have HB0 := Lib.hid hB0; clear hB0
  have HW0 := Lib.hid hW0; clear hW0
  have HGB := Lib.hid hg; clear hg
  clear HS0 HW1 eg
  go_wp2_with fail
  go_loopw [14] (fun iv wr => ∃ i : Nat, i ≤ n ∧ iv = .int .i64 (i : Int) ∧ Below B w wr ∧ Blk wr g 113 (stcOf ks (flat (rows.take i)))) (fun iv _ => n - (intOf iv).toNat)
  case atStart => exact ⟨0, Nat.zero_le _, rfl, HW0.out, by rw [List.take_zero]; exact HB0.out⟩
  case round =>
    clear HB0 HW0
    obtain ⟨i, hi, rfl, hW, hB⟩ := hrel
    have HW := Lib.hid hW; clear hW
    have HB := Lib.hid hB; clear hB
    by_cases hx : i = n
    · have he : rows.take i = rows := List.take_of_length_le (by have := HN.out; omega)
      have ce := end_of g ks (flat (rows.take i)) wr HB.out
      rw [he] at ce
      subst hx
      clear he
      go_wp2_with (go_at_call 56; refine Calls.mono ce ?_; rintro e w3 ⟨rfl, hg3⟩; clear ce; have HG3 := Lib.hid hg3; clear hg3)
      go_ret
      exact ⟨rfl, by rw [← EB.out]; exact below_g HW.out HG3.out (by have := HW.out.size; have := Blk.lt HB.out; have := HGB.out; omega) HGB.out⟩
    · have hlt : i < n := by omega
      have hll : i < rows.length := by have := HN.out; omega
      have e1 : (i : Int) < (n : Int) := by omega
      have e2 : (0 : Int) ≤ (i : Int) := by omega
      obtain ⟨row, erow⟩ : ∃ r, r = rows[i] := ⟨_, rfl⟩
      obtain ⟨pre, epre⟩ : ∃ r, r = flat (rows.take i) := ⟨_, rfl⟩
      have enext : flat (rows.take (i + 1)) = pre ++ row := by rw [epre, erow]; exact flat_next rows i hll
      have hlen : (pre ++ row).length < 100000 := by rw [← enext]; exact Nat.lt_of_le_of_lt (flat_le rows (i + 1)) HL.out
      obtain ⟨Ai, ci, hvi, hri⟩ := HROWS.out i hll
      rw [← erow] at hvi hri
      have HB' := HB.out
      rw [← epre] at HB'
      have HB2 := Lib.hid HB'; clear HB' HB
      obtain ⟨b, o, rfl, hbB, hcell⟩ := HRD.out.at_ hvi
      obtain ⟨m, em⟩ : ∃ m, m = row.length := ⟨_, rfl⟩
      rw [← em] at hcell
      have hc : wr.cell? ⟨b, o + i, none⟩ = some (.slice Ai m ci) := (HW.out.cell (p := ⟨b, o + i, none⟩) hbB).trans hcell
      have HEN := Lib.hid enext; clear enext
      have HRI := Lib.hid hri; clear hri
      have HX := Lib.hid hx; clear hx
      have HI := Lib.hid hi; clear hi
      have e6 : (m : Int) < 100000 := by have := hlen; rw [List.length_append] at this; omega
      have HM := Lib.hid em; clear em
      have HLE := Lib.hid hlen; clear hlen
      have HLL := Lib.hid hll
      clear hvi hcell erow epre hll
      go_wp2_with fail
      go_loopw [20] (fun jv wx => ∃ j : Nat, j ≤ m ∧ jv = .int .i64 (j : Int) ∧ Below B w wx ∧ Blk wx g 113 (stcOf ks (pre ++ row.take j))) (fun jv _ => m - (intOf jv).toNat)
      case atStart => exact ⟨0, Nat.zero_le _, rfl, HW.out, by rw [List.take_zero, List.append_nil]; exact HB2.out⟩
      case round =>
        clear hc HW HB2
        obtain ⟨j, hj, rfl, hWx, hBx⟩ := hrel
        have HWX := Lib.hid hWx; clear hWx
        have HBX := Lib.hid hBx; clear hBx
        by_cases hy : j = m
        · have he : row.take j = row := List.take_of_length_le (by have := HM.out; omega)
          have HE := Lib.hid he; clear he
          subst hy
          go_wp2_with fail
          go_roundw
          case rel => exact ⟨i + 1, by omega, by go_num, HWX.out, by rw [HEN.out]; have := HBX.out; rw [HE.out] at this; exact this⟩
          case measure => simp [intOf]; omega
        · have hjm : j < m := by omega
          have hjl : j < row.length := by have := HM.out; omega
          have f1 : (j : Int) < (m : Int) := by omega
          have f2 : (0 : Int) ≤ (j : Int) := by omega
          obtain ⟨b2, o2, rfl, hb2, hcell2⟩ := HRI.out.at_ (bvs_at hjl)
          obtain ⟨y, ey⟩ : ∃ y, y = row[j] := ⟨_, rfl⟩
          rw [← ey] at hcell2
          have hc2 : wr.cell? ⟨b2, o2 + j, none⟩ = some (.int .u8 (y.toNat : Int)) := (HWX.out.cell (p := ⟨b2, o2 + j, none⟩) hb2).trans hcell2
          have hsn : (pre ++ row.take j) ++ [y] = pre ++ row.take (j + 1) := by rw [take_snoc row j hjl, ← ey, List.append_assoc]
          have ca := addByte_of g ks (pre ++ row.take j) y wr (by have := HLE.out; rw [List.length_append] at this ⊢; have : (row.take j).length ≤ row.length := by { rw [List.length_take]; omega }; omega) HBX.out
          rw [hsn] at ca
          have HY := Lib.hid hy; clear hy
          have HJ := Lib.hid hj; clear hj
          have HSZ := Lib.hid (Blk.lt HBX.out)
          clear hcell2 ey hsn hjl
          go_wp2_with (go_at_call 55; refine Calls.mono ca ?_; rintro e w4 ⟨rfl, hB4, hG4⟩; clear ca; have HB4 := Lib.hid hB4; have HG4 := Lib.hid hG4; clear hB4 hG4)
          go_roundw
          case rel => exact ⟨j + 1, by omega, by go_num, below_g HWX.out HG4.out (by have := HSZ.out; have := HGB.out; omega) HGB.out, HB4.out⟩
          case measure => simp [intOf]; omega
end Go.Proofs.Ytcjibpjdfhhhkaa.Si
