/-
  The document's own answer: the stream.
-/
import Derived.Test.YtioonkckppmnoaaSpLaw3
import Derived.Test.YtioonkckppmnoaaSpLaw4
import Derived.Deep.CutBlock
set_option linter.unusedVariables false
namespace Go.Proofs.Ytioonkckppmnoaa.SpL
open Go.RowKit Go.Proofs.Ytioonkckppmnoaa.Mem Go.Proofs.Ytioonkckppmnoaa.Sp

/-- a block's eight bytes, as the document lays them -/
def eight (x y : Wd) : List Value := [.int .u8 ((x.toNat : Int) % 256), .int .u8 ((x.toNat : Int) / 256 % 256), .int .u8 ((x.toNat : Int) / 65536 % 256), .int .u8 ((x.toNat : Int) / 16777216),
  .int .u8 ((y.toNat : Int) % 256), .int .u8 ((y.toNat : Int) / 256 % 256), .int .u8 ((y.toNat : Int) / 65536 % 256), .int .u8 ((y.toNat : Int) / 16777216)]
theorem strm_eight (K : Nat → Wd) (up lo : Wd) (i : Nat) : bvs (strm K up lo (8 * i)) ++ eight (blockK K (up, lo + BitVec.ofNat 32 i)).1 (blockK K (up, lo + BitVec.ofNat 32 i)).2 = bvs (strm K up lo (8 * (i + 1))) := by
  have e : strm K up lo (8 * (i + 1)) = strm K up lo (8 * i) ++ [sbyte K up lo (8 * i + 0), sbyte K up lo (8 * i + 1), sbyte K up lo (8 * i + 2), sbyte K up lo (8 * i + 3), sbyte K up lo (8 * i + 4 + 0), sbyte K up lo (8 * i + 4 + 1), sbyte K up lo (8 * i + 4 + 2), sbyte K up lo (8 * i + 4 + 3)] := by
    unfold strm
    rw [show 8 * (i + 1) = 8 * i + 1 + 1 + 1 + 1 + 1 + 1 + 1 + 1 by omega]
    simp [List.range_succ]
  rw [e, bvs_append]
  congr 1
  have a0 := sbyte_lo K up lo i 0 (by decide)
  have a1 := sbyte_lo K up lo i 1 (by decide)
  have a2 := sbyte_lo K up lo i 2 (by decide)
  have a3 := sbyte_lo K up lo i 3 (by decide)
  have b0 := sbyte_hi K up lo i 0 (by decide)
  have b1 := sbyte_hi K up lo i 1 (by decide)
  have b2 := sbyte_hi K up lo i 2 (by decide)
  have b3 := sbyte_hi K up lo i 3 (by decide)
  have hx := wd_lt (blockK K (up, lo + BitVec.ofNat 32 i)).1
  have hy := wd_lt (blockK K (up, lo + BitVec.ofNat 32 i)).2
  rw [show ((blockK K (up, lo + BitVec.ofNat 32 i)).1.toNat / 256 ^ 3 % 256) = (blockK K (up, lo + BitVec.ofNat 32 i)).1.toNat / 16777216 by simp only [Nat.reducePow]; omega] at a3
  rw [show ((blockK K (up, lo + BitVec.ofNat 32 i)).2.toNat / 256 ^ 3 % 256) = (blockK K (up, lo + BitVec.ofNat 32 i)).2.toNat / 16777216 by simp only [Nat.reducePow]; omega] at b3
  simp only [bvs, List.map_cons, List.map_nil, bv, eight, a0, a1, a2, a3, b0, b1, b2, b3]
  simp

theorem Rd.take {w : World} {B : Nat} {A : Option Addr} {xs : List Value} (h : Rd w B A xs) (m : Nat) : Rd w B A (xs.take m) := by
  rcases h with h | ⟨b, o, h1, h2, h3⟩
  · rw [h]; exact .inl (by simp)
  · refine .inr ⟨b, o, h1, h2, fun i u hu => h3 i u ?_⟩
    rw [List.getElem?_take] at hu
    split at hu
    · exact hu
    · cases hu
theorem bt' {B : Nat} {a w c : World} (h : Below B a w) (hB : B + 1 ≤ w.heap.size) (k : Below w.heap.size w c) : Below B a c := below_then h (by omega) k

set_option maxRecDepth 100000 in
set_option maxHeartbeats 1600000 in
theorem dstream (K : Nat → Wd) (N m : Nat) (n : Int) (w : World) (hN : N < 18446744073709551616) (hm : m ≤ 1000) (hn : m = n.toNat) :
    Calls Try.prog 20 #[.agg (cells27 K), .int .u64 (N : Int), .int .i64 n] w fun e w' => ∃ A c, e = .returned (.slice A m c) ∧ m ≤ c ∧ Rd w' w'.heap.size A (bvs (strm K (upW N) (loW N) m)) ∧ Below w.heap.size w w' := by
  obtain ⟨B, eB⟩ : ∃ B, B = w.heap.size := ⟨_, rfl⟩
  rw [← eB]
  have EB := Lib.hid eB
  have z27 := size27 K
  have i27 := info27 K
  obtain ⟨cs, ecs⟩ : ∃ cs, cs = cells27 K := ⟨_, rfl⟩
  rw [← ecs] at z27 i27
  have cB := dblock K
  rw [← ecs] at cB
  rw [← ecs]
  obtain ⟨ib, hi0, hz0, hs0, hb0⟩ := info_parts u8_info
  have Z27 := Lib.hid z27; clear z27
  have I27 := Lib.hid i27; clear i27
  have ECS := Lib.hid ecs; clear ecs
  have NN := Lib.hid hN; clear hN
  have HM := Lib.hid hm; clear hm
  have HN := Lib.hid hn; clear hn
  have hst : Blk (w.alloc (.cells cs 49)) B 49 cs := Blk.new_of w B _ _ _ rfl eB.symm
  have HST := Lib.hid hst; clear hst
  go_enter Try.func20, Try.ntmps20
  go_wp2_with fail
  rw [← eB]
  clear eB
  go_loopw [7, 8] (fun bv_ iv wr => ∃ i : Nat, 8 * i < m + 8 ∧ iv = .int .i64 (i : Int) ∧ Blk wr B 49 cs ∧ Below B w wr ∧ B + 1 ≤ wr.heap.size ∧ wr.ownsRow (B + 1) 5 1 bv_ (8 * i) (bvs (strm K (upW N) (loW N) (8 * i)))) (fun _ iv _ => m + 8 - 8 * (intOf iv).toNat)
  case atStart => exact ⟨0, by omega, rfl, HST.out, EB.out ▸ (Below.refl _ _).alloc (Nat.le_refl _) _, by have := EB.out; simp; omega, rfl, .inl ⟨rfl, rfl⟩⟩
  case round =>
    obtain ⟨i, hi, rfl, hB, hb, hsz, hown⟩ := hrel
    have HB := Lib.hid hB; clear hB
    have HB2 := Lib.hid hb; clear hb
    have HS := Lib.hid hsz; clear hsz
    have hlen : ∃ A cap, u7 = .slice A (8 * i) cap ∧ 8 * i ≤ cap ∧ (∀ n k, (Value.slice A n cap).ownBlock = some k → B + 1 ≤ k) := by
      obtain ⟨_, ⟨h1, h2⟩ | ⟨g, cap, cur, h1, hg, _, hcap, _⟩⟩ := hown
      · exact ⟨none, 0, by rw [h1, h2], by omega, fun n k h => by simp [Value.ownBlock] at h⟩
      · exact ⟨_, cap, h1, hcap, fun n k h => by simp only [Value.ownBlock] at h; injection h with h; omega⟩
    obtain ⟨A, cap, rfl, hcap, hnb⟩ := hlen
    have HNB := Lib.hid hnb; clear hnb
    have HO := Lib.hid hown; clear hown
    obtain ⟨o, eo⟩ : ∃ o, o = 8 * i := ⟨_, rfl⟩
    rw [← eo]
    have EO := Lib.hid eo; clear eo
    by_cases hlt : (o : Int) < n
    · have ib1 : (0 : Int) ≤ (i : Int) := by omega
      have ib2 : (i : Int) ≤ 200 := by have := EO.out; have := HM.out; have := HN.out; omega
      have HH := Lib.hid hi; clear hi
      go_wp2_with (first | (refine wpList_load_st (by rfl) 49 (.tmp 3) (by rfl) B (by rfl) cs _ (range_blk HB.out) Try.underlying49 (by rfl) I27.out ?_) | fail)
      have cup : (N : Int) / 4294967296 % 4294967296 = ((upW N).toNat : Int) := by rw [upW, BitVec.toNat_ofNat]; have := NN.out; omega
      have csum : ((N : Int) + (i : Int)) % 4294967296 = ((loW N + BitVec.ofNat 32 i).toNat : Int) := by rw [loW, BitVec.toNat_add, BitVec.toNat_ofNat, BitVec.toNat_ofNat]; omega
      rw [cup, csum]
      obtain ⟨p, ep⟩ : ∃ p, p = blockK K (upW N, loW N + BitVec.ofNat 32 i) := ⟨_, rfl⟩
      obtain ⟨x0, ex⟩ : ∃ x0, x0 = p.1 := ⟨_, rfl⟩
      obtain ⟨y0, ey⟩ : ∃ y0, y0 = p.2 := ⟨_, rfl⟩
      have c4 := cB (upW N) (loW N + BitVec.ofNat 32 i) wr
      rw [← ep, ← ex, ← ey] at c4
      have hnx : bvs (strm K (upW N) (loW N) (8 * i)) ++ eight x0 y0 = bvs (strm K (upW N) (loW N) (8 * (i + 1))) := by rw [ex, ey, ep]; exact strm_eight K _ _ i
      have HNX := Lib.hid hnx; clear hnx
      clear ep ex ey cup csum
      refine Calls.mono c4 ?_
      rintro e w5 ⟨rfl, hb5⟩
      have ho5 := own_kept HO.out hb5
      rw [← EO.out] at ho5
      have hnx2 := HNX.out
      rw [← EO.out] at hnx2
      have HN2 := Lib.hid hnx2; clear hnx2
      have hB5 := HB.out.below hb5
      have hb6 := bt' HB2.out HS.out hb5
      have hs5 := Nat.le_trans HS.out hb5.size
      have HO5 := Lib.hid ho5; clear ho5
      have HB5 := Lib.hid hB5; clear hB5
      have HB6 := Lib.hid hb6; clear hb6
      have HS5 := Lib.hid hs5; clear hs5
      clear hb5 c4
      go_wp2_with (first | (at_builtin; refine wpList_append_rd _ (by rfl) (.tmp 30) (.tmp 53) 22 (by rfl) (B + 1) 5 ib _ 1 Try.underlying22 hi0 hz0 hs0 hb0 (by rfl) (.slice A o cap) o (bvs (strm K (upW N) (loW N) o)) (by rfl) (own_push HO5.out (by rfl)) (w5.heap.size + 1) (some ⟨w5.heap.size, 0, none⟩) 8 8 (eight x0 y0) (by rfl) (by rfl) (rd_words w5 5 _ (eight x0 y0) (by rfl) _ rfl) (by simp [eight, Value.oneCell']) (by have := EO.out; unfold maxLen; omega) (by have := EO.out; omega) (by have := HS5.out; simp; omega) ?_; intro v6 w6 hown6 hgrow6 hat6) | fail)
      have hB6 := Blk.grown (Blk.alloc HB5.out _) hgrow6 (fun h => by have := HNB.out _ _ h; omega)
      have hb7 := Below.grown (HB6.out.alloc (by have := HS5.out; omega) _) hgrow6 (by have := HS5.out; simp; omega) (fun k hk => by have := HNB.out _ _ hk; omega)
      have hs7 := hgrow6.size
      have ho7 := hown6
      rw [HN2.out, show o + 8 = 8 * (i + 1) by have := EO.out; omega] at ho7
      have B6 := Lib.hid hB6; clear hB6
      have B7 := Lib.hid hb7; clear hb7
      have S7 := Lib.hid hs7; clear hs7
      have O7 := Lib.hid ho7; clear ho7
      clear hown6 hgrow6 hat6
      go_wp2_with fail
      go_roundw
      case rel =>
        exact ⟨i + 1, by have := EO.out; have := HN.out; omega, by go_num, B6.out, B7.out, by have h1 := S7.out; have := HS5.out; simp at h1; omega, O7.out⟩
      case measure => have := EO.out; have := HN.out; simp [intOf]; omega
    · have hge : n ≤ (o : Int) := by omega
      have e1 : decide ((o : Int) < n) = false := by simp; omega
      have hcap2 : n ≤ (cap : Int) := by have := EO.out; omega
      have HC := Lib.hid hcap; clear hcap
      by_cases h0 : n < 0
      · go_wp2_with fail
        go_ret
        have hm0 : m = 0 := by have := HN.out; omega
        refine ⟨A, cap, by rw [hm0]; rfl, by rw [hm0]; exact Nat.zero_le _, ?_, HB2.out⟩
        rw [hm0]
        exact .inl rfl
      · have h1 : (0 : Int) ≤ n := by omega
        go_wp2_with fail
        go_ret
        refine ⟨A, cap, by rw [HN.out]; rfl, by have := HN.out; omega, ?_, HB2.out⟩
        have hr := Rd.of_own HO.out
        have ht : bvs (strm K (upW N) (loW N) m) = (bvs (strm K (upW N) (loW N) (8 * i))).take m := by
          rw [← strm_take K (upW N) (loW N) m (8 * i) (by have := EO.out; have := HN.out; omega)]
          simp [bvs, List.map_take]
        rw [ht]
        exact Rd.take hr m
end Go.Proofs.Ytioonkckppmnoaa.SpL
