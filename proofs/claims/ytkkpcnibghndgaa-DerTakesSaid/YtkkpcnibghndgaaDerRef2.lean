/-
  The document's own answer to chapter 1, laying, the rest: Text, Int and Wrap.
-/
import Derived.Test.YtkkpcnibghndgaaDerRef
set_option linter.unusedVariables false
namespace Go.Proofs.Ytkkpcnibghndgaa.DerR
open Go.RowKit Go.Proofs.Ytkkpcnibghndgaa.Mem Go.Proofs.Ytkkpcnibghndgaa.DerP

theorem text_any (l : L) (w : World) (hl : l.length ≤ 65535) :
    Calls Try.prog 19 #[.string ⟨l.toArray⟩] w (Gives w (elem 27 l)) := by
  have hcv := fun (W : World) => Lib.run_convert_string_bytes (P := Try.prog) W 9 22 5 ⟨l.toArray⟩ Try.underlying9 Try.underlying22 Try.underlying5
  have he : ∀ (c : Nat), Calls Try.prog 37 #[.int .u8 27, .slice (some ⟨w.heap.size, 0, none⟩) l.length c] (Lib.bytesWorld w 5 ⟨l.toArray⟩) (Gives (Lib.bytesWorld w 5 ⟨l.toArray⟩) (elem 27 l)) :=
    fun c => elem_any 27 l _ _ c _ _ (bytes_fresh w 5 l).rd rfl (Nat.le_refl _) hl
  have HE := Lib.hid he
  have HB := Lib.hid (bytes_below w 5 ⟨l.toArray⟩)
  clear he hl
  go_enter Try.func19, Try.ntmps19
  go_wp2_with (go_at_call 37; refine (Calls.mono (HE.out _) ?_); rintro e w1 ⟨⟨g1, c1, rfl, hg1, hc1, hrd1⟩, hb1⟩)
  go_ret
  exact ⟨⟨g1, c1, rfl, Nat.le_trans HB.out.size hg1, hc1, hrd1⟩, bt HB.out hb1⟩

/-! ### a number's digits, from the last one on -/
theorem digK_cons (j m : Nat) : digK (j + 1) m = UInt8.ofNat (m / 256 ^ j) :: digK j m := by
  induction j generalizing m with
  | zero => simp [digK]
  | succ j ih =>
    rw [digK, ih (m / 256)]
    rw [Nat.div_div_eq_div_mul, Nat.mul_comm, ← Nat.pow_succ]
    rfl
theorem dig_plain (m j : Nat) (hm : m ≤ 4611686018427387904) (hj : 1 ≤ j) (h1 : j = 1 ∨ 256 ^ (j - 1) ≤ m) (h2 : m / 256 ^ (j - 1) < 128) : dig m = digK j m := by
  have hp : 0 < 256 ^ (j - 1) := Nat.pow_pos (by omega)
  have hup : m < 128 * 256 ^ (j - 1) := by rw [Nat.div_lt_iff_lt_mul hp] at h2; exact h2
  have hj8 : j ≤ 8 := by
    rcases Nat.lt_or_ge 8 j with g | g
    · exfalso
      rcases h1 with h | h
      · omega
      · have : 256 ^ 8 ≤ 256 ^ (j - 1) := Nat.pow_le_pow_right (by omega) (by omega)
        have e : (256 : Nat) ^ 8 = 18446744073709551616 := by decide
        omega
    · exact g
  have hup' : m < 2 ^ (8 * (j - 1) + 7) := by
    rw [Nat.pow_add, ← pow256, Nat.mul_comm]; simpa using hup
  have hb := bitLen_bound m _ (by omega) hup'
  have hk : Lib.bitLen m / 8 + 1 = j := by
    rcases h1 with h | h
    · omega
    · have h3 : 2 ^ (8 * (j - 1)) ≤ m := by rw [← pow256]; exact h
      have := bitLen_ge m (by omega) _ h3
      omega
  rw [dig, hk]
theorem dig_nought (m j : Nat) (hm : m ≤ 4611686018427387904) (hj : 1 ≤ j) (h0 : m / 256 ^ j = 0) (h2 : 128 ≤ m / 256 ^ (j - 1)) : dig m = 0 :: digK j m := by
  have hp : 0 < 256 ^ (j - 1) := Nat.pow_pos (by omega)
  have hlo : 128 * 256 ^ (j - 1) ≤ m := by rw [Nat.le_div_iff_mul_le hp] at h2; exact h2
  have hpj : 0 < 256 ^ j := Nat.pow_pos (by omega)
  have hup : m < 256 ^ j := by
    rcases Nat.lt_or_ge m (256 ^ j) with g | g
    · exact g
    · have := Nat.div_pos g hpj; omega
  have hlo' : 2 ^ (8 * (j - 1) + 7) ≤ m := by
    rw [Nat.pow_add, ← pow256, Nat.mul_comm]; simpa using hlo
  have h3 := bitLen_ge m (by omega) _ hlo'
  have h62 := bitLen_62 m hm
  have h4 := bitLen_bound m (8 * j) (by omega) (by rw [← pow256]; exact hup)
  have hk : Lib.bitLen m / 8 + 1 = j + 1 := by omega
  rw [dig, hk, digK_cons, h0]
  rfl
theorem first_digit (m j : Nat) (hj : 1 ≤ j) (h0 : m / 256 ^ j = 0) : m / 256 ^ (j - 1) < 256 := by
  have hp : 0 < 256 ^ (j - 1) := Nat.pow_pos (by omega)
  have hpj : 0 < 256 ^ j := Nat.pow_pos (by omega)
  rw [Nat.div_lt_iff_lt_mul hp, Nat.mul_comm, ← Nat.pow_succ, show (j - 1).succ = j by omega]
  rcases Nat.lt_or_ge m (256 ^ j) with g | g
  · exact g
  · have := Nat.div_pos g hpj; omega
theorem first_cell {w : World} {g j m : Nat} (hj : 1 ≤ j) (h0 : m / 256 ^ j = 0) (h : Rd w w.heap.size (some ⟨g, 0, none⟩) (bvs (digK j m))) : w.cell? ⟨g, 0, none⟩ = some (.int .u8 ((m / 256 ^ (j - 1) : Nat) : Int)) := by
  have ha := digK_at j m 0 (by omega)
  obtain ⟨b, o, e, _, hc⟩ := h.at_ (i := 0) (u := bv (UInt8.ofNat (m / 256 ^ (j - 1)))) (by simp only [bvs, List.getElem?_map, ha]; rfl)
  injection e with e
  injection e with e1 e2
  subst e1 e2
  have hf := first_digit m j hj h0
  rw [show (0 + 0 : Nat) = 0 from rfl] at hc
  rw [hc, DerW.byte_nat _ hf]

/-- the digits so far: at the slice p, for the number's part n that is left -/
def Left (m : Nat) (W : World) (n p : Value) (w : World) : Prop :=
  ∃ j g cap, 1 ≤ j ∧ (j = 1 ∨ 256 ^ (j - 1) ≤ m) ∧ j ≤ 9 ∧ n = .int .i64 ((m / 256 ^ j : Nat) : Int) ∧ p = .slice (some ⟨g, 0, none⟩) j cap ∧ Rd w w.heap.size (some ⟨g, 0, none⟩) (bvs (digK j m)) ∧ Below W.heap.size W w

set_option maxRecDepth 100000 in
set_option maxHeartbeats 1000000 in
theorem int_any (n : Int) (w : World) :
    Calls Try.prog 15 #[.int .i64 n] w (Gives w (encI n)) := by
  obtain ⟨i0, hi0, hz0, hs0, hb0⟩ := info_parts DerW.u8_info
  have hcl := clampN_int n
  have hm := clampN_le n
  have E : Hid (encI n = elem 2 (dig (clampN n))) := rfl
  generalize clampN n = m at *
  have HM := Lib.hid hm
  have hm' : (m : Int) ≤ 4611686018427387904 := by omega
  have hml := Lib.hid DerW.ml
  have hlast := Lib.hid (show [Value.int .u8 ((m : Int) % 256)] = bvs (digK 1 m) by simp [bvs, bv, digK])
  have hcl' := hcl.symm
  clear hcl hm
  go_enter Try.func15, Try.ntmps15
  go_wp2
  go_loopw [0, 3] (fun nv p wr => Left m w nv p wr) (fun nv _ _ => (intOf nv).toNat)
  case atStart =>
    refine ⟨1, w.heap.size, 1, Nat.le_refl _, .inl rfl, by omega, by simp, rfl, ?_, (Below.refl _ _).alloc (Nat.le_refl _) _⟩
    have := DerW.rd_lit w 5 #[Value.int .u8 ((m : Int) % 256)] (digK 1 m) hlast.out _ rfl
    simpa using this
  case round =>
    obtain ⟨j, g, cap, hj1, hjm, hj9, rfl, rfl, hrd, hbel⟩ := hrel
    by_cases h0 : m / 256 ^ j = 0
    · have hcell := first_cell hj1 h0 hrd
      have hf := first_digit m j hj1 h0
      have HRD := Lib.hid hrd
      have HJ := Lib.hid hj1
      have HJM := Lib.hid hjm
      have H0 := Lib.hid h0
      rw [h0]
      have HN := Lib.hid (first_digit m j hj1 h0)
      by_cases h128 : m / 256 ^ (j - 1) < 128
      · have G := Lib.hid (dig_plain m j HM.out hj1 hjm h128)
        have he : ∀ W : World, Rd W W.heap.size (some ⟨g, 0, none⟩) (bvs (digK j m)) → Calls Try.prog 37 #[.int .u8 2, .slice (some ⟨g, 0, none⟩) j cap] W (Gives W (elem 2 (digK j m))) :=
          fun W hW => elem_any 2 (digK j m) _ j cap _ W hW (length_digK j m).symm (Nat.le_refl _) (by rw [length_digK]; omega)
        have HEL := Lib.hid he
        have g5 : decide ((128 : Int) ≤ ((m / 256 ^ (j - 1) : Nat) : Int)) = false := by simp only [decide_eq_false_iff_not]; omega
        clear he hrd hf h128 hj1 hjm h0
        generalize m / 256 ^ (j - 1) = a at *
        have hj9' : (j : Int) ≤ 9 := by omega
        have hj1' : 0 < j := HJ.out
        go_wp2_with (go_at_call 37; refine (Calls.mono (HEL.out _ HRD.out) ?_); rintro e w1 ⟨⟨g1, c1, rfl, hg1, hc1, hrd1⟩, hb1⟩)
        go_ret
        rw [E.out, G.out]
        exact ⟨⟨g1, c1, rfl, Nat.le_trans hbel.size hg1, hc1, hrd1⟩, bt hbel hb1⟩
      · have G := Lib.hid (dig_nought m j HM.out hj1 h0 (by omega))
        have he : ∀ (W : World) (g' c' : Nat), Rd W W.heap.size (some ⟨g', 0, none⟩) (bvs (0 :: digK j m)) → Calls Try.prog 37 #[.int .u8 2, .slice (some ⟨g', 0, none⟩) (0 :: digK j m).length c'] W (Gives W (elem 2 (0 :: digK j m))) :=
          fun W g' c' hW => elem_any 2 (0 :: digK j m) _ _ c' _ W hW rfl (Nat.le_refl _) (by simp only [List.length_cons, length_digK]; omega)
        have HEL := Lib.hid he
        have g5 : decide ((128 : Int) ≤ ((m / 256 ^ (j - 1) : Nat) : Int)) = true := by simp only [decide_eq_true_eq]; omega
        have hown0 : Hid ((wr.alloc (.cells #[.int .u8 0] 5)).ownsRow wr.heap.size 5 1 (.slice (some ⟨wr.heap.size, 0, none⟩) 1 1) 1 (bvs [0])) := World.ownsRow_lit wr #[.int .u8 0] 1 (Nat.le_refl _) (DerW.ml 1 (by omega)) rfl
        clear he hrd hf h128 hj1 hjm h0
        generalize m / 256 ^ (j - 1) = a at *
        have hj9' : (j : Int) ≤ 9 := by omega
        have hj1' : 0 < j := HJ.out
        go_wp2_with (first
          | (at_builtin
             refine wpList_append_rd _ rfl (.tmp 25) (.tmp 26) 22 rfl wr.heap.size 5 i0 _ 1 Try.underlying22 hi0 hz0 hs0 hb0 rfl (.slice (some ⟨wr.heap.size, 0, none⟩) 1 1) 1 (bvs [0]) rfl hown0.out wr.heap.size (some ⟨g, 0, none⟩) j cap (bvs (digK j m)) rfl (by rw [bvs_length, length_digK]) (HRD.out.alloc (Nat.le_refl _) _) (bvs_one _) (hml.out _ (by omega)) (by omega) (by simp) ?_
             intro v2 w2 hown2 hg2 hat2
             rw [← bvs_append, List.singleton_append] at hown2
             obtain ⟨g3, cap3, rfl, hg3, hcap3, hrd3⟩ := DerK.own_slice hown2 (by simp)
             have hbe2 : Below wr.heap.size wr w2 := ((Below.refl wr.heap.size wr).alloc (Nat.le_refl _) _).grown hg2 (by simp) (fun k hk => by simp [Value.ownBlock] at hk; omega)
             clear hown2 hat2)
          | (go_at_call 37; refine (Calls.mono (HEL.out _ _ _ hrd3) ?_); rintro e w1 ⟨⟨g1, c1, rfl, hg1, hc1, hrd1⟩, hb1⟩))
        go_ret
        rw [E.out, G.out]
        exact ⟨⟨g1, c1, rfl, Nat.le_trans (Nat.le_trans hbel.size hbe2.size) hg1, hc1, hrd1⟩, bt (bt hbel hbe2) hb1⟩
    · have hle : 256 ^ j ≤ m := by
        have hpj : 0 < 256 ^ j := Nat.pow_pos (by omega)
        rcases Nat.lt_or_ge m (256 ^ j) with g' | g'
        · exact absurd (Nat.div_eq_of_lt g') h0
        · exact g'
      have hj8 : j < 8 := by
        rcases Nat.lt_or_ge j 8 with g' | g'
        · exact g'
        · exfalso
          have : 256 ^ 8 ≤ 256 ^ j := Nat.pow_le_pow_right (by omega) g'
          have e : (256 : Nat) ^ 8 = 18446744073709551616 := by decide
          have := HM.out
          omega
      have hnext := Lib.hid (show m / 256 ^ j / 256 = m / 256 ^ (j + 1) by rw [Nat.div_div_eq_div_mul, ← Nat.pow_succ])
      have hcons := Lib.hid (digK_cons j m)
      have hy : m / 256 ^ j ≤ m := Nat.div_le_self _ _
      have HRD := Lib.hid hrd
      have HLE := Lib.hid hle
      clear hrd hle hjm
      generalize m / 256 ^ j = y at *
      have g6 : decide ((0 : Int) < (y : Int)) = true := by simp; omega
      have hy' : (y : Int) ≤ 4611686018427387904 := by omega
      have hown0 : Hid ((wr.alloc (.cells #[.int .u8 ((y : Int) % 256)] 5)).ownsRow wr.heap.size 5 1 (.slice (some ⟨wr.heap.size, 0, none⟩) 1 1) 1 (bvs [UInt8.ofNat y])) := by
        have := World.ownsRow_lit (base := wr.heap.size) (e := 5) (size := 1) wr #[.int .u8 ((y : Int) % 256)] 1 (Nat.le_refl _) (DerW.ml 1 (by omega)) rfl
        rw [show (#[Value.int .u8 ((y : Int) % 256)] : Array Value).toList = bvs [UInt8.ofNat y] by simp [bvs, bv]] at this
        exact this
      have HY := Lib.hid (show 0 < y by omega)
      clear h0 hy
      go_wp2_with (at_builtin
                   refine wpList_append_rd _ rfl (.tmp 18) (.tmp 19) 22 rfl wr.heap.size 5 i0 _ 1 Try.underlying22 hi0 hz0 hs0 hb0 rfl (.slice (some ⟨wr.heap.size, 0, none⟩) 1 1) 1 (bvs [UInt8.ofNat y]) rfl hown0.out wr.heap.size (some ⟨g, 0, none⟩) j cap (bvs (digK j m)) rfl (by rw [bvs_length, length_digK]) (HRD.out.alloc (Nat.le_refl _) _) (bvs_one _) (hml.out _ (by omega)) (by omega) (by simp) ?_
                   intro v2 w2 hown2 hg2 hat2
                   rw [← bvs_append, List.singleton_append, ← hcons.out] at hown2
                   obtain ⟨g3, cap3, rfl, hg3, hcap3, hrd3⟩ := DerK.own_slice hown2 (by rw [length_digK]; omega)
                   rw [length_digK]
                   have hbe2 : Below wr.heap.size wr w2 := ((Below.refl wr.heap.size wr).alloc (Nat.le_refl _) _).grown hg2 (by simp) (fun k hk => by simp [Value.ownBlock] at hk; omega)
                   clear hown2 hat2)
      refine ⟨⟨j + 1, g3, cap3, by omega, .inr (by simpa using HLE.out), by omega, ?_, rfl, hrd3, bt hbel hbe2⟩, ?_⟩
      · rw [← hnext.out]; rfl
      · have := HY.out; simp [intOf]; omega

end Go.Proofs.Ytkkpcnibghndgaa.DerR
