/-
  NameTops walked.
-/
import Derived.Test.YtpjilcngibaepaaNmLaw1
import Derived.Test.YtpjilcngibaepaaNmRefB
import Derived.Test.YtpjilcngibaepaaNmPlain3
import Derived.Test.YtpjilcngibaepaaNmAll
import Derived.IntWalk
set_option linter.unusedVariables false
namespace Go.Proofs.Ytpjilcngibaepaa.NmW
open Go.RowKit Go.Proofs.Ytpjilcngibaepaa.Mem Go.Proofs.Ytpjilcngibaepaa.Nm

set_option maxHeartbeats 3200000 in
set_option maxRecDepth 100000 in
theorem tops_yes (a b : L) (w : World) (hs : a.length + b.length ≤ 200) (ha : isL a = true) (hb : isL b = true) : Calls Try.prog 9 #[.string ⟨a.toArray⟩, .string ⟨b.toArray⟩] w fun e w' => e = .returned (.bool true) ∧ Below w.heap.size w w' := by
  have e200 : ¬ (200 : Int) < (a.length : Int) + (b.length : Int) := by omega
  have i1 := fun w1 => ris_any a w1 (by omega)
  have i2 := fun w1 => ris_any b w1 (by omega)
  rw [ha] at i1
  rw [hb] at i2
  have ka : kindL a ≠ 0 := by simp [isL] at ha; omega
  have kb : kindL b ≠ 0 := by simp [isL] at hb; omega
  have na := ne_of_kind ka
  have nb := ne_of_kind kb
  have I1 := Lib.hid i1; clear i1
  have I2 := Lib.hid i2; clear i2
  have u1 := fun (i : Nat) w1 => rup_any (pl (ch a) i) w1 (by have := pl_len_le (b := a) i; omega)
  have u2 := fun (i : Nat) w1 => rup_any (pl (ch b) i) w1 (by have := pl_len_le (b := b) i; omega)
  have hup1 : ∀ i, i < (ch a).length → upL (pl (ch a) i) = pl (ch a) (i + 1) := fun i h => up_at _ h
  have hup2 : ∀ i, i < (ch b).length → upL (pl (ch b) i) = pl (ch b) (i + 1) := fun i h => up_at _ h
  have hne1 : ∀ i, i < (ch a).length → pl (ch a) i ≠ [] := fun i h => at_ne _ h
  have hne2 : ∀ i, i < (ch b).length → pl (ch b) i ≠ [] := fun i h => at_ne _ h
  have h01 : pl (ch a) 0 = a := ch_zero na
  have h02 : pl (ch b) 0 = b := ch_zero nb
  have p1 := ch_pos na
  have p2 := ch_pos nb
  have l1 := ch_len a
  have l2 := ch_len b
  have b1 := fun w1 => between_any a b w1 (by omega) (by omega)
  have hlen := between_len a b
  have hinj : ∀ i j, i < (ch a).length → j < (ch a).length → pl (ch a) i = pl (ch a) j → i = j := fun i j hi hj => at_inj hi hj
  -- the way, where the tops are two
  have hway : pl (ch a) ((ch a).length - 1) ≠ pl (ch b) ((ch b).length - 1) → a :: (betweenL a b ++ [b]) = ch a ++ (ch b).reverse := by
    intro h
    have e := top_meet (a := a) (b := b) h
    rw [← path_part e]
    refine path_between ka kb ?_
    rintro rfl
    exact h rfl
  obtain ⟨A, eA⟩ : ∃ A, A = ch a := ⟨_, rfl⟩
  rw [← eA] at u1 hup1 hne1 h01 p1 l1 hinj hway
  obtain ⟨B, eB⟩ : ∃ B, B = ch b := ⟨_, rfl⟩
  rw [← eB] at u2 hup2 hne2 h02 p2 l2 hway
  obtain ⟨M, eM⟩ : ∃ M, M = betweenL a b := ⟨_, rfl⟩
  rw [← eM] at b1 hlen hway
  clear eA eB eM ha hb ka kb na nb
  have U1 := Lib.hid u1; clear u1
  have U2 := Lib.hid u2; clear u2
  have HUP1 := Lib.hid hup1; clear hup1
  have HUP2 := Lib.hid hup2; clear hup2
  have HNE1 := Lib.hid hne1; clear hne1
  have HNE2 := Lib.hid hne2; clear hne2
  have H01 := Lib.hid h01; clear h01
  have H02 := Lib.hid h02; clear h02
  have B1 := Lib.hid b1; clear b1
  have HINJ := Lib.hid hinj; clear hinj
  have HWAY := Lib.hid hway; clear hway
  have CK := Lib.hid (fun w1 => known_any w1)
  obtain ⟨N, eN⟩ : ∃ N, N = w.heap.size := ⟨_, rfl⟩
  rw [← eN]
  have H := Lib.hid (show Below N w w by exact Below.refl _ _)
  have EN := Lib.hid eN; clear eN
  have HN := Lib.hid (show ∀ w1 : World, Below N w w1 → N ≤ w1.heap.size from fun w1 h => by have := h.size; have := EN.out; omega)
  go_enter Try.func9, Try.ntmps9
  go_wp2_with (first
    | (go_at_call 17; with_reducible refine Calls.mono (I1.out _) ?_; rintro e w1 ⟨rfl, hb⟩; replace H := Lib.hid (H.out.trans (hb.mono (HN.out _ H.out))); clear hb)
    | (go_at_call 17; with_reducible refine Calls.mono (I2.out _) ?_; rintro e w2 ⟨rfl, hb⟩; replace H := Lib.hid (H.out.trans (hb.mono (HN.out _ H.out))); clear hb))
  go_loopg [5] A.length (fun g pv wr => ∃ i : Nat, i + g = A.length ∧ i < A.length ∧ pv = .string ⟨(pl A i).toArray⟩ ∧ Below N w wr)
  case atStart => exact ⟨0, Nat.zero_add _, by omega, by rw [H01.out], H.out⟩
  case round =>
    obtain ⟨i, hi, hil, rfl, hb⟩ := hrel
    have HB := Lib.hid hb; clear hb
    have HI := Lib.hid hi; clear hi
    have c1 := fun w1 => U1.out i w1
    rw [HUP1.out i hil] at c1
    have C1 := Lib.hid c1; clear c1
    by_cases hlt : i + 1 < A.length
    · have t1 : (pl A (i + 1) == []) = false := by simpa using HNE1.out (i + 1) hlt
      go_wp2_with (go_at_call 21; with_reducible refine Calls.mono (C1.out _) ?_; rintro e w3 ⟨rfl, hb⟩; replace HB := Lib.hid (HB.out.trans (hb.mono (HN.out _ HB.out))); clear hb)
      go_roundg (A.length - (i + 1))
      case measure => have := HI.out; omega
      case rel => exact ⟨i + 1, by have := HI.out; omega, hlt, rfl, HB.out⟩
    · obtain rfl : i = A.length - 1 := by omega
      have hz : pl A (A.length - 1 + 1) = [] := pl_ge (by omega)
      rw [hz] at C1
      obtain ⟨x, ex⟩ : ∃ x, x = pl A (A.length - 1) := ⟨_, rfl⟩
      rw [← ex] at C1 ⊢
      have EX := Lib.hid ex; clear ex hz
      go_wp2_with (go_at_call 21; with_reducible refine Calls.mono (C1.out _) ?_; rintro e w3 ⟨rfl, hb⟩; replace HB := Lib.hid (HB.out.trans (hb.mono (HN.out _ HB.out))); clear hb)
      obtain ⟨wo, rfl⟩ : ∃ wo : World, wo = wr := ⟨_, rfl⟩
      go_loopg [6] B.length (fun g qv wr => ∃ j : Nat, j + g = B.length ∧ j < B.length ∧ qv = .string ⟨(pl B j).toArray⟩ ∧ Below N w wr)
      case atStart => exact ⟨0, Nat.zero_add _, by omega, by rw [H02.out], HB.out⟩
      case round =>
        obtain ⟨j, hj, hjl, rfl, hb⟩ := hrel
        have HC := Lib.hid hb; clear hb
        have HJ := Lib.hid hj; clear hj
        have c2 := fun w1 => U2.out j w1
        rw [HUP2.out j hjl] at c2
        have C2 := Lib.hid c2; clear c2
        by_cases hlt2 : j + 1 < B.length
        · have t1 : (pl B (j + 1) == []) = false := by simpa using HNE2.out (j + 1) hlt2
          go_wp2_with (go_at_call 21; with_reducible refine Calls.mono (C2.out _) ?_; rintro e w3 ⟨rfl, hb⟩; replace HC := Lib.hid (HC.out.trans (hb.mono (HN.out _ HC.out))); clear hb)
          go_roundg (B.length - (j + 1))
          case measure => have := HJ.out; omega
          case rel => exact ⟨j + 1, by have := HJ.out; omega, hlt2, rfl, HC.out⟩
        · obtain rfl : j = B.length - 1 := by omega
          have hz : pl B (B.length - 1 + 1) = [] := pl_ge (by omega)
          rw [hz] at C2
          obtain ⟨y, ey⟩ : ∃ y, y = pl B (B.length - 1) := ⟨_, rfl⟩
          rw [← ey] at C2 ⊢
          have EY := Lib.hid ey; clear ey hz
          by_cases hxy : x = y
          · have t2 : (x == y) = true := by simpa using hxy
            clear hxy
            go_wp2_with (go_at_call 21; with_reducible refine Calls.mono (C2.out _) ?_; rintro e w3 ⟨rfl, hb⟩; replace HC := Lib.hid (HC.out.trans (hb.mono (HN.out _ HC.out))); clear hb)
            go_ret
            exact ⟨rfl, HC.out⟩
          · have t2 : (x == y) = false := by simpa using hxy
            have hw := HWAY.out (by rw [← EX.out, ← EY.out]; exact hxy)
            have HW := Lib.hid hw; clear hw hxy
            go_wp2_with (first
              | (go_at_call 21; with_reducible refine Calls.mono (C2.out _) ?_; rintro e w3 ⟨rfl, hb⟩; replace HC := Lib.hid (HC.out.trans (hb.mono (HN.out _ HC.out))); clear hb)
              | (go_at_call 25; with_reducible refine Calls.mono (B1.out _) ?_; rintro e w4 ⟨v4, rfl, ho, hb⟩; have HL := Lib.hid ((own_lit w3 N a (HN.out _ HC.out)).below hb); have H4 := Lib.hid ((HC.out.alloc (HN.out _ HC.out) _).trans (hb.mono (by have := HN.out _ HC.out; simp; omega))); obtain ⟨A4, c4, rfl, r4⟩ := ho.slice; have R4 := Lib.hid r4; clear r4 ho hb)
              | (at_builtin; refine app_rd rfl (.tmp 41) (.tmp 44) rfl N _ [a] rfl HL.out _ A4 c4 M rfl R4.out (by simp; omega) (HN.out _ H4.out) ?_; intro v5 w5 ho5 hb5; have H5 := Lib.hid (H4.out.trans hb5); have HO5 := Lib.hid ho5; clear ho5 hb5 HL R4)
              | (at_builtin; refine app_one rfl (.tmp 45) (.tmp 47) rfl N _ _ rfl HO5.out b rfl (by simp; omega) (HN.out _ H5.out) ?_; intro v6 w6 ho6 hb6; have H6 := Lib.hid (H5.out.trans hb6); obtain ⟨A6, c6, rfl, r6⟩ := ho6.slice; have R6 := Lib.hid r6; clear ho6 hb6 r6))
            obtain ⟨b6, o6, rfl, _, hc6⟩ := rd_all R6.out (by simp)
            have hW : [a] ++ M ++ [b] = A ++ B.reverse := by rw [← HW.out]; simp
            have hcl := congrArg List.length hW
            simp only [List.length_append, List.length_cons, List.length_nil, List.length_reverse] at hcl
            have hcA : ∀ i, i < A.length → w6.cell? ⟨b6, o6 + i, none⟩ = some (.string ⟨(pl A i).toArray⟩) := by
              intro i hi
              have h := hc6 i (by simp; omega)
              rwa [hW, pl_append_left hi] at h
            have hcB : w6.cell? ⟨b6, o6 + A.length, none⟩ = some (.string ⟨y.toArray⟩) := by
              have h := hc6 A.length (by simp; omega)
              rwa [hW, pl_append_right (Nat.le_refl _), Nat.sub_self, pl_reverse (j := B.length - 1) (by omega), ← EY.out] at h
            have HCA := Lib.hid hcA; clear hcA
            have HCB := Lib.hid hcB; clear hcB
            have hml : ((M.length : Int) + 1 + 1) = (A.length : Int) + (B.length : Int) := by omega
            have HML := Lib.hid hml
            have H6' := Lib.hid (show Below N w w6 from H6.out)
            clear hc6 hW hml R6
            obtain ⟨K, eK⟩ : ∃ K, K = M.length + 1 + 1 := ⟨_, rfl⟩
            rw [← eK]
            have EK := Lib.hid eK
            have hK1 : A.length < K := by omega
            have hK2 : K ≤ 100 := by omega
            clear eK hcl
            go_loop [8] (fun iv => ∃ i : Nat, i < A.length ∧ iv = .int .i64 ((i : Int) + 1)) (fun iv => 100 - (intOf iv).toNat)
            case atStart => exact ⟨0, by omega, rfl⟩
            case round =>
              obtain ⟨i, hia, rfl⟩ := hrel
              have e1 : (i : Int) + 1 < (K : Int) := by omega
              have e2 : (0 : Int) ≤ (i : Int) := by omega
              have hci := HCA.out i hia
              by_cases hlast : i + 1 < A.length
              · have t3 : (pl A i == x) = false := by
                  simp only [beq_eq_false_iff_ne, ne_eq, EX.out]
                  intro q
                  have := HINJ.out i (A.length - 1) hia (by omega) q
                  omega
                go_wp2
                go_round
                case rel => exact ⟨i + 1, hlast, by go_num⟩
                case measure => simp [intOf]; omega
              · obtain rfl : i = A.length - 1 := by omega
                rw [← EX.out] at hci
                have hcb := HCB.out
                obtain ⟨i, ei⟩ : ∃ i, i = A.length - 1 := ⟨_, rfl⟩
                rw [show A.length = i + 1 by omega] at hcb
                rw [← ei] at hci e1 e2 ⊢
                have EI := Lib.hid ei; clear ei hlast hia
                go_wp2_with (go_at_call 31; with_reducible refine Calls.mono (CK.out _) ?_; rintro e w7 ⟨rfl, hb⟩; have H7 := Lib.hid (H6'.out.trans (hb.mono (HN.out _ H6'.out))); clear hb)
                go_ret
                exact ⟨rfl, H7.out⟩
theorem tops_no (a b : L) (w : World) (h1 : a.length ≤ 140737488351232) (h2 : b.length ≤ 140737488351232) (hs : 200 < a.length + b.length) : Calls Try.prog 9 #[.string ⟨a.toArray⟩, .string ⟨b.toArray⟩] w fun e w' => e = .returned (.bool true) ∧ Below w.heap.size w w' := by
  have e200 : (200 : Int) < (a.length : Int) + (b.length : Int) := by omega
  have HB := Lib.hid (Below.refl w.heap.size w)
  go_enter Try.func9, Try.ntmps9
  go_wp2
  go_ret
  exact ⟨rfl, HB.out⟩
theorem tops_not (a b : L) (w : World) (hs : a.length + b.length ≤ 200) (h : isL a = false ∨ (isL a = true ∧ isL b = false)) : Calls Try.prog 9 #[.string ⟨a.toArray⟩, .string ⟨b.toArray⟩] w fun e w' => e = .returned (.bool true) ∧ Below w.heap.size w w' := by
  have e200 : ¬ (200 : Int) < (a.length : Int) + (b.length : Int) := by omega
  have i1 := fun w1 => ris_any a w1 (by omega)
  have i2 := fun w1 => ris_any b w1 (by omega)
  have H := Lib.hid (Below.refl w.heap.size w)
  rcases h with h | ⟨h, h'⟩
  · rw [h] at i1
    have I1 := Lib.hid i1
    clear i1 i2 h
    go_enter Try.func9, Try.ntmps9
    go_wp2_with (go_at_call 17; with_reducible refine Calls.mono (I1.out _) ?_; rintro e w1 ⟨rfl, hb⟩; replace H := Lib.hid (H.out.trans (hb.mono H.out.size)); clear hb)
    go_ret
    exact ⟨rfl, H.out⟩
  · rw [h] at i1
    rw [h'] at i2
    have I1 := Lib.hid i1
    have I2 := Lib.hid i2
    clear i1 i2 h h'
    go_enter Try.func9, Try.ntmps9
    go_wp2_with (first
      | (go_at_call 17; with_reducible refine Calls.mono (I1.out _) ?_; rintro e w1 ⟨rfl, hb⟩; replace H := Lib.hid (H.out.trans (hb.mono H.out.size)); clear hb)
      | (go_at_call 17; with_reducible refine Calls.mono (I2.out _) ?_; rintro e w1 ⟨rfl, hb⟩; replace H := Lib.hid (H.out.trans (hb.mono H.out.size)); clear hb))
    go_ret
    exact ⟨rfl, H.out⟩
theorem tops_ (s1 s2 : ByteArray) (w : World) (h1 : s1.data.toList.length ≤ reachBytes) (h2 : s2.data.toList.length ≤ reachBytes) : Calls Try.prog 9 #[.string s1, .string s2] w fun e w' => e = .returned (.bool true) ∧ Below w.heap.size w w' := by
  rw [reach_val] at h1 h2
  obtain ⟨a, rfl⟩ : ∃ a : L, s1 = ⟨a.toArray⟩ := ⟨_, bytes_eta s1⟩
  obtain ⟨b, rfl⟩ : ∃ a : L, s2 = ⟨a.toArray⟩ := ⟨_, bytes_eta s2⟩
  simp only at h1 h2
  by_cases h : a.length + b.length ≤ 200
  · cases ha : isL a with
    | false => exact tops_not a b w h (.inl ha)
    | true =>
      cases hb : isL b with
      | false => exact tops_not a b w h (.inr ⟨ha, hb⟩)
      | true => exact tops_yes a b w h ha hb
  · exact tops_no a b w h1 h2 (by omega)
end Go.Proofs.Ytpjilcngibaepaa.NmW
