/-
  NameWay walked.
-/
import Derived.Test.YtpjilcngibaepaaNmLaw1
import Derived.Test.YtpjilcngibaepaaNmRefB
import Derived.Test.YtpjilcngibaepaaNmPlain3
import Derived.Test.YtpjilcngibaepaaNmAll
import Derived.Test.YtpjilcngibaepaaRegion
import Derived.IntWalk
set_option linter.unusedVariables false
namespace Go.Proofs.Ytpjilcngibaepaa.NmW
open Go.RowKit Go.Proofs.Ytpjilcngibaepaa.Mem Go.Proofs.Ytpjilcngibaepaa.Nm

set_option maxHeartbeats 3200000 in
set_option maxRecDepth 100000 in
theorem way_yes (a b : L) (w : World) (hs : a.length + b.length ≤ 200) (ha : isL a = true) (hb : isL b = true) (hab : a ≠ b) : Calls Try.prog 5 #[.string ⟨a.toArray⟩, .string ⟨b.toArray⟩] w fun e w' => e = .returned (.bool true) ∧ Below w.heap.size w w' := by
  have e200 : ¬ (200 : Int) < (a.length : Int) + (b.length : Int) := by omega
  have t0 : (a == b) = false := by simpa using hab
  have i1 := fun w1 => ris_any a w1 (by omega)
  have i2 := fun w1 => ris_any b w1 (by omega)
  rw [ha] at i1
  rw [hb] at i2
  have ka : kindL a ≠ 0 := by simp [isL] at ha; omega
  have kb : kindL b ≠ 0 := by simp [isL] at hb; omega
  have I1 := Lib.hid i1; clear i1
  have I2 := Lib.hid i2; clear i2
  have b1 := fun w1 => between_any a b w1 (by omega) (by omega)
  have hlen := between_len a b
  have hway := path_between ka kb hab
  have hwl : ∀ x ∈ pathL (ch a) (ch b), x.length ≤ 200 := fun x hx => by
    rcases path_mem hx with h | h
    · have := mem_len h; omega
    · have := mem_len h; omega
  have hwk : ∀ x ∈ pathL (ch a) (ch b), isL x = true := fun x hx => by have := path_kind ka kb hx; simp [isL]; omega
  have hst := path_steps ka kb
  have hnd := path_nodup a b
  obtain ⟨W, eW⟩ : ∃ W, W = pathL (ch a) (ch b) := ⟨_, rfl⟩
  rw [← eW] at hway hwl hwk hst hnd
  obtain ⟨M, eM⟩ : ∃ M, M = betweenL a b := ⟨_, rfl⟩
  rw [← eM] at b1 hlen hway
  have hW : [a] ++ M ++ [b] = W := by rw [← hway]; simp
  have hWl : W.length = M.length + 1 + 1 := by rw [← hW]; simp
  have HW := Lib.hid hW; clear hW
  have HST := Lib.hid hst; clear hst
  have HND := Lib.hid (fun i j hi hj e => nodup_pl hnd (i := i) (j := j) hi hj e); clear hnd
  have u1 := fun (i : Nat) (hi : i < W.length) w1 => up_any (pl W i) w1 (by have := hwl _ (pl_mem hi); omega)
  have s1 := fun (i : Nat) (hi : i < W.length) w1 => is_any (pl W i) w1 (by have := hwl _ (pl_mem hi); omega)
  have s2 : ∀ (i : Nat) (hi : i < W.length) w1, Calls Try.prog 16 #[.string ⟨(pl W i).toArray⟩] w1 fun e w' => e = .returned (.bool true) ∧ Drawn w1 w' := fun i hi w1 => by
    have := s1 i hi w1
    rwa [hwk _ (pl_mem hi)] at this
  have U1 := Lib.hid u1; clear u1
  have S2 := Lib.hid s2; clear s1 s2
  have HNEW := Lib.hid (show ∀ i, i < W.length → pl W i ≠ [] from fun i hi e => by have := hwk _ (pl_mem hi); rw [e] at this; revert this; decide)
  have B1 := Lib.hid b1; clear b1
  have CK := Lib.hid (fun w1 => known_any w1)
  clear hwl hwk hway eW eM ka kb ha hb hab
  have HWL := Lib.hid hWl; clear hWl
  obtain ⟨N, eN⟩ : ∃ N, N = w.heap.size := ⟨_, rfl⟩
  rw [← eN]
  have H := Lib.hid (show Below N w w by exact Below.refl _ _)
  have EN := Lib.hid eN; clear eN
  have HN := Lib.hid (show ∀ w1 : World, Below N w w1 → N ≤ w1.heap.size from fun w1 h => by have := h.size; have := EN.out; omega)
  go_enter Try.func5, Try.ntmps5
  go_wp2_with (first
    | (go_at_call 17; with_reducible refine Calls.mono (I1.out _) ?_; rintro e w1 ⟨rfl, hb⟩; replace H := Lib.hid (H.out.trans (hb.mono (HN.out _ H.out))); clear hb)
    | (go_at_call 17; with_reducible refine Calls.mono (I2.out _) ?_; rintro e w3 ⟨rfl, hb⟩; replace H := Lib.hid (H.out.trans (hb.mono (HN.out _ H.out))); clear hb)
    | (go_at_call 25; with_reducible refine Calls.mono (B1.out _) ?_; rintro e w4 ⟨v4, rfl, ho, hb⟩; have HL := Lib.hid ((own_lit w3 N a (HN.out _ H.out)).below hb); have H4 := Lib.hid ((H.out.alloc (HN.out _ H.out) _).trans (hb.mono (by have := HN.out _ H.out; simp; omega))); obtain ⟨A4, c4, rfl, r4⟩ := ho.slice; have R4 := Lib.hid r4; clear r4 ho hb)
    | (at_builtin; refine app_rd rfl (.tmp 32) (.tmp 35) rfl N _ [a] rfl HL.out _ A4 c4 M rfl R4.out (by simp; omega) (HN.out _ H4.out) ?_; intro v5 w5 ho5 hb5; have H5 := Lib.hid (H4.out.trans hb5); have HO5 := Lib.hid ho5; clear ho5 hb5 HL R4)
    | (at_builtin; refine app_one rfl (.tmp 36) (.tmp 38) rfl N _ _ rfl HO5.out b rfl (by simp; omega) (HN.out _ H5.out) ?_; intro v6 w6 ho6 hb6; have H6 := Lib.hid (H5.out.trans hb6); obtain ⟨A6, c6, rfl, r6⟩ := ho6.slice; have R6 := Lib.hid r6; clear ho6 hb6 r6))
  obtain ⟨b6, o6, rfl, hb6, hc6⟩ := rd_all R6.out (by simp)
  have hcA : ∀ i, i < W.length → w6.cell? ⟨b6, o6 + i, none⟩ = some (.string ⟨(pl W i).toArray⟩) := by
    intro i hi
    have h := hc6 i (by rw [HW.out]; exact hi)
    rwa [HW.out] at h
  have HCA := Lib.hid hcA; clear hcA
  have HB6 := Lib.hid hb6; clear hb6
  clear hc6 R6
  rw [show M.length + 1 + 1 = W.length from HWL.out.symm]
  obtain ⟨K, eK⟩ : ∃ K, K = W.length := ⟨_, rfl⟩
  have hK : K ≤ 100 := by rw [eK, HWL.out]; omega
  rw [← eK]
  have EK := Lib.hid eK; clear eK
  have H60 := Lib.hid (Below.refl w6.heap.size w6)
  have HCW := Lib.hid (show ∀ w1 i, Below w6.heap.size w6 w1 → i < K → w1.cell? ⟨b6, o6 + i, none⟩ = some (.string ⟨(pl W i).toArray⟩) from fun w1 i h hi => (h.cell (p := ⟨b6, o6 + i, none⟩) HB6.out).trans (HCA.out i (by rw [← EK.out]; exact hi)))
  go_loopg [6] K (fun g iv wr => ∃ i : Nat, i + g = K ∧ iv = .int .i64 (i : Int) ∧ Below w6.heap.size w6 wr)
  case atStart => exact ⟨0, Nat.zero_add _, rfl, H60.out⟩
  case round =>
    obtain ⟨i, hi, rfl, hb⟩ := hrel
    have HI := Lib.hid hi; clear hi
    have HB := Lib.hid hb; clear hb
    by_cases hlt : i < K
    · have e1 : (i : Int) < (K : Int) := by omega
      have e2 : (0 : Int) ≤ (i : Int) := by omega
      have hci := HCW.out wr i HB.out hlt
      have c1 := S2.out i (by rw [← EK.out]; exact hlt) wr
      go_wp2_with (go_at_call 16; with_reducible refine Calls.mono c1 ?_; rintro e w7 ⟨rfl, hd⟩; have H7 := Lib.hid (HB.out.trans (hd.below.mono HB.out.size)); clear hd c1 hci)
      obtain ⟨wo, rfl⟩ : ∃ wo : World, wo = wr := ⟨_, rfl⟩
      go_loopw [7] (fun kv wr => ∃ k : Nat, k ≤ i ∧ kv = .int .i64 (k : Int) ∧ Below w6.heap.size w6 wr) (fun kv _ => 100 - (intOf kv).toNat)
      case atStart => exact ⟨0, Nat.zero_le _, rfl, H7.out⟩
      case round =>
        obtain ⟨k, hk, rfl, hb⟩ := hrel
        have HC := Lib.hid hb; clear hb
        by_cases hkl : k < i
        · have e3 : (k : Int) < (i : Int) := by omega
          have e4 : (0 : Int) ≤ (k : Int) := by omega
          have e5 : (k : Int) < (K : Int) := by omega
          have hck := HCW.out wr k HC.out (by omega)
          have hci := HCW.out wr i HC.out hlt
          have t1 : (pl W k == pl W i) = false := by
            simp only [beq_eq_false_iff_ne, ne_eq]
            intro q
            have := HND.out k i (by rw [← EK.out]; omega) (by rw [← EK.out]; omega) q
            omega
          go_wp2
          go_quiet (fail)
          go_wp2
          go_roundw
          case rel => exact ⟨k + 1, by omega, by go_num, below_drewN HC.out _⟩
          case measure => simp [intOf]; omega
        · have e3 : ¬ (k : Int) < (i : Int) := by omega
          by_cases hi0 : i = 0
          · have t2 : ((i : Int) == 0) = true := by simp; omega
            have HZ := Lib.hid hi0; clear hi0
            go_wp2
            go_roundg (K - (i + 1))
            case measure => have := HI.out; omega
            case rel => exact ⟨i + 1, by have := HI.out; omega, by go_num, HC.out⟩
          · have t2 : ((i : Int) == 0) = false := by simp; omega
            obtain ⟨j, rfl⟩ : ∃ j, i = j + 1 := ⟨i - 1, by omega⟩
            have hci := HCW.out wr (j + 1) HC.out hlt
            have hcj := HCW.out wr j HC.out (by omega)
            have hok := HST.out j (by rw [← EK.out]; exact hlt)
            have cy := U1.out (j + 1) (by rw [← EK.out]; exact hlt)
            have cx := U1.out j (by rw [← EK.out]; omega)
            have HCI := Lib.hid (show ∀ w1, Below w6.heap.size w6 w1 → w1.cell? ⟨b6, o6 + (j + 1), none⟩ = some (.string ⟨(pl W (j + 1)).toArray⟩) from fun w1 h => HCW.out w1 (j + 1) h hlt)
            have HCJ := Lib.hid (show ∀ w1, Below w6.heap.size w6 w1 → w1.cell? ⟨b6, o6 + j, none⟩ = some (.string ⟨(pl W j).toArray⟩) from fun w1 h => HCW.out w1 j h (by omega))
            obtain ⟨x, ex⟩ : ∃ x, x = pl W j := ⟨_, rfl⟩
            obtain ⟨y, ey⟩ : ∃ y, y = pl W (j + 1) := ⟨_, rfl⟩
            rw [← ex] at hcj hok cx HCJ
            rw [← ey] at hci hok cy HCI
            obtain ⟨ux, eux⟩ : ∃ ux, ux = upL x := ⟨_, rfl⟩
            obtain ⟨uy, euy⟩ : ∃ uy, uy = upL y := ⟨_, rfl⟩
            rw [okS, ← eux, ← euy] at hok
            rw [← eux] at cx
            rw [← euy] at cy
            have CX := Lib.hid cx; clear cx
            have CY := Lib.hid cy; clear cy
            have HOK := Lib.hid hok; clear hok
            have hxne : x ≠ [] := by rw [ex]; exact HNEW.out j (by rw [← EK.out]; omega)
            have hyne : y ≠ [] := by rw [ey]; exact HNEW.out (j + 1) (by rw [← EK.out]; exact hlt)
            clear ex ey eux euy
            have e7 : IntKind.i64.wrap ((j : Int) + 1 - 1) = (j : Int) := (IntWalk.i64_in _ (by omega)).trans (by omega)
            have e7' : IntKind.i64.wrap (j : Int) = (j : Int) := IntWalk.i64_in _ (by omega)
            have e10 : (0 : Int) ≤ (j : Int) + 1 := by omega
            have e11 : (j : Int) + 1 < (K : Int) := by omega
            have e12 : ((j : Int) + 1).toNat = j + 1 := by omega
            have e8 : (0 : Int) ≤ (j : Int) := by omega
            have e9 : (j : Int) < (K : Int) := by omega
            by_cases hs1 : uy = x
            · have t3 : (uy == x) = true := by simpa using hs1
              have t5 : (uy == []) = false := by simpa [hs1] using hxne
              clear hs1 hxne hyne
              go_wp2
              replace HC := Lib.hid (show Below w6.heap.size w6 wr.drew from below_drewN HC.out 1)
              refine Reg.region_begin 25 rfl (by kernel_rfl) ?_
              refine Reg.take_op 0 (v := ?va0) rfl (by kernel_rfl) (by kernel_rfl) (by kernel_rfl) (fun _ _ _ h => h) (by rfl) (fun w' hS => ?ha0) ?ra0
              case ha0 => go_simp; rfl
              simp only [Act.put, List.setIfInBounds_toArray, List.set_cons_zero, List.set_cons_succ]
              refine Reg.take_op 1 (v := ?va1) rfl (by kernel_rfl) (by kernel_rfl) (by kernel_rfl) (fun _ _ _ h => h) (by rfl) (fun w' hS => ?ha1) ?ra1
              case ha1 => go_simp; rfl
              simp only [Act.put, List.setIfInBounds_toArray, List.set_cons_zero, List.set_cons_succ]
              refine Reg.take_op 2 (v := ?va2) rfl (by kernel_rfl) (by kernel_rfl) (by kernel_rfl) (fun _ _ _ h => h) (by rfl) (fun w' hS => ?ha2) ?ra2
              case ha2 => go_simp; rfl
              simp only [Act.put, List.setIfInBounds_toArray, List.set_cons_zero, List.set_cons_succ]
              refine Reg.take_op 3 (v := ?va3) rfl (by kernel_rfl) (by kernel_rfl) (by kernel_rfl) (fun _ _ _ h => h) (by rfl) (fun w' hS => ?ha3) ?ra3
              case ha3 => have hh := HCI.out w' (HC.out.trans (hS.mono HC.out.size)); go_simp; rfl
              simp only [Act.put, List.setIfInBounds_toArray, List.set_cons_zero, List.set_cons_succ]
              refine Reg.take_op 5 (v := ?va5) rfl (by kernel_rfl) (by kernel_rfl) (by kernel_rfl) (fun _ _ _ h => h) (by rfl) (fun w' hS => ?ha5) ?ra5
              case ha5 => go_simp; rfl
              simp only [Act.put, List.setIfInBounds_toArray, List.set_cons_zero, List.set_cons_succ]
              refine Reg.take_op 6 (v := ?va6) rfl (by kernel_rfl) (by kernel_rfl) (by kernel_rfl) (fun _ _ _ h => h) (by rfl) (fun w' hS => ?ha6) ?ra6
              case ha6 => go_simp; rfl
              simp only [Act.put, List.setIfInBounds_toArray, List.set_cons_zero, List.set_cons_succ]
              refine Reg.take_op 7 (v := ?va7) rfl (by kernel_rfl) (by kernel_rfl) (by kernel_rfl) (fun _ _ _ h => h) (by rfl) (fun w' hS => ?ha7) ?ra7
              case ha7 => go_simp; rfl
              simp only [Act.put, List.setIfInBounds_toArray, List.set_cons_zero, List.set_cons_succ]
              refine Reg.take_op 8 (v := ?va8) rfl (by kernel_rfl) (by kernel_rfl) (by kernel_rfl) (fun _ _ _ h => h) (by rfl) (fun w' hS => ?ha8) ?ra8
              case ha8 => go_simp; rfl
              simp only [Act.put, List.setIfInBounds_toArray, List.set_cons_zero, List.set_cons_succ]
              refine Reg.take_op 9 (v := ?va9) rfl (by kernel_rfl) (by kernel_rfl) (by kernel_rfl) (fun _ _ _ h => h) (by rfl) (fun w' hS => ?ha9) ?ra9
              case ha9 => have hh := HCJ.out w' (HC.out.trans (hS.mono HC.out.size)); go_simp; rfl
              simp only [Act.put, List.setIfInBounds_toArray, List.set_cons_zero, List.set_cons_succ]
              refine Reg.call_op 4 rfl (by kernel_rfl) (by rfl) 20 #[.string ⟨y.toArray⟩] (by go_simp) ?_
              refine Calls.mono (CY.out _) ?_
              rintro e w8 ⟨rfl, hb⟩
              refine ⟨_, rfl, hb, ?_⟩
              replace HC := Lib.hid (HC.out.trans (hb.mono HC.out.size)); clear hb
              simp only [Act.put, List.setIfInBounds_toArray, List.set_cons_zero, List.set_cons_succ]
              refine Reg.take_op 10 (v := ?va10) rfl (by kernel_rfl) (by kernel_rfl) (by kernel_rfl) (fun _ _ _ h => h) (by rfl) (fun w' hS => ?ha10) ?ra10
              case ha10 => go_simp; rfl
              simp only [Act.put, List.setIfInBounds_toArray, List.set_cons_zero, List.set_cons_succ]
              refine Reg.take_op 11 (v := ?va11) rfl (by kernel_rfl) (by kernel_rfl) (by kernel_rfl) (fun _ _ _ h => h) (by rfl) (fun w' hS => ?ha11) ?ra11
              case ha11 => go_simp; rfl
              simp only [Act.put, List.setIfInBounds_toArray, List.set_cons_zero, List.set_cons_succ]
              refine Reg.skip_op 12 rfl (by kernel_rfl) (by kernel_rfl) (by kernel_rfl) (fun _ _ _ h => h) (by rfl) ?_
              simp only [Act.put, List.setIfInBounds_toArray, List.set_cons_zero, List.set_cons_succ]
              refine Reg.skip_op 13 rfl (by kernel_rfl) (by kernel_rfl) (by kernel_rfl) (fun _ _ _ h => h) (by rfl) ?_
              simp only [Act.put, List.setIfInBounds_toArray, List.set_cons_zero, List.set_cons_succ]
              refine Reg.skip_op 14 rfl (by kernel_rfl) (by kernel_rfl) (by kernel_rfl) (fun _ _ _ h => h) (by rfl) ?_
              simp only [Act.put, List.setIfInBounds_toArray, List.set_cons_zero, List.set_cons_succ]
              refine Reg.skip_op 15 rfl (by kernel_rfl) (by kernel_rfl) (by kernel_rfl) (fun _ _ _ h => h) (by rfl) ?_
              simp only [Act.put, List.setIfInBounds_toArray, List.set_cons_zero, List.set_cons_succ]
              refine Reg.skip_op 16 rfl (by kernel_rfl) (by kernel_rfl) (by kernel_rfl) (fun _ _ _ h => h) (by rfl) ?_
              simp only [Act.put, List.setIfInBounds_toArray, List.set_cons_zero, List.set_cons_succ]
              refine Reg.skip_op 17 rfl (by kernel_rfl) (by kernel_rfl) (by kernel_rfl) (fun _ _ _ h => h) (by rfl) ?_
              simp only [Act.put, List.setIfInBounds_toArray, List.set_cons_zero, List.set_cons_succ]
              refine Reg.skip_op 18 rfl (by kernel_rfl) (by kernel_rfl) (by kernel_rfl) (fun _ _ _ h => h) (by rfl) ?_
              simp only [Act.put, List.setIfInBounds_toArray, List.set_cons_zero, List.set_cons_succ]
              refine Reg.skip_op 19 rfl (by kernel_rfl) (by kernel_rfl) (by kernel_rfl) (fun _ _ _ h => h) (by rfl) ?_
              simp only [Act.put, List.setIfInBounds_toArray, List.set_cons_zero, List.set_cons_succ]
              refine Reg.skip_op 20 rfl (by kernel_rfl) (by kernel_rfl) (by kernel_rfl) (fun _ _ _ h => h) (by rfl) ?_
              simp only [Act.put, List.setIfInBounds_toArray, List.set_cons_zero, List.set_cons_succ]
              refine Reg.skip_op 21 rfl (by kernel_rfl) (by kernel_rfl) (by kernel_rfl) (fun _ _ _ h => h) (by rfl) ?_
              simp only [Act.put, List.setIfInBounds_toArray, List.set_cons_zero, List.set_cons_succ]
              refine Reg.skip_op 22 rfl (by kernel_rfl) (by kernel_rfl) (by kernel_rfl) (fun _ _ _ h => h) (by rfl) ?_
              simp only [Act.put, List.setIfInBounds_toArray, List.set_cons_zero, List.set_cons_succ]
              refine Reg.take_op 23 (v := ?va23) rfl (by kernel_rfl) (by kernel_rfl) (by kernel_rfl) (fun _ _ _ h => h) (by rfl) (fun w' hS => ?ha23) ?ra23
              case ha23 => go_simp; rfl
              simp only [Act.put, List.setIfInBounds_toArray, List.set_cons_zero, List.set_cons_succ]
              refine Reg.take_op 24 (v := ?va24) rfl (by kernel_rfl) (by kernel_rfl) (by kernel_rfl) (fun _ _ _ h => h) (by rfl) (fun w' hS => ?ha24) ?ra24
              case ha24 => go_simp; rfl
              simp only [Act.put, List.setIfInBounds_toArray, List.set_cons_zero, List.set_cons_succ]
              refine wpAnyH_done (by kernel_rfl) ?_ _
              have hci8 := HCI.out _ HC.out
              go_wp2_with (first
                | (go_at_call 20; with_reducible refine Calls.mono (CY.out _) ?_; rintro e w9 ⟨rfl, hb⟩; replace HC := Lib.hid (HC.out.trans (hb.mono HC.out.size)); have hcj9 := HCJ.out _ HC.out; clear hb)
                | (go_at_call 20; with_reducible refine Calls.mono (CX.out _) ?_; rintro e w10 ⟨rfl, hb⟩; replace HC := Lib.hid (HC.out.trans (hb.mono HC.out.size)); clear hb))
              go_roundg (K - (j + 1 + 1))
              case measure => have := HI.out; omega
              case rel => exact ⟨j + 1 + 1, by have := HI.out; omega, by go_num, HC.out⟩
            · have t3 : (uy == x) = false := by simpa using hs1
              by_cases hs2 : ux = y
              · have t4 : (ux == y) = true := by simpa using hs2
                have t6 : (ux == []) = false := by simpa [hs2] using hyne
                clear hs2 hxne hyne
                cases t5 : (uy == []) with
                | true =>
                  go_wp2
                  replace HC := Lib.hid (show Below w6.heap.size w6 wr.drew from below_drewN HC.out 1)
                  refine Reg.region_begin 25 rfl (by kernel_rfl) ?_
                  refine Reg.take_op 0 (v := ?vc0) rfl (by kernel_rfl) (by kernel_rfl) (by kernel_rfl) (fun _ _ _ h => h) (by rfl) (fun w' hS => ?hc0) ?rc0
                  case hc0 => go_simp; rfl
                  simp only [Act.put, List.setIfInBounds_toArray, List.set_cons_zero, List.set_cons_succ]
                  refine Reg.take_op 1 (v := ?vc1) rfl (by kernel_rfl) (by kernel_rfl) (by kernel_rfl) (fun _ _ _ h => h) (by rfl) (fun w' hS => ?hc1) ?rc1
                  case hc1 => go_simp; rfl
                  simp only [Act.put, List.setIfInBounds_toArray, List.set_cons_zero, List.set_cons_succ]
                  refine Reg.take_op 2 (v := ?vc2) rfl (by kernel_rfl) (by kernel_rfl) (by kernel_rfl) (fun _ _ _ h => h) (by rfl) (fun w' hS => ?hc2) ?rc2
                  case hc2 => go_simp; rfl
                  simp only [Act.put, List.setIfInBounds_toArray, List.set_cons_zero, List.set_cons_succ]
                  refine Reg.take_op 3 (v := ?vc3) rfl (by kernel_rfl) (by kernel_rfl) (by kernel_rfl) (fun _ _ _ h => h) (by rfl) (fun w' hS => ?hc3) ?rc3
                  case hc3 => have hh := HCI.out w' (HC.out.trans (hS.mono HC.out.size)); go_simp; rfl
                  simp only [Act.put, List.setIfInBounds_toArray, List.set_cons_zero, List.set_cons_succ]
                  refine Reg.take_op 5 (v := ?vc5) rfl (by kernel_rfl) (by kernel_rfl) (by kernel_rfl) (fun _ _ _ h => h) (by rfl) (fun w' hS => ?hc5) ?rc5
                  case hc5 => go_simp; rfl
                  simp only [Act.put, List.setIfInBounds_toArray, List.set_cons_zero, List.set_cons_succ]
                  refine Reg.take_op 6 (v := ?vc6) rfl (by kernel_rfl) (by kernel_rfl) (by kernel_rfl) (fun _ _ _ h => h) (by rfl) (fun w' hS => ?hc6) ?rc6
                  case hc6 => go_simp; rfl
                  simp only [Act.put, List.setIfInBounds_toArray, List.set_cons_zero, List.set_cons_succ]
                  refine Reg.take_op 7 (v := ?vc7) rfl (by kernel_rfl) (by kernel_rfl) (by kernel_rfl) (fun _ _ _ h => h) (by rfl) (fun w' hS => ?hc7) ?rc7
                  case hc7 => go_simp; rfl
                  simp only [Act.put, List.setIfInBounds_toArray, List.set_cons_zero, List.set_cons_succ]
                  refine Reg.take_op 8 (v := ?vc8) rfl (by kernel_rfl) (by kernel_rfl) (by kernel_rfl) (fun _ _ _ h => h) (by rfl) (fun w' hS => ?hc8) ?rc8
                  case hc8 => go_simp; rfl
                  simp only [Act.put, List.setIfInBounds_toArray, List.set_cons_zero, List.set_cons_succ]
                  refine Reg.take_op 9 (v := ?vc9) rfl (by kernel_rfl) (by kernel_rfl) (by kernel_rfl) (fun _ _ _ h => h) (by rfl) (fun w' hS => ?hc9) ?rc9
                  case hc9 => have hh := HCJ.out w' (HC.out.trans (hS.mono HC.out.size)); go_simp; rfl
                  simp only [Act.put, List.setIfInBounds_toArray, List.set_cons_zero, List.set_cons_succ]
                  refine Reg.call_op 4 rfl (by kernel_rfl) (by rfl) 20 #[.string ⟨y.toArray⟩] (by go_simp) ?_
                  refine Calls.mono (CY.out _) ?_
                  rintro e w8 ⟨rfl, hb⟩
                  refine ⟨_, rfl, hb, ?_⟩
                  replace HC := Lib.hid (HC.out.trans (hb.mono HC.out.size)); clear hb
                  simp only [Act.put, List.setIfInBounds_toArray, List.set_cons_zero, List.set_cons_succ]
                  refine Reg.take_op 10 (v := ?vc10) rfl (by kernel_rfl) (by kernel_rfl) (by kernel_rfl) (fun _ _ _ h => h) (by rfl) (fun w' hS => ?hc10) ?rc10
                  case hc10 => go_simp; rfl
                  simp only [Act.put, List.setIfInBounds_toArray, List.set_cons_zero, List.set_cons_succ]
                  refine Reg.take_op 11 (v := ?vc11) rfl (by kernel_rfl) (by kernel_rfl) (by kernel_rfl) (fun _ _ _ h => h) (by rfl) (fun w' hS => ?hc11) ?rc11
                  case hc11 => go_simp; rfl
                  simp only [Act.put, List.setIfInBounds_toArray, List.set_cons_zero, List.set_cons_succ]
                  refine Reg.take_op 12 (v := ?vc12) rfl (by kernel_rfl) (by kernel_rfl) (by kernel_rfl) (fun _ _ _ h => h) (by rfl) (fun w' hS => ?hc12) ?rc12
                  case hc12 => go_simp; rfl
                  simp only [Act.put, List.setIfInBounds_toArray, List.set_cons_zero, List.set_cons_succ]
                  refine Reg.take_op 13 (v := ?vc13) rfl (by kernel_rfl) (by kernel_rfl) (by kernel_rfl) (fun _ _ _ h => h) (by rfl) (fun w' hS => ?hc13) ?rc13
                  case hc13 => go_simp; rfl
                  simp only [Act.put, List.setIfInBounds_toArray, List.set_cons_zero, List.set_cons_succ]
                  refine Reg.take_op 14 (v := ?vc14) rfl (by kernel_rfl) (by kernel_rfl) (by kernel_rfl) (fun _ _ _ h => h) (by rfl) (fun w' hS => ?hc14) ?rc14
                  case hc14 => go_simp; rfl
                  simp only [Act.put, List.setIfInBounds_toArray, List.set_cons_zero, List.set_cons_succ]
                  refine Reg.take_op 15 (v := ?vc15) rfl (by kernel_rfl) (by kernel_rfl) (by kernel_rfl) (fun _ _ _ h => h) (by rfl) (fun w' hS => ?hc15) ?rc15
                  case hc15 => go_simp; rfl
                  simp only [Act.put, List.setIfInBounds_toArray, List.set_cons_zero, List.set_cons_succ]
                  refine Reg.take_op 16 (v := ?vc16) rfl (by kernel_rfl) (by kernel_rfl) (by kernel_rfl) (fun _ _ _ h => h) (by rfl) (fun w' hS => ?hc16) ?rc16
                  case hc16 => have hh := HCJ.out w' (HC.out.trans (hS.mono HC.out.size)); go_simp; rfl
                  simp only [Act.put, List.setIfInBounds_toArray, List.set_cons_zero, List.set_cons_succ]
                  refine Reg.take_op 18 (v := ?vc18) rfl (by kernel_rfl) (by kernel_rfl) (by kernel_rfl) (fun _ _ _ h => h) (by rfl) (fun w' hS => ?hc18) ?rc18
                  case hc18 => go_simp; rfl
                  simp only [Act.put, List.setIfInBounds_toArray, List.set_cons_zero, List.set_cons_succ]
                  refine Reg.take_op 19 (v := ?vc19) rfl (by kernel_rfl) (by kernel_rfl) (by kernel_rfl) (fun _ _ _ h => h) (by rfl) (fun w' hS => ?hc19) ?rc19
                  case hc19 => go_simp; rfl
                  simp only [Act.put, List.setIfInBounds_toArray, List.set_cons_zero, List.set_cons_succ]
                  refine Reg.take_op 20 (v := ?vc20) rfl (by kernel_rfl) (by kernel_rfl) (by kernel_rfl) (fun _ _ _ h => h) (by rfl) (fun w' hS => ?hc20) ?rc20
                  case hc20 => go_simp; rfl
                  simp only [Act.put, List.setIfInBounds_toArray, List.set_cons_zero, List.set_cons_succ]
                  refine Reg.take_op 21 (v := ?vc21) rfl (by kernel_rfl) (by kernel_rfl) (by kernel_rfl) (fun _ _ _ h => h) (by rfl) (fun w' hS => ?hc21) ?rc21
                  case hc21 => have hh := HCI.out w' (HC.out.trans (hS.mono HC.out.size)); go_simp; rfl
                  simp only [Act.put, List.setIfInBounds_toArray, List.set_cons_zero, List.set_cons_succ]
                  refine Reg.call_op 17 rfl (by kernel_rfl) (by rfl) 20 #[.string ⟨x.toArray⟩] (by go_simp) ?_
                  refine Calls.mono (CX.out _) ?_
                  rintro e w8 ⟨rfl, hb⟩
                  refine ⟨_, rfl, hb, ?_⟩
                  replace HC := Lib.hid (HC.out.trans (hb.mono HC.out.size)); clear hb
                  simp only [Act.put, List.setIfInBounds_toArray, List.set_cons_zero, List.set_cons_succ]
                  refine Reg.take_op 22 (v := ?vc22) rfl (by kernel_rfl) (by kernel_rfl) (by kernel_rfl) (fun _ _ _ h => h) (by rfl) (fun w' hS => ?hc22) ?rc22
                  case hc22 => go_simp; rfl
                  simp only [Act.put, List.setIfInBounds_toArray, List.set_cons_zero, List.set_cons_succ]
                  refine Reg.take_op 23 (v := ?vc23) rfl (by kernel_rfl) (by kernel_rfl) (by kernel_rfl) (fun _ _ _ h => h) (by rfl) (fun w' hS => ?hc23) ?rc23
                  case hc23 => go_simp; rfl
                  simp only [Act.put, List.setIfInBounds_toArray, List.set_cons_zero, List.set_cons_succ]
                  refine Reg.take_op 24 (v := ?vc24) rfl (by kernel_rfl) (by kernel_rfl) (by kernel_rfl) (fun _ _ _ h => h) (by rfl) (fun w' hS => ?hc24) ?rc24
                  case hc24 => go_simp; rfl
                  simp only [Act.put, List.setIfInBounds_toArray, List.set_cons_zero, List.set_cons_succ]
                  refine wpAnyH_done (by kernel_rfl) ?_ _
                  have hci8 := HCI.out _ HC.out
                  go_wp2_with (first
                    | (go_at_call 20; with_reducible refine Calls.mono (CY.out _) ?_; rintro e w9 ⟨rfl, hb⟩; replace HC := Lib.hid (HC.out.trans (hb.mono HC.out.size)); have hcj9 := HCJ.out _ HC.out; clear hb)
                    | (go_at_call 20; with_reducible refine Calls.mono (CX.out _) ?_; rintro e w10 ⟨rfl, hb⟩; replace HC := Lib.hid (HC.out.trans (hb.mono HC.out.size)); clear hb))
                  go_roundg (K - (j + 1 + 1))
                  case measure => have := HI.out; omega
                  case rel => exact ⟨j + 1 + 1, by have := HI.out; omega, by go_num, HC.out⟩
                | false =>
                  go_wp2
                  replace HC := Lib.hid (show Below w6.heap.size w6 wr.drew from below_drewN HC.out 1)
                  refine Reg.region_begin 25 rfl (by kernel_rfl) ?_
                  refine Reg.take_op 0 (v := ?vd0) rfl (by kernel_rfl) (by kernel_rfl) (by kernel_rfl) (fun _ _ _ h => h) (by rfl) (fun w' hS => ?hd0) ?rd0
                  case hd0 => go_simp; rfl
                  simp only [Act.put, List.setIfInBounds_toArray, List.set_cons_zero, List.set_cons_succ]
                  refine Reg.take_op 1 (v := ?vd1) rfl (by kernel_rfl) (by kernel_rfl) (by kernel_rfl) (fun _ _ _ h => h) (by rfl) (fun w' hS => ?hd1) ?rd1
                  case hd1 => go_simp; rfl
                  simp only [Act.put, List.setIfInBounds_toArray, List.set_cons_zero, List.set_cons_succ]
                  refine Reg.take_op 2 (v := ?vd2) rfl (by kernel_rfl) (by kernel_rfl) (by kernel_rfl) (fun _ _ _ h => h) (by rfl) (fun w' hS => ?hd2) ?rd2
                  case hd2 => go_simp; rfl
                  simp only [Act.put, List.setIfInBounds_toArray, List.set_cons_zero, List.set_cons_succ]
                  refine Reg.take_op 3 (v := ?vd3) rfl (by kernel_rfl) (by kernel_rfl) (by kernel_rfl) (fun _ _ _ h => h) (by rfl) (fun w' hS => ?hd3) ?rd3
                  case hd3 => have hh := HCI.out w' (HC.out.trans (hS.mono HC.out.size)); go_simp; rfl
                  simp only [Act.put, List.setIfInBounds_toArray, List.set_cons_zero, List.set_cons_succ]
                  refine Reg.take_op 5 (v := ?vd5) rfl (by kernel_rfl) (by kernel_rfl) (by kernel_rfl) (fun _ _ _ h => h) (by rfl) (fun w' hS => ?hd5) ?rd5
                  case hd5 => go_simp; rfl
                  simp only [Act.put, List.setIfInBounds_toArray, List.set_cons_zero, List.set_cons_succ]
                  refine Reg.take_op 6 (v := ?vd6) rfl (by kernel_rfl) (by kernel_rfl) (by kernel_rfl) (fun _ _ _ h => h) (by rfl) (fun w' hS => ?hd6) ?rd6
                  case hd6 => go_simp; rfl
                  simp only [Act.put, List.setIfInBounds_toArray, List.set_cons_zero, List.set_cons_succ]
                  refine Reg.take_op 7 (v := ?vd7) rfl (by kernel_rfl) (by kernel_rfl) (by kernel_rfl) (fun _ _ _ h => h) (by rfl) (fun w' hS => ?hd7) ?rd7
                  case hd7 => go_simp; rfl
                  simp only [Act.put, List.setIfInBounds_toArray, List.set_cons_zero, List.set_cons_succ]
                  refine Reg.take_op 8 (v := ?vd8) rfl (by kernel_rfl) (by kernel_rfl) (by kernel_rfl) (fun _ _ _ h => h) (by rfl) (fun w' hS => ?hd8) ?rd8
                  case hd8 => go_simp; rfl
                  simp only [Act.put, List.setIfInBounds_toArray, List.set_cons_zero, List.set_cons_succ]
                  refine Reg.take_op 9 (v := ?vd9) rfl (by kernel_rfl) (by kernel_rfl) (by kernel_rfl) (fun _ _ _ h => h) (by rfl) (fun w' hS => ?hd9) ?rd9
                  case hd9 => have hh := HCJ.out w' (HC.out.trans (hS.mono HC.out.size)); go_simp; rfl
                  simp only [Act.put, List.setIfInBounds_toArray, List.set_cons_zero, List.set_cons_succ]
                  refine Reg.call_op 4 rfl (by kernel_rfl) (by rfl) 20 #[.string ⟨y.toArray⟩] (by go_simp) ?_
                  refine Calls.mono (CY.out _) ?_
                  rintro e w8 ⟨rfl, hb⟩
                  refine ⟨_, rfl, hb, ?_⟩
                  replace HC := Lib.hid (HC.out.trans (hb.mono HC.out.size)); clear hb
                  simp only [Act.put, List.setIfInBounds_toArray, List.set_cons_zero, List.set_cons_succ]
                  refine Reg.take_op 10 (v := ?vd10) rfl (by kernel_rfl) (by kernel_rfl) (by kernel_rfl) (fun _ _ _ h => h) (by rfl) (fun w' hS => ?hd10) ?rd10
                  case hd10 => go_simp; rfl
                  simp only [Act.put, List.setIfInBounds_toArray, List.set_cons_zero, List.set_cons_succ]
                  refine Reg.take_op 11 (v := ?vd11) rfl (by kernel_rfl) (by kernel_rfl) (by kernel_rfl) (fun _ _ _ h => h) (by rfl) (fun w' hS => ?hd11) ?rd11
                  case hd11 => go_simp; rfl
                  simp only [Act.put, List.setIfInBounds_toArray, List.set_cons_zero, List.set_cons_succ]
                  refine Reg.take_op 12 (v := ?vd12) rfl (by kernel_rfl) (by kernel_rfl) (by kernel_rfl) (fun _ _ _ h => h) (by rfl) (fun w' hS => ?hd12) ?rd12
                  case hd12 => go_simp; rfl
                  simp only [Act.put, List.setIfInBounds_toArray, List.set_cons_zero, List.set_cons_succ]
                  refine Reg.take_op 13 (v := ?vd13) rfl (by kernel_rfl) (by kernel_rfl) (by kernel_rfl) (fun _ _ _ h => h) (by rfl) (fun w' hS => ?hd13) ?rd13
                  case hd13 => go_simp; rfl
                  simp only [Act.put, List.setIfInBounds_toArray, List.set_cons_zero, List.set_cons_succ]
                  refine Reg.take_op 14 (v := ?vd14) rfl (by kernel_rfl) (by kernel_rfl) (by kernel_rfl) (fun _ _ _ h => h) (by rfl) (fun w' hS => ?hd14) ?rd14
                  case hd14 => go_simp; rfl
                  simp only [Act.put, List.setIfInBounds_toArray, List.set_cons_zero, List.set_cons_succ]
                  refine Reg.take_op 15 (v := ?vd15) rfl (by kernel_rfl) (by kernel_rfl) (by kernel_rfl) (fun _ _ _ h => h) (by rfl) (fun w' hS => ?hd15) ?rd15
                  case hd15 => go_simp; rfl
                  simp only [Act.put, List.setIfInBounds_toArray, List.set_cons_zero, List.set_cons_succ]
                  refine Reg.take_op 16 (v := ?vd16) rfl (by kernel_rfl) (by kernel_rfl) (by kernel_rfl) (fun _ _ _ h => h) (by rfl) (fun w' hS => ?hd16) ?rd16
                  case hd16 => have hh := HCJ.out w' (HC.out.trans (hS.mono HC.out.size)); go_simp; rfl
                  simp only [Act.put, List.setIfInBounds_toArray, List.set_cons_zero, List.set_cons_succ]
                  refine Reg.take_op 18 (v := ?vd18) rfl (by kernel_rfl) (by kernel_rfl) (by kernel_rfl) (fun _ _ _ h => h) (by rfl) (fun w' hS => ?hd18) ?rd18
                  case hd18 => go_simp; rfl
                  simp only [Act.put, List.setIfInBounds_toArray, List.set_cons_zero, List.set_cons_succ]
                  refine Reg.take_op 19 (v := ?vd19) rfl (by kernel_rfl) (by kernel_rfl) (by kernel_rfl) (fun _ _ _ h => h) (by rfl) (fun w' hS => ?hd19) ?rd19
                  case hd19 => go_simp; rfl
                  simp only [Act.put, List.setIfInBounds_toArray, List.set_cons_zero, List.set_cons_succ]
                  refine Reg.take_op 20 (v := ?vd20) rfl (by kernel_rfl) (by kernel_rfl) (by kernel_rfl) (fun _ _ _ h => h) (by rfl) (fun w' hS => ?hd20) ?rd20
                  case hd20 => go_simp; rfl
                  simp only [Act.put, List.setIfInBounds_toArray, List.set_cons_zero, List.set_cons_succ]
                  refine Reg.take_op 21 (v := ?vd21) rfl (by kernel_rfl) (by kernel_rfl) (by kernel_rfl) (fun _ _ _ h => h) (by rfl) (fun w' hS => ?hd21) ?rd21
                  case hd21 => have hh := HCI.out w' (HC.out.trans (hS.mono HC.out.size)); go_simp; rfl
                  simp only [Act.put, List.setIfInBounds_toArray, List.set_cons_zero, List.set_cons_succ]
                  refine Reg.call_op 17 rfl (by kernel_rfl) (by rfl) 20 #[.string ⟨x.toArray⟩] (by go_simp) ?_
                  refine Calls.mono (CX.out _) ?_
                  rintro e w8 ⟨rfl, hb⟩
                  refine ⟨_, rfl, hb, ?_⟩
                  replace HC := Lib.hid (HC.out.trans (hb.mono HC.out.size)); clear hb
                  simp only [Act.put, List.setIfInBounds_toArray, List.set_cons_zero, List.set_cons_succ]
                  refine Reg.take_op 22 (v := ?vd22) rfl (by kernel_rfl) (by kernel_rfl) (by kernel_rfl) (fun _ _ _ h => h) (by rfl) (fun w' hS => ?hd22) ?rd22
                  case hd22 => go_simp; rfl
                  simp only [Act.put, List.setIfInBounds_toArray, List.set_cons_zero, List.set_cons_succ]
                  refine Reg.take_op 23 (v := ?vd23) rfl (by kernel_rfl) (by kernel_rfl) (by kernel_rfl) (fun _ _ _ h => h) (by rfl) (fun w' hS => ?hd23) ?rd23
                  case hd23 => go_simp; rfl
                  simp only [Act.put, List.setIfInBounds_toArray, List.set_cons_zero, List.set_cons_succ]
                  refine Reg.take_op 24 (v := ?vd24) rfl (by kernel_rfl) (by kernel_rfl) (by kernel_rfl) (fun _ _ _ h => h) (by rfl) (fun w' hS => ?hd24) ?rd24
                  case hd24 => go_simp; rfl
                  simp only [Act.put, List.setIfInBounds_toArray, List.set_cons_zero, List.set_cons_succ]
                  refine wpAnyH_done (by kernel_rfl) ?_ _
                  have hci8 := HCI.out _ HC.out
                  go_wp2_with (first
                    | (go_at_call 20; with_reducible refine Calls.mono (CY.out _) ?_; rintro e w9 ⟨rfl, hb⟩; replace HC := Lib.hid (HC.out.trans (hb.mono HC.out.size)); have hcj9 := HCJ.out _ HC.out; clear hb)
                    | (go_at_call 20; with_reducible refine Calls.mono (CX.out _) ?_; rintro e w10 ⟨rfl, hb⟩; replace HC := Lib.hid (HC.out.trans (hb.mono HC.out.size)); clear hb))
                  go_roundg (K - (j + 1 + 1))
                  case measure => have := HI.out; omega
                  case rel => exact ⟨j + 1 + 1, by have := HI.out; omega, by go_num, HC.out⟩
              · have ht : ux = [] ∧ uy = [] := (HOK.out.resolve_left hs2).resolve_left hs1
                have t4 : (ux == y) = false := by simpa using hs2
                have t5 : (uy == []) = true := by simpa using ht.2
                have t6 : (ux == []) = true := by simpa using ht.1
                clear hs1 hs2 ht hxne hyne
                go_wp2
                replace HC := Lib.hid (show Below w6.heap.size w6 wr.drew from below_drewN HC.out 1)
                refine Reg.region_begin 25 rfl (by kernel_rfl) ?_
                refine Reg.take_op 0 (v := ?vb0) rfl (by kernel_rfl) (by kernel_rfl) (by kernel_rfl) (fun _ _ _ h => h) (by rfl) (fun w' hS => ?hb0) ?rb0
                case hb0 => go_simp; rfl
                simp only [Act.put, List.setIfInBounds_toArray, List.set_cons_zero, List.set_cons_succ]
                refine Reg.take_op 1 (v := ?vb1) rfl (by kernel_rfl) (by kernel_rfl) (by kernel_rfl) (fun _ _ _ h => h) (by rfl) (fun w' hS => ?hb1) ?rb1
                case hb1 => go_simp; rfl
                simp only [Act.put, List.setIfInBounds_toArray, List.set_cons_zero, List.set_cons_succ]
                refine Reg.take_op 2 (v := ?vb2) rfl (by kernel_rfl) (by kernel_rfl) (by kernel_rfl) (fun _ _ _ h => h) (by rfl) (fun w' hS => ?hb2) ?rb2
                case hb2 => go_simp; rfl
                simp only [Act.put, List.setIfInBounds_toArray, List.set_cons_zero, List.set_cons_succ]
                refine Reg.take_op 3 (v := ?vb3) rfl (by kernel_rfl) (by kernel_rfl) (by kernel_rfl) (fun _ _ _ h => h) (by rfl) (fun w' hS => ?hb3) ?rb3
                case hb3 => have hh := HCI.out w' (HC.out.trans (hS.mono HC.out.size)); go_simp; rfl
                simp only [Act.put, List.setIfInBounds_toArray, List.set_cons_zero, List.set_cons_succ]
                refine Reg.take_op 5 (v := ?vb5) rfl (by kernel_rfl) (by kernel_rfl) (by kernel_rfl) (fun _ _ _ h => h) (by rfl) (fun w' hS => ?hb5) ?rb5
                case hb5 => go_simp; rfl
                simp only [Act.put, List.setIfInBounds_toArray, List.set_cons_zero, List.set_cons_succ]
                refine Reg.take_op 6 (v := ?vb6) rfl (by kernel_rfl) (by kernel_rfl) (by kernel_rfl) (fun _ _ _ h => h) (by rfl) (fun w' hS => ?hb6) ?rb6
                case hb6 => go_simp; rfl
                simp only [Act.put, List.setIfInBounds_toArray, List.set_cons_zero, List.set_cons_succ]
                refine Reg.take_op 7 (v := ?vb7) rfl (by kernel_rfl) (by kernel_rfl) (by kernel_rfl) (fun _ _ _ h => h) (by rfl) (fun w' hS => ?hb7) ?rb7
                case hb7 => go_simp; rfl
                simp only [Act.put, List.setIfInBounds_toArray, List.set_cons_zero, List.set_cons_succ]
                refine Reg.take_op 8 (v := ?vb8) rfl (by kernel_rfl) (by kernel_rfl) (by kernel_rfl) (fun _ _ _ h => h) (by rfl) (fun w' hS => ?hb8) ?rb8
                case hb8 => go_simp; rfl
                simp only [Act.put, List.setIfInBounds_toArray, List.set_cons_zero, List.set_cons_succ]
                refine Reg.take_op 9 (v := ?vb9) rfl (by kernel_rfl) (by kernel_rfl) (by kernel_rfl) (fun _ _ _ h => h) (by rfl) (fun w' hS => ?hb9) ?rb9
                case hb9 => have hh := HCJ.out w' (HC.out.trans (hS.mono HC.out.size)); go_simp; rfl
                simp only [Act.put, List.setIfInBounds_toArray, List.set_cons_zero, List.set_cons_succ]
                refine Reg.call_op 4 rfl (by kernel_rfl) (by rfl) 20 #[.string ⟨y.toArray⟩] (by go_simp) ?_
                refine Calls.mono (CY.out _) ?_
                rintro e w8 ⟨rfl, hb⟩
                refine ⟨_, rfl, hb, ?_⟩
                replace HC := Lib.hid (HC.out.trans (hb.mono HC.out.size)); clear hb
                simp only [Act.put, List.setIfInBounds_toArray, List.set_cons_zero, List.set_cons_succ]
                refine Reg.take_op 10 (v := ?vb10) rfl (by kernel_rfl) (by kernel_rfl) (by kernel_rfl) (fun _ _ _ h => h) (by rfl) (fun w' hS => ?hb10) ?rb10
                case hb10 => go_simp; rfl
                simp only [Act.put, List.setIfInBounds_toArray, List.set_cons_zero, List.set_cons_succ]
                refine Reg.take_op 11 (v := ?vb11) rfl (by kernel_rfl) (by kernel_rfl) (by kernel_rfl) (fun _ _ _ h => h) (by rfl) (fun w' hS => ?hb11) ?rb11
                case hb11 => go_simp; rfl
                simp only [Act.put, List.setIfInBounds_toArray, List.set_cons_zero, List.set_cons_succ]
                refine Reg.take_op 12 (v := ?vb12) rfl (by kernel_rfl) (by kernel_rfl) (by kernel_rfl) (fun _ _ _ h => h) (by rfl) (fun w' hS => ?hb12) ?rb12
                case hb12 => go_simp; rfl
                simp only [Act.put, List.setIfInBounds_toArray, List.set_cons_zero, List.set_cons_succ]
                refine Reg.take_op 13 (v := ?vb13) rfl (by kernel_rfl) (by kernel_rfl) (by kernel_rfl) (fun _ _ _ h => h) (by rfl) (fun w' hS => ?hb13) ?rb13
                case hb13 => go_simp; rfl
                simp only [Act.put, List.setIfInBounds_toArray, List.set_cons_zero, List.set_cons_succ]
                refine Reg.take_op 14 (v := ?vb14) rfl (by kernel_rfl) (by kernel_rfl) (by kernel_rfl) (fun _ _ _ h => h) (by rfl) (fun w' hS => ?hb14) ?rb14
                case hb14 => go_simp; rfl
                simp only [Act.put, List.setIfInBounds_toArray, List.set_cons_zero, List.set_cons_succ]
                refine Reg.take_op 15 (v := ?vb15) rfl (by kernel_rfl) (by kernel_rfl) (by kernel_rfl) (fun _ _ _ h => h) (by rfl) (fun w' hS => ?hb15) ?rb15
                case hb15 => go_simp; rfl
                simp only [Act.put, List.setIfInBounds_toArray, List.set_cons_zero, List.set_cons_succ]
                refine Reg.take_op 16 (v := ?vb16) rfl (by kernel_rfl) (by kernel_rfl) (by kernel_rfl) (fun _ _ _ h => h) (by rfl) (fun w' hS => ?hb16) ?rb16
                case hb16 => have hh := HCJ.out w' (HC.out.trans (hS.mono HC.out.size)); go_simp; rfl
                simp only [Act.put, List.setIfInBounds_toArray, List.set_cons_zero, List.set_cons_succ]
                refine Reg.take_op 18 (v := ?vb18) rfl (by kernel_rfl) (by kernel_rfl) (by kernel_rfl) (fun _ _ _ h => h) (by rfl) (fun w' hS => ?hb18) ?rb18
                case hb18 => go_simp; rfl
                simp only [Act.put, List.setIfInBounds_toArray, List.set_cons_zero, List.set_cons_succ]
                refine Reg.take_op 19 (v := ?vb19) rfl (by kernel_rfl) (by kernel_rfl) (by kernel_rfl) (fun _ _ _ h => h) (by rfl) (fun w' hS => ?hb19) ?rb19
                case hb19 => go_simp; rfl
                simp only [Act.put, List.setIfInBounds_toArray, List.set_cons_zero, List.set_cons_succ]
                refine Reg.take_op 20 (v := ?vb20) rfl (by kernel_rfl) (by kernel_rfl) (by kernel_rfl) (fun _ _ _ h => h) (by rfl) (fun w' hS => ?hb20) ?rb20
                case hb20 => go_simp; rfl
                simp only [Act.put, List.setIfInBounds_toArray, List.set_cons_zero, List.set_cons_succ]
                refine Reg.take_op 21 (v := ?vb21) rfl (by kernel_rfl) (by kernel_rfl) (by kernel_rfl) (fun _ _ _ h => h) (by rfl) (fun w' hS => ?hb21) ?rb21
                case hb21 => have hh := HCI.out w' (HC.out.trans (hS.mono HC.out.size)); go_simp; rfl
                simp only [Act.put, List.setIfInBounds_toArray, List.set_cons_zero, List.set_cons_succ]
                refine Reg.call_op 17 rfl (by kernel_rfl) (by rfl) 20 #[.string ⟨x.toArray⟩] (by go_simp) ?_
                refine Calls.mono (CX.out _) ?_
                rintro e w8 ⟨rfl, hb⟩
                refine ⟨_, rfl, hb, ?_⟩
                replace HC := Lib.hid (HC.out.trans (hb.mono HC.out.size)); clear hb
                simp only [Act.put, List.setIfInBounds_toArray, List.set_cons_zero, List.set_cons_succ]
                refine Reg.take_op 22 (v := ?vb22) rfl (by kernel_rfl) (by kernel_rfl) (by kernel_rfl) (fun _ _ _ h => h) (by rfl) (fun w' hS => ?hb22) ?rb22
                case hb22 => go_simp; rfl
                simp only [Act.put, List.setIfInBounds_toArray, List.set_cons_zero, List.set_cons_succ]
                refine Reg.take_op 23 (v := ?vb23) rfl (by kernel_rfl) (by kernel_rfl) (by kernel_rfl) (fun _ _ _ h => h) (by rfl) (fun w' hS => ?hb23) ?rb23
                case hb23 => go_simp; rfl
                simp only [Act.put, List.setIfInBounds_toArray, List.set_cons_zero, List.set_cons_succ]
                refine Reg.take_op 24 (v := ?vb24) rfl (by kernel_rfl) (by kernel_rfl) (by kernel_rfl) (fun _ _ _ h => h) (by rfl) (fun w' hS => ?hb24) ?rb24
                case hb24 => go_simp; rfl
                simp only [Act.put, List.setIfInBounds_toArray, List.set_cons_zero, List.set_cons_succ]
                refine wpAnyH_done (by kernel_rfl) ?_ _
                have hci8 := HCI.out _ HC.out
                go_wp2_with (first
                  | (go_at_call 20; with_reducible refine Calls.mono (CY.out _) ?_; rintro e w9 ⟨rfl, hb⟩; replace HC := Lib.hid (HC.out.trans (hb.mono HC.out.size)); have hcj9 := HCJ.out _ HC.out; clear hb)
                  | (go_at_call 20; with_reducible refine Calls.mono (CX.out _) ?_; rintro e w10 ⟨rfl, hb⟩; replace HC := Lib.hid (HC.out.trans (hb.mono HC.out.size)); clear hb))
                go_roundg (K - (j + 1 + 1))
                case measure => have := HI.out; omega
                case rel => exact ⟨j + 1 + 1, by have := HI.out; omega, by go_num, HC.out⟩
    · have e1 : ¬ (i : Int) < (K : Int) := by omega
      go_wp2_with (go_at_call 31; with_reducible refine Calls.mono (CK.out _) ?_; rintro e w7 ⟨rfl, hb⟩; have H7 := Lib.hid (H6.out.trans ((HB.out.trans (hb.mono HB.out.size)).mono (HN.out _ H6.out))); clear hb)
      go_ret
      exact ⟨rfl, H7.out⟩
theorem way_same (a b : L) (w : World) (hs : a.length + b.length ≤ 200) (h : isL a = true) (h' : isL b = true) (hab : a = b) : Calls Try.prog 5 #[.string ⟨a.toArray⟩, .string ⟨b.toArray⟩] w fun e w' => e = .returned (.bool true) ∧ Below w.heap.size w w' := by
  have e200 : ¬ (200 : Int) < (a.length : Int) + (b.length : Int) := by omega
  have i1 := fun w1 => ris_any a w1 (by omega)
  have i2 := fun w1 => ris_any b w1 (by omega)
  have H := Lib.hid (Below.refl w.heap.size w)
  have t0 : (a == b) = true := by simpa using hab
  rw [h] at i1
  rw [h'] at i2
  have I1 := Lib.hid i1
  have I2 := Lib.hid i2
  clear i1 i2 h h' hab
  go_enter Try.func5, Try.ntmps5
  go_wp2_with (first
    | (go_at_call 17; with_reducible refine Calls.mono (I1.out _) ?_; rintro e w1 ⟨rfl, hb⟩; replace H := Lib.hid (H.out.trans (hb.mono H.out.size)); clear hb)
    | (go_at_call 17; with_reducible refine Calls.mono (I2.out _) ?_; rintro e w1 ⟨rfl, hb⟩; replace H := Lib.hid (H.out.trans (hb.mono H.out.size)); clear hb))
  go_ret
  exact ⟨rfl, H.out⟩
theorem way_no (a b : L) (w : World) (h1 : a.length ≤ 140737488351232) (h2 : b.length ≤ 140737488351232) (hs : 200 < a.length + b.length) : Calls Try.prog 5 #[.string ⟨a.toArray⟩, .string ⟨b.toArray⟩] w fun e w' => e = .returned (.bool true) ∧ Below w.heap.size w w' := by
  have e200 : (200 : Int) < (a.length : Int) + (b.length : Int) := by omega
  have HB := Lib.hid (Below.refl w.heap.size w)
  go_enter Try.func5, Try.ntmps5
  go_wp2
  go_ret
  exact ⟨rfl, HB.out⟩
theorem way_not (a b : L) (w : World) (hs : a.length + b.length ≤ 200) (h : isL a = false ∨ (isL a = true ∧ isL b = false)) : Calls Try.prog 5 #[.string ⟨a.toArray⟩, .string ⟨b.toArray⟩] w fun e w' => e = .returned (.bool true) ∧ Below w.heap.size w w' := by
  have e200 : ¬ (200 : Int) < (a.length : Int) + (b.length : Int) := by omega
  have i1 := fun w1 => ris_any a w1 (by omega)
  have i2 := fun w1 => ris_any b w1 (by omega)
  have H := Lib.hid (Below.refl w.heap.size w)
  rcases h with h | ⟨h, h'⟩
  · rw [h] at i1
    have I1 := Lib.hid i1
    clear i1 i2 h
    go_enter Try.func5, Try.ntmps5
    go_wp2_with (go_at_call 17; with_reducible refine Calls.mono (I1.out _) ?_; rintro e w1 ⟨rfl, hb⟩; replace H := Lib.hid (H.out.trans (hb.mono H.out.size)); clear hb)
    go_ret
    exact ⟨rfl, H.out⟩
  · rw [h] at i1
    rw [h'] at i2
    have I1 := Lib.hid i1
    have I2 := Lib.hid i2
    clear i1 i2 h h'
    go_enter Try.func5, Try.ntmps5
    go_wp2_with (first
      | (go_at_call 17; with_reducible refine Calls.mono (I1.out _) ?_; rintro e w1 ⟨rfl, hb⟩; replace H := Lib.hid (H.out.trans (hb.mono H.out.size)); clear hb)
      | (go_at_call 17; with_reducible refine Calls.mono (I2.out _) ?_; rintro e w1 ⟨rfl, hb⟩; replace H := Lib.hid (H.out.trans (hb.mono H.out.size)); clear hb))
    go_ret
    exact ⟨rfl, H.out⟩
theorem way_ (s1 s2 : ByteArray) (w : World) (h1 : s1.data.toList.length ≤ reachBytes) (h2 : s2.data.toList.length ≤ reachBytes) : Calls Try.prog 5 #[.string s1, .string s2] w fun e w' => e = .returned (.bool true) ∧ Below w.heap.size w w' := by
  rw [reach_val] at h1 h2
  obtain ⟨a, rfl⟩ : ∃ a : L, s1 = ⟨a.toArray⟩ := ⟨_, bytes_eta s1⟩
  obtain ⟨b, rfl⟩ : ∃ a : L, s2 = ⟨a.toArray⟩ := ⟨_, bytes_eta s2⟩
  simp only at h1 h2
  by_cases h : a.length + b.length ≤ 200
  · cases ha : isL a with
    | false => exact way_not a b w h (.inl ha)
    | true =>
      cases hb : isL b with
      | false => exact way_not a b w h (.inr ⟨ha, hb⟩)
      | true =>
        by_cases hab : a = b
        · exact way_same a b w h ha hb hab
        · exact way_yes a b w h ha hb hab
  · exact way_no a b w h1 h2 (by omega)
end Go.Proofs.Ytpjilcngibaepaa.NmW
