/-
  What stands between the nonce and the tag is the bytes under the stream.
-/
import Derived.Test.YtioonkckppmnoaaSeLaw1
import Derived.Test.YtioonkckppmnoaaSeRef3
import Derived.Test.YtioonkckppmnoaaSeRes
set_option linter.unusedVariables false
namespace Go.Proofs.Ytioonkckppmnoaa.SeL
open Go.RowKit Go.Proofs.Ytioonkckppmnoaa.Mem Go.Proofs.Ytioonkckppmnoaa.Se

theorem seal_mid (ks : Nat → UInt8) (u n : Nat) (p : List UInt8) (i : Nat) (h : i < p.length) (h2 : i < (strmL ks u n p.length).length) : (sealL ks u n p)[8 + i]? = some (p[i] ^^^ (strmL ks u n p.length)[i]) := by
  have hl := mixL_at ks u n p i h h2
  have h3 : i < (mixL ks u n p).length := by rw [mixL_length]; exact h
  unfold sealL aheadL
  rw [List.append_assoc, List.getElem?_append_right (by rw [w8_length]; omega), w8_length, show 8 + i - 8 = i by omega, List.getElem?_append_left h3, hl]
theorem seal_front (ks : Nat → UInt8) (u n : Nat) (p : List UInt8) (i : Nat) (h : i < 8) : (sealL ks u n p)[i]? = some (UInt8.ofNat (n / 2 ^ (56 - 8 * i))) := by
  unfold sealL aheadL
  rw [List.append_assoc, List.getElem?_append_left (by rw [w8_length]; exact h), w8_at n i h]
set_option maxRecDepth 100000 in
set_option maxHeartbeats 3200000 in
theorem streams_yes (A : Option Addr) (l : List UInt8) (c : Nat) (u n : Nat) (A3 : Option Addr) (p : List UInt8) (c3 : Nat) (w : World) (hr : Rd w w.heap.size A (bvs l)) (hr3 : Rd w w.heap.size A3 (bvs p)) (hu : u ≤ 255) (hn : n ≤ 1099511627776) (hp : p.length ≤ 300) :
    Calls Try.prog 9 #[.slice A l.length c, .int .i64 (u : Int), .int .i64 (n : Int), .slice A3 p.length c3] w fun e w' => e = .returned (.bool true) ∧ Below w.heap.size w w' := by
  obtain ⟨ks, ek⟩ : ∃ ks, ks = ksOf l := ⟨_, rfl⟩
  obtain ⟨B, eB⟩ : ∃ B, B = w.heap.size := ⟨_, rfl⟩
  have c1 := key_any A l.length c l w rfl hr
  rw [← ek] at c1
  have cnew := fun w1 => new_any ks w1
  obtain ⟨kv, ekv⟩ : ∃ kv, kv = key32 ks := ⟨_, rfl⟩
  rw [← ekv] at c1 cnew
  have hrp : ∀ w1 (b : Nat), B ≤ b → Below B w w1 → RdA (Ow b none) w1 A3 (bvs p) := fun w1 b hb h => RdA.of_rd (B := B) (eB ▸ hr3.below (eB ▸ h)) (eB ▸ h.size) (fun i hx => by rw [Ow_none hx]; exact hb)
  obtain ⟨m, em⟩ : ∃ m, m = p.length := ⟨_, rfl⟩
  obtain ⟨nl, enl⟩ : ∃ nl, nl = l.length := ⟨_, rfl⟩
  obtain ⟨Z, eZ⟩ : ∃ Z, Z = sealL ks u n p := ⟨_, rfl⟩
  have cseal := fun (w1 : World) (b : Nat) (h1 : RdA (Ow b none) w1 A3 (bvs p)) (h2 : Box w1 b ks none 0 0 0) => seal_ok b ks none 0 0 0 u n A3 m c3 p w1 (by decide) hu hn em (by omega) h1 h2
  rw [← eZ] at cseal
  obtain ⟨N, eN⟩ : ∃ N, N = sn u n := ⟨_, rfl⟩
  have hsn2 := sn_num u n hu
  have hsnlt := sn_lt u n
  rw [← eN] at hsn2 hsnlt
  have hu1 : (u : Int) % 18446744073709551616 = (u : Int) := by omega
  have hn1 : (n : Int) % 18446744073709551616 = (n : Int) := by omega
  have hwn : IntKind.u64.wrap (n : Int) = (n : Int) := by rw [IntKind.wrap_u64]; exact hn1
  have hwu : IntKind.u64.wrap (u : Int) = (u : Int) := by rw [IntKind.wrap_u64]; exact hu1
  have hstr : Sp.strm (Sp.kw ks) (Sp.upW N) (Sp.loW N) m = strmL ks u n m := by rw [eN]; rfl
  have cw := fun w1 => Sp.dwords ks w1
  have cst := fun w1 => SpL.dstream (Sp.kw ks) N m (m : Int) w1 hsnlt (by omega) (by simp)
  rw [hstr] at cst
  obtain ⟨S, eS⟩ : ∃ S, S = strmL ks u n m := ⟨_, rfl⟩
  rw [← eS] at cst
  have hS : S.length = m := by rw [eS, strmL_length]
  have hmid : ∀ i (h : i < p.length) (h2 : i < S.length), Z[8 + i]? = some (p[i] ^^^ S[i]) := by
    subst em
    subst eS
    intro i h h2
    rw [eZ]
    exact seal_mid ks u n p i h h2
  have hfr : ∀ i, i < 8 → Z[i]? = some (UInt8.ofNat (n / 2 ^ (56 - 8 * i))) := fun i h => by rw [eZ]; exact seal_front ks u n p i h
  have hZl : Z.length = m + 16 := by rw [eZ, sealL_length, em]
  have i16 := info16 ks
  obtain ⟨cs, ecs⟩ : ∃ cs, cs = Sp.key16 ks := ⟨_, rfl⟩
  rw [← ecs] at cw i16
  obtain ⟨xs, exs⟩ : ∃ xs, xs = Sp.cells27 (Sp.kw ks) := ⟨_, rfl⟩
  rw [← exs] at cw cst
  have hkd : ∀ i, (i = 16 ∨ l.length ≤ i) → Sp.key16 (Sp.ksTo l i) = cs := fun i h => by rw [Sp.ksTo_done l i h, ecs, ek]; rfl
  have t1 : decide ((u : Int) < 0) = false := by simp
  have t2 : decide (255 < (u : Int)) = false := by simp; omega
  have t3 : decide ((n : Int) < 0) = false := by simp
  have t4 : decide (1099511627776 < (n : Int)) = false := by simp; omega
  have t5 : decide (300 < (m : Int)) = false := by simp; omega
  have q1 : (m : Int) ≤ 300 := by omega
  have q2 : (n : Int) ≤ 1099511627776 := by omega
  rw [← em, ← enl]
  rw [← enl] at c1
  have EB := Lib.hid eB
  have HR := Lib.hid (eB ▸ hr); clear hr
  have HR3 := Lib.hid (eB ▸ hr3); clear hr3
  have EM := Lib.hid em
  have ENL := Lib.hid enl
  have HS := Lib.hid hS; clear hS
  have HMID := Lib.hid hmid; clear hmid
  have HFR := Lib.hid hfr; clear hfr
  have HZL := Lib.hid hZl; clear hZl
  have HSN := Lib.hid hsn2
  have HSN3 : Hid (((n : Int) * 256 + (u : Int)) % 18446744073709551616 = (N : Int)) := by rw [← hsn2]; show _ = _; omega
  have HSN4 : Hid (IntKind.u64.wrap (IntKind.u64.wrap ((n : Int) * 256) + (u : Int)) = (N : Int)) := by rw [IntKind.wrap_u64, IntKind.wrap_u64]; omega
  have HSN5 : Hid (IntKind.u64.wrap ((n : Int) * 256 + (u : Int)) = (N : Int)) := by rw [IntKind.wrap_u64]; omega
  clear hsn2
  have I16 := Lib.hid i16; clear i16
  have HKD := Lib.hid hkd; clear hkd
  have CN := Lib.hid cnew; clear cnew
  have CS := Lib.hid cseal; clear cseal
  have CW := Lib.hid cw; clear cw
  have CST := Lib.hid cst; clear cst
  have HRP := Lib.hid hrp; clear hrp
  clear hu hn hp ek ekv em enl eZ eN hsnlt hstr eS ecs exs eB
  go_enter Try.func9, Try.ntmps9
  go_wp2_with (first
    | (go_at_call 13; refine Calls.mono c1 ?_; rintro e w1 ⟨rfl, hb1⟩; clear c1; have k2 := CN.out w1; have H1 := Lib.hid ((EB.out ▸ hb1 : Below B w w1)); clear hb1)
    | (go_at_call 12; refine Calls.mono k2 ?_; rintro e w2 ⟨x, rfl, hx, hxx, hb2⟩; clear k2; have hb2 := H1.out.trans (hb2.mono (EB.out ▸ H1.out.size)); have hxB : B ≤ x := by { have := H1.out.size; have := EB.out; omega }; have k3 := CS.out w2 x (HRP.out w2 x hxB hb2) hxx; have HX := Lib.hid hxB; have HXL := Lib.hid hxx.lt; have H2 := Lib.hid hb2; clear hx hxx hb2 hxB)
    | (go_at_call 14; refine Calls.mono k3 ?_; rintro e w3 ⟨g, As, sc, rfl, h1, h2, h3, h4, h5⟩; clear k3; have hb3 : Below B w w3 := below_chg H2.out (by have := H2.out.size; have := EB.out; omega) h5.1 (fun i _ hi => by have := Ow_none hi; have := HX.out; omega); have H3 := Lib.hid hb3; have RA3 := Lib.hid h3.rd; clear h1 h2 h3 h4 h5 hb3))
  obtain ⟨H, eH⟩ : ∃ H, H = w3.heap.size := ⟨_, rfl⟩
  rw [← eH]
  have EH := Lib.hid eH; clear eH
  have hB0 : Blk (w3.alloc (.cells (Sp.key16 fun _ => 0) 46)) H 46 (Sp.key16 (Sp.ksTo l 0)) := Si.Blk.new_of w3 H _ _ _ (by kernel_rfl) EH.out.symm
  have hb0 : Below H w3 (w3.alloc (.cells (Sp.key16 fun _ => 0) 46)) := EH.out ▸ (Below.refl _ _).alloc (Nat.le_refl _) _
  have HB0 := Lib.hid hB0; clear hB0
  have Hb0 := Lib.hid hb0; clear hb0
  go_loopw [13] (fun iv wr => ∃ i : Nat, i ≤ 16 ∧ i ≤ nl ∧ iv = .int .i64 (i : Int) ∧ Below H w3 wr ∧ Blk wr H 46 (Sp.key16 (Sp.ksTo l i))) (fun iv _ => 16 - (intOf iv).toNat)
  case atStart => exact ⟨0, by decide, Nat.zero_le _, rfl, Hb0.out, HB0.out⟩
  case round =>
    obtain ⟨i, hi, hin, rfl, hbw, hBk⟩ := hrel
    clear HB0 Hb0
    have HBW := Lib.hid hbw; clear hbw
    by_cases hx : i = 16 ∨ i = nl
    · have hk := HKD.out i (by rcases hx with h | h; exact .inl h; exact .inr (by have := ENL.out; omega))
      rw [hk] at hBk
      have HA := Lib.hid (Si.range_blk hBk)
      have HWL := Lib.hid hBk.lt
      have cw2 := CW.out wr
      have t : (decide ((i : Int) < 16) = false) ∨ (decide ((i : Int) < 16) = true ∧ decide (i < nl) = false) := by
        rcases hx with h | h
        · exact .inl (by simp; omega)
        · rcases Nat.lt_or_ge i 16 with h2 | h2
          · exact .inr ⟨by simp; omega, by simp; omega⟩
          · exact .inl (by simp; omega)
      clear hBk hk hi hin hx CW
      rcases t with t | ⟨t, tt⟩ <;> (
        go_wp2_with (first
          | (refine load_cells (by rfl) 46 (.tmp 12) (by rfl) H 0 (by rfl) cs _ HA.out Try.underlying46 (by rfl) I16.out ?_)
          | (go_at_call 21; refine Calls.mono cw2 ?_; rintro e w4 ⟨rfl, hb4⟩; clear cw2; have hb4 := HBW.out.trans (hb4.mono (by have := HWL.out; omega)); have c4 := CST.out w4; have H4 := Lib.hid hb4; clear hb4)
          | (go_at_call 20; (first | rw [HSN.out] | rw [HSN3.out] | rw [HSN4.out] | rw [HSN5.out]); refine Calls.mono c4 ?_; rintro e w5 ⟨Ax, xc, rfl, hxc, hrs, hb5⟩; clear c4; have hb5 := H4.out.trans (hb5.mono (by have := H4.out.size; have := EH.out; omega)); have H5 := Lib.hid hb5; have RS := Lib.hid hrs; clear hb5 hrs)
          | fail)
        clear t
        obtain ⟨N5, eN5⟩ : ∃ N5, N5 = w5.heap.size := ⟨_, rfl⟩
        have EN5 := Lib.hid eN5; clear eN5
        go_loopw [15] (fun iv wr => ∃ j : Nat, j ≤ m ∧ iv = .int .i64 (j : Int) ∧ Below N5 w5 wr) (fun iv _ => m - (intOf iv).toNat)
        case atStart => exact ⟨0, Nat.zero_le _, rfl, Below.refl _ _⟩
        case round =>
          obtain ⟨j, hj, rfl, hbj⟩ := hrel
          have HBJ := Lib.hid hbj; clear hbj
          have hHN : H ≤ N5 := by have := EN5.out; have := H5.out.size; have := EH.out; omega
          have hBH : B ≤ H := by have := EH.out; have := H3.out.size; have := EB.out; omega
          by_cases hjm : j = m
          · subst hjm
            have HHN := Lib.hid hHN; clear hHN
            have HBH := Lib.hid hBH; clear hBH
            go_wp2_with fail
            go_loopw [16] (fun iv wr => ∃ k : Nat, k ≤ 8 ∧ iv = .int .i64 (k : Int) ∧ Below N5 w5 wr) (fun iv _ => 8 - (intOf iv).toNat)
            case atStart => exact ⟨0, by decide, rfl, HBJ.out⟩
            case round =>
              obtain ⟨k, hk, rfl, hbk⟩ := hrel
              have HBK := Lib.hid hbk; clear hbk
              by_cases hk8 : k = 8
              · subst hk8
                have c9 := known_any wr
                go_wp2_with (go_at_call 18; refine Calls.mono c9 ?_; rintro e w9 ⟨rfl, hb9⟩; clear c9; have H9 := Lib.hid hb9; clear hb9)
                go_ret
                refine ⟨rfl, ?_⟩
                rw [← EB.out]
                have h35 : Below B w3 w5 := H5.out.mono HBH.out
                have h5r : Below B w5 wr := HBK.out.mono (Nat.le_trans HBH.out HHN.out)
                have hall := (H3.out.trans h35).trans h5r
                exact hall.trans (H9.out.mono (by have := hall.size; have := EB.out; omega))
              · have k1 : (k : Int) < 8 := by omega
                have k2 : (0 : Int) ≤ (k : Int) := by omega
                have k3 : k < 8 := by omega
                obtain ⟨sh, esh⟩ : ∃ sh, sh = 56 - 8 * k := ⟨_, rfl⟩
                have hsh : (56 : Int) - 8 * (k : Int) = (sh : Int) := by omega
                have s1 : sh < 64 := by omega
                have s2 : (sh : Int) < 64 := by omega
                have s3 : (0 : Int) ≤ (sh : Int) := by omega
                have s4 : min sh 64 = sh := by omega
                have s5 : min sh 63 = sh := by omega
                have hzz := HFR.out k k3
                rw [← esh] at hzz
                obtain ⟨ba, oa, rfl, hba, hca⟩ := RA3.out.at_ (i := k) (u := bv (UInt8.ofNat (n / 2 ^ sh))) (by unfold bvs; rw [List.getElem?_map, hzz]; rfl)
                have hbH : ba < H := by have := EH.out; omega
                have hcc : wr.cell? ⟨ba, oa + k, none⟩ = some (.int .u8 ((n : Int) / 2 ^ sh % 256)) := by
                  have e1 := (HBK.out.cell (p := ⟨ba, oa + k, none⟩) (show ba < N5 by have := HHN.out; omega)).trans ((H5.out.cell (p := ⟨ba, oa + k, none⟩) hbH).trans hca)
                  rw [e1]
                  unfold bv
                  rw [UInt8.toNat_ofNat']
                  rfl
                have s6 : k < j + 16 := by omega
                have s7 : (k : Int) < (j : Int) + 16 := by omega
                have s8 : IntKind.u8.wrap ((n : Int) / 2 ^ sh) = (n : Int) / 2 ^ sh % 256 := by rw [IntKind.wrap_u8']
                have HK := Lib.hid hk; clear hk
                have HK8 := Lib.hid hk8; clear hk8
                have ESH := Lib.hid esh; clear esh
                clear hzz hca hba hbH
                go_wp2_with fail
                go_roundw
                case rel => exact ⟨k + 1, by omega, by go_num, HBK.out⟩
                case measure => simp [intOf]; omega
          · have hlt : j < m := by omega
            have hlp : j < p.length := by have := EM.out; omega
            have hls : j < S.length := by have := HS.out; omega
            have e1 : (j : Int) < (m : Int) := by omega
            have e2 : (0 : Int) ≤ (j : Int) := by omega
            have e4 : (8 : Int) + (j : Int) < (m : Int) + 16 := by omega
            have e5 : (0 : Int) ≤ (8 : Int) + (j : Int) := by omega
            have e6 : 8 + j < m + 16 := by omega
            have hw : IntKind.i64.wrap ((8 : Int) + (j : Int)) = (8 : Int) + (j : Int) := by rw [IntKind.wrap_i64]; omega
            obtain ⟨y, ey⟩ : ∃ y, y = p[j] := ⟨_, rfl⟩
            obtain ⟨z, ez⟩ : ∃ z, z = S[j] := ⟨_, rfl⟩
            obtain ⟨v, ev⟩ : ∃ v, v = y ^^^ z := ⟨_, rfl⟩
            have hzz := HMID.out j hlp hls
            rw [← ey, ← ez, ← ev] at hzz
            obtain ⟨ba, oa, rfl, hba, hca⟩ := RA3.out.at_ (i := 8 + j) (u := bv v) (by unfold bvs; rw [List.getElem?_map, hzz]; rfl)
            obtain ⟨bp, op, rfl, hbp, hcp⟩ := HR3.out.at_ (bvs_at hlp)
            obtain ⟨bs, os, rfl, hbs, hcs⟩ := RS.out.at_ (bvs_at hls)
            rw [← ey] at hcp
            rw [← ez] at hcs
            have hbH : ba < H := by have := EH.out; omega
            have d1 : wr.cell? ⟨ba, oa + (8 + j), none⟩ = some (.int .u8 (v.toNat : Int)) := (HBJ.out.cell (p := ⟨ba, oa + (8 + j), none⟩) (show ba < N5 by omega)).trans ((H5.out.cell (p := ⟨ba, oa + (8 + j), none⟩) hbH).trans hca)
            have d2 : wr.cell? ⟨bp, op + j, none⟩ = some (.int .u8 (y.toNat : Int)) := (HBJ.out.cell (p := ⟨bp, op + j, none⟩) (show bp < N5 by omega)).trans ((H5.out.cell (p := ⟨bp, op + j, none⟩) (show bp < H by omega)).trans ((H3.out.cell (p := ⟨bp, op + j, none⟩) hbp).trans hcp))
            have d3 : wr.cell? ⟨bs, os + j, none⟩ = some (.int .u8 (z.toNat : Int)) := (HBJ.out.cell (p := ⟨bs, os + j, none⟩) (show bs < N5 by have := EN5.out; omega)).trans hcs
            have hxo : bits .xor .u8 (y.toNat : Int) (z.toNat : Int) = (v.toNat : Int) := by rw [ev]; exact xor_b2 y z
            have HJ := Lib.hid hj; clear hj
            have HJM := Lib.hid hjm; clear hjm
            clear ey ez ev hzz hca hba hcp hbp hcs hbs hbH hHN hBH hls
            go_wp2_with fail
            go_quiet (fail)
            go_wp2_with fail
            go_roundw
            case rel => exact ⟨j + 1, by omega, by go_num, below_drewN HBJ.out nq⟩
            case measure => simp [intOf]; omega)
    · have h16 : i < 16 := by omega
      have hlt : i < nl := by omega
      have hll : i < l.length := by have := ENL.out; omega
      have e1 : (i : Int) < 16 := by omega
      have e2 : (i : Int) < (nl : Int) := by omega
      have e3 : (0 : Int) ≤ (i : Int) := by omega
      obtain ⟨b, o, rfl, hbB, hcell⟩ := HR.out.at_ (bvs_at hll)
      have hHB : B ≤ H := by have := EH.out; have := H3.out.size; have := EB.out; omega
      have hc : wr.cell? ⟨b, o + i, none⟩ = some (.int .u8 ((l[i]).toNat : Int)) := (HBW.out.cell (p := ⟨b, o + i, none⟩) (show b < H by omega)).trans ((H3.out.cell (p := ⟨b, o + i, none⟩) hbB).trans hcell)
      have hy := hBk.cell i
      rw [Sp.key16_at _ _ h16] at hy
      simp only [bv] at hy
      have f1 := hBk.frozen
      have HX1 := Lib.hid hx; clear hx
      have HI := Lib.hid hi; clear hi
      have HI2 := Lib.hid hin; clear hin
      have HBK := Lib.hid hBk; clear hBk
      clear hcell hHB hbB
      go_wp2_with fail
      go_roundw
      case rel =>
        refine ⟨i + 1, by omega, by omega, by go_num, ?_, ?_⟩
        · exact Si.below_set HBW.out (Nat.le_refl _) _
        · have := HBK.out.set i (bv l[i])
          rw [Sp.key16_set l i hll] at this
          exact this
      case measure => simp [intOf]; omega
set_option maxRecDepth 100000 in
set_option maxHeartbeats 1600000 in
theorem streams_not (A : Option Addr) (l : List UInt8) (c : Nat) (u n : Int) (A3 : Option Addr) (p : List UInt8) (c3 : Nat) (w : World) (hx : ¬ (0 ≤ u ∧ u ≤ 255 ∧ 0 ≤ n ∧ n ≤ 1099511627776 ∧ p.length ≤ 300)) :
    Calls Try.prog 9 #[.slice A l.length c, .int .i64 u, .int .i64 n, .slice A3 p.length c3] w fun e w' => e = .returned (.bool true) ∧ Below w.heap.size w w' := by
  obtain ⟨m, em⟩ : ∃ m, m = p.length := ⟨_, rfl⟩
  rw [← em] at hx ⊢
  have t : (decide (u < 0) = true) ∨ (decide (u < 0) = false ∧ decide (255 < u) = true) ∨ (decide (u < 0) = false ∧ decide (255 < u) = false ∧ decide (n < 0) = true) ∨ (decide (u < 0) = false ∧ decide (255 < u) = false ∧ decide (n < 0) = false ∧ decide (1099511627776 < n) = true) ∨ (decide (u < 0) = false ∧ decide (255 < u) = false ∧ decide (n < 0) = false ∧ decide (1099511627776 < n) = false ∧ decide (300 < (m : Int)) = true) := by
    simp only [decide_eq_true_eq, decide_eq_false_iff_not]
    omega
  have HB := Lib.hid (Below.refl w.heap.size w)
  clear hx em
  rcases t with t1 | ⟨t1, t2⟩ | ⟨t1, t2, t3⟩ | ⟨t1, t2, t3, t4⟩ | ⟨t1, t2, t3, t4, t5⟩ <;> (
    go_enter Try.func9, Try.ntmps9
    go_wp2
    go_ret
    exact ⟨rfl, HB.out⟩)
theorem streams (A : Option Addr) (l : List UInt8) (c : Nat) (u n : Int) (A3 : Option Addr) (p : List UInt8) (c3 : Nat) (w : World) (hr : Rd w w.heap.size A (bvs l)) (hc : l.length ≤ c) (hm : c ≤ maxLen) (_ : (Lit.int .i64 u).wf = true) (_ : (Lit.int .i64 n).wf = true) (hr3 : Rd w w.heap.size A3 (bvs p)) (hc3 : p.length ≤ c3) (hm3 : c3 ≤ maxLen) :
    Calls Try.prog 9 #[.slice A l.length c, .int .i64 u, .int .i64 n, .slice A3 p.length c3] w fun e w' => e = .returned (.bool true) ∧ Below w.heap.size w w' := by
  by_cases hx : 0 ≤ u ∧ u ≤ 255 ∧ 0 ≤ n ∧ n ≤ 1099511627776 ∧ p.length ≤ 300
  · obtain ⟨u', rfl⟩ : ∃ k : Nat, u = (k : Int) := ⟨u.toNat, by omega⟩
    obtain ⟨n', rfl⟩ : ∃ k : Nat, n = (k : Int) := ⟨n.toNat, by omega⟩
    exact streams_yes A l c u' n' A3 p c3 w hr hr3 (by omega) (by omega) (by omega)
  · exact streams_not A l c u n A3 p c3 w hx
end Go.Proofs.Ytioonkckppmnoaa.SeL
