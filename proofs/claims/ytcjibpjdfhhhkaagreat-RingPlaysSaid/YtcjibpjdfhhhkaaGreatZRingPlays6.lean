import Derived.Deep.MidRow
import Derived.Test.YtcjibpjdfhhhkaaGreatZRingPlays1
import Derived.Test.YtcjibpjdfhhhkaaGreatZRingPlays2
import Derived.Test.YtcjibpjdfhhhkaaGreatZRingPlays3
import Derived.Test.YtcjibpjdfhhhkaaGreatZRingPlays4
import Derived.Test.YtcjibpjdfhhhkaaGreatZRingPlays5
section
set_option linter.unusedVariables false
namespace Go.Proofs.YtcjibpjdfhhhkaaGreat.Si
open Go.RowKit Go.Proofs.YtcjibpjdfhhhkaaGreat.Mem

theorem and_255 (n : Int) : bits .and .i64 n 255 = n % 256 := by
  have h127 : (BitVec.ofInt 64 255).toNat = 2 ^ 8 - 1 := by decide
  have key : (BitVec.ofInt 64 n &&& BitVec.ofInt 64 255).toNat = (n % ((2 ^ 64 : Nat) : Int)).toNat % 2 ^ 8 := by
    rw [BitVec.toNat_and, BitVec.toNat_ofInt, h127, Nat.and_two_pow_sub_one_eq_mod]
  show IntKind.i64.wrap ((BitVec.ofInt 64 n &&& BitVec.ofInt 64 255).toNat : Nat) = n % 256
  rw [key, IntKind.wrap_i64]
  omega
theorem Rd.drop {w : World} {B : Nat} {x : Addr} {l : List UInt8} (h : Rd w B (some x) (bvs l)) (p : Nat) : Rd w B (some (x.add p)) (bvs (l.drop p)) := by
  rcases h with h | ⟨b, o, h1, h2, h3⟩
  · left
    have : l = [] := List.map_eq_nil_iff.1 h
    rw [this]; simp [bvs]
  · injection h1 with h1
    subst h1
    rw [addr_add]
    refine .inr ⟨b, o + p, rfl, h2, fun i u hu => ?_⟩
    have : (bvs l)[p + i]? = some u := by
      rw [← hu]; simp [bvs, List.getElem?_drop]
    have := h3 _ _ this
    rwa [Nat.add_assoc]
theorem Rd.take {w : World} {B : Nat} {A : Option Addr} {l : List UInt8} (h : Rd w B A (bvs l)) (k : Nat) : Rd w B A (bvs (l.take k)) := by
  rcases h with h | ⟨b, o, h1, h2, h3⟩
  · left
    have : l = [] := List.map_eq_nil_iff.1 h
    rw [this]; simp [bvs]
  · refine .inr ⟨b, o, h1, h2, fun i u hu => h3 i u ?_⟩
    rw [← hu]
    have hi : i < k := by
      rcases Nat.lt_or_ge i k with g | g
      · exact g
      · rw [List.getElem?_eq_none (by simp [bvs]; omega)] at hu; cases hu
    simp [bvs, hi]
theorem rd_key {w : World} {B : Nat} {t : TypeId} {ks : Nat → UInt8} (h : Blk w B t (key16 ks)) (o : Nat) (ho : o + 8 ≤ 16) : Rd w (B + 1) (some ⟨B, o, none⟩) (bvs ((List.range 8).map fun i => ks (o + i))) := by
  refine .inr ⟨B, o, rfl, by omega, fun i u hu => ?_⟩
  have hi : i < 8 := by
    rcases Nat.lt_or_ge i 8 with g | g
    · exact g
    · rw [List.getElem?_eq_none (by simp [bvs]; omega)] at hu; cases hu
  rw [h.cell, key16_at _ _ (by omega)]
  rw [← hu]
  simp [bvs, hi]
theorem key_lo {w : World} {B : Nat} {t : TypeId} {ks : Nat → UInt8} (h : Blk w B t (key16 ks)) : Calls Tryz.prog 69 #[.slice (some ⟨B, 0, none⟩) 8 16] w fun e w' => e = .returned (wv (kA ks)) ∧ w' = w := by
  have h1 := rd_key h 0 (by decide)
  have := dword (some ⟨B, 0, none⟩) 8 16 _ w (B + 1) (by simp) (by decide) h1
  have e : ((List.range 8).map fun i => ks (0 + i)) = (List.range 8).map ks := by simp
  rw [e] at this
  exact this
theorem key_hi {w : World} {B : Nat} {t : TypeId} {ks : Nat → UInt8} (h : Blk w B t (key16 ks)) : Calls Tryz.prog 69 #[.slice (some ⟨B, 8, none⟩) 8 8] w fun e w' => e = .returned (wv (kB ks)) ∧ w' = w :=
  dword (some ⟨B, 8, none⟩) 8 8 _ w (B + 1) (by simp) (by decide) (rd_key h 8 (by decide))
theorem last_or (ks : Nat → UInt8) (l : List UInt8) : bits .or .u64 (wordN (l.drop (8 * (l.length / 8))) : Nat) (IntKind.u64.wrap (((l.length % 256 : Nat) : Int) * 72057594037927936)) = ((lastW (stOf ks l)).toNat : Int) := by
  have hr : wordN (l.drop (8 * (l.length / 8))) < 72057594037927936 := wordN_7 (by rw [List.length_drop]; omega)
  have h := or_count (wordN (l.drop (8 * (l.length / 8)))) (l.length % 256) hr
  rw [IntKind.wrap_u64, h, Nat.mod_mod]
  rw [lastW_nat _ (by rw [stOf_all]; exact hr), stOf_all]
def stcV (ks : Nat → UInt8) : Array Value := cells4 (start ks)
set_option maxRecDepth 100000 in
set_option maxHeartbeats 3200000 in
theorem dsum_some (ks : Nat → UInt8) (x : Addr) (n c : Nat) (l : List UInt8) (w : World) (hn : n = l.length) (hl : n ≤ 100000) (hc : n ≤ c) (hm : c ≤ maxLen) (hr : Rd w w.heap.size (some x) (bvs l)) :
    Calls Tryz.prog 52 #[.agg (key16 ks), .slice (some x) n c] w fun e w' => e = .returned (wv (sumOf ks l)) ∧ Below w.heap.size w w' := by
  obtain ⟨B, eB⟩ : ∃ B, B = w.heap.size := ⟨_, rfl⟩
  rw [← eB] at hr
  have EB := Lib.hid eB
  have HR := Lib.hid hr; clear hr
  have HN := Lib.hid hn; clear hn
  have hkk : key16 ks = #[.int .u8 ((ks 0).toNat : Int), .int .u8 ((ks 1).toNat : Int), .int .u8 ((ks 2).toNat : Int), .int .u8 ((ks 3).toNat : Int), .int .u8 ((ks 4).toNat : Int), .int .u8 ((ks 5).toNat : Int), .int .u8 ((ks 6).toNat : Int), .int .u8 ((ks 7).toNat : Int), .int .u8 ((ks 8).toNat : Int), .int .u8 ((ks 9).toNat : Int), .int .u8 ((ks 10).toNat : Int), .int .u8 ((ks 11).toNat : Int), .int .u8 ((ks 12).toNat : Int), .int .u8 ((ks 13).toNat : Int), .int .u8 ((ks 14).toNat : Int), .int .u8 ((ks 15).toNat : Int)] := rfl
  have hsz : stcV ks = #[wv (start ks).a, wv (start ks).b, wv (start ks).c, wv (start ks).d] := rfl
  obtain ⟨p, ep⟩ : ∃ x, x = kA ks := ⟨_, rfl⟩
  obtain ⟨q, eq⟩ : ∃ x, x = kB ks := ⟨_, rfl⟩
  obtain ⟨v0, e0⟩ : ∃ x, x = 0x736f6d6570736575#64 ^^^ p := ⟨_, rfl⟩
  obtain ⟨v1, e1⟩ : ∃ x, x = 0x646f72616e646f6d#64 ^^^ q := ⟨_, rfl⟩
  obtain ⟨v2, e2⟩ : ∃ x, x = 0x6c7967656e657261#64 ^^^ p := ⟨_, rfl⟩
  obtain ⟨v3, e3⟩ : ∃ x, x = 0x7465646279746573#64 ^^^ q := ⟨_, rfl⟩
  have x0 : bits .xor .u64 8317987319222330741 (p.toNat : Int) = (v0.toNat : Int) := by rw [e0]; exact xor_w 0x736f6d6570736575#64 p
  have x1 : bits .xor .u64 7237128888997146477 (q.toNat : Int) = (v1.toNat : Int) := by rw [e1]; exact xor_w 0x646f72616e646f6d#64 q
  have x2 : bits .xor .u64 7816392313619706465 (p.toNat : Int) = (v2.toNat : Int) := by rw [e2]; exact xor_w 0x6c7967656e657261#64 p
  have x3 : bits .xor .u64 8387220255154660723 (q.toNat : Int) = (v3.toNat : Int) := by rw [e3]; exact xor_w 0x7465646279746573#64 q
  have hs : stcV ks = #[.int .u64 (v0.toNat : Int), .int .u64 (v1.toNat : Int), .int .u64 (v2.toNat : Int), .int .u64 (v3.toNat : Int)] := by
    rw [hsz, e0, e1, e2, e3, ep, eq]; rfl
  have HS := Lib.hid hs; clear hs
  obtain ⟨kz, ekz⟩ : ∃ z, z = key16 ks := ⟨_, rfl⟩
  rw [← ekz]
  have EKZ := Lib.hid ekz
  have hK : Blk (w.alloc (.cells kz 93)) B 93 (key16 ks) := Blk.new_of w B _ _ _ ekz eB.symm
  have hW : Below B w (w.alloc (.cells kz 93)) := by rw [eB]; exact (Below.refl _ w).alloc (Nat.le_refl _) _
  clear hsz e0 e1 e2 e3
  have cA := key_lo (hK.drewN 1)
  have cB := key_hi (hK.drewN 1)
  rw [← ep] at cA
  rw [← eq] at cB
  have HW := Lib.hid hW; clear hW
  clear hkk ekz ep eq hK
  go_enter Tryz.func52, Tryz.ntmps52
  go_upto_region 1 with fail
  rw [← eB]
  clear eB
  have HM := Lib.hid hm; clear hm
  generalize w.alloc (.cells kz 93) = w1 at cA cB HW ⊢
  refine wp_region_still_lit (by kernel_rfl) (by kernel_rfl) ?_
  change wpStill _ _ w1.drew _ _ _
  repeat still_step
  still_call cA
  repeat still_step
  still_call cB
  repeat still_step
  refine wpStill_nil ?_
  try change _ w1.drew
  clear cA cB
  go_upto_region 3 with fail
  obtain ⟨g, eg⟩ : ∃ g, g = w1.heap.size := ⟨_, rfl⟩
  have hB0 : Blk (w1.alloc (.cells #[.int .u64 (v0.toNat : Int), .int .u64 (v1.toNat : Int), .int .u64 (v2.toNat : Int), .int .u64 (v3.toNat : Int)] 141)).drew g 141 (cells4 (full ks l (0 / 8))) := Blk.drewN (Blk.new_of w1 g _ _ _ HS.out.symm eg.symm) 1
  have hW0 : Below B w (w1.alloc (.cells #[.int .u64 (v0.toNat : Int), .int .u64 (v1.toNat : Int), .int .u64 (v2.toNat : Int), .int .u64 (v3.toNat : Int)] 141)).drew := below_drewN (HW.out.alloc (by rw [EB.out]; exact HW.out.size) _) 1
  have hg : B ≤ g := by rw [eg, EB.out]; exact HW.out.size
  rw [← eg]
  generalize (w1.alloc (.cells #[.int .u64 (v0.toNat : Int), .int .u64 (v1.toNat : Int), .int .u64 (v2.toNat : Int), .int .u64 (v3.toNat : Int)] 141)).drew = w2 at hB0 hW0 ⊢
  have HB0 := Lib.hid hB0; clear hB0
  have HW0 := Lib.hid hW0; clear hW0
  have HGB := Lib.hid hg; clear hg
  clear HS HW eg x0 x1 x2 x3
  have l5 : (n : Int) ≤ 100000 := by omega
  have c0 : (n : Int) ≤ (c : Int) := by omega
  have hcm : c ≤ 9223372036854775807 := by have := HM.out; unfold maxLen at this; omega
  have hcm2 : (c : Int) ≤ 9223372036854775807 := by omega
  go_wp2_with fail
  go_loopw [8] (fun iv wr => ∃ u : Nat, u ≤ n ∧ u % 8 = 0 ∧ iv = .int .i64 (u : Int) ∧ Below B w wr ∧ Blk wr g 141 (cells4 (full ks l (u / 8)))) (fun iv _ => n - (intOf iv).toNat)
  case atStart => exact ⟨0, Nat.zero_le _, rfl, rfl, HW0.out, HB0.out⟩
  case round =>
    clear HB0 HW0
    obtain ⟨u, hu, hu8, rfl, hW, hB⟩ := hrel
    have HW := Lib.hid hW; clear hW
    have HB := Lib.hid hB; clear hB
    have HU8 := Lib.hid hu8; clear hu8
    have d0 : (0 : Int) ≤ (u : Int) := by omega
    have d1 : (u : Int) ≤ (n : Int) := by omega
    by_cases hx : n - u < 8
    · have hj : u / 8 = n / 8 := by have := HU8.out; omega
      have t1 : (n : Int) - (u : Int) < 8 := by omega
      have HX := Lib.hid hx; clear hx
      have HJ := Lib.hid hj; clear hj
      obtain ⟨k, ek⟩ : ∃ k, k = n % 256 := ⟨_, rfl⟩
      have hand : bits .and .i64 (n : Int) 255 = (k : Int) := by rw [and_255, ek]; omega
      have k1 : (k : Int) < 256 := by omega
      have k2 : (0 : Int) ≤ (k : Int) := by omega
      have hwk : IntKind.u64.wrap (k : Int) = (k : Int) := by rw [IntKind.wrap_u64]; omega
      have hu0 : u = 8 * (l.length / 8) := by have := HU8.out; have := HN.out; have := HX.out; omega
      have hll : (l.drop u).length = n - u := by rw [List.length_drop, HN.out]
      obtain ⟨mw, emw⟩ : ∃ m, m = wd (wordN (l.drop u)) := ⟨_, rfl⟩
      obtain ⟨lw, elw⟩ : ∃ m, m = lastW (stOf ks l) := ⟨_, rfl⟩
      have hmw : mw.toNat = wordN (l.drop u) := by rw [emw]; exact wd_nat _ (wordN_8 (by have := HX.out; omega))
      have hx1 : bits .or .u64 (mw.toNat : Int) (IntKind.u64.wrap ((k : Int) * 72057594037927936)) = (lw.toNat : Int) := by
        have h := last_or ks l
        rw [← hu0, ← hmw, ← HN.out, ← ek, ← elw] at h
        exact h
      have hx2 : bits .or .u64 (mw.toNat : Int) ((k : Int) * 72057594037927936) = (lw.toNat : Int) := by
        rw [← hx1, IntKind.wrap_u64]; congr 1; omega
      have cA := dword (some (x.add u)) (n - u) (c - u) (l.drop u) wr B hll.symm (by have := HX.out; omega) (Rd.drop (HR.out.below HW.out) u)
      have cB : u = c → Calls Tryz.prog 69 #[.slice (some x) 0 0] wr fun e w' => e = .returned (wv (wd (wordN (l.drop u)))) ∧ w' = wr := fun h => dword (some x) 0 0 (l.drop u) wr B (by omega) (by decide) (.inl (by rw [List.eq_nil_of_length_eq_zero (l := l.drop u) (by omega)]; rfl))
      rw [← emw] at cA
      rw [← emw] at cB
      obtain ⟨⟨a, b, cc, d⟩, e1⟩ : ∃ t, t = addM (full ks l (u / 8)) lw := ⟨_, rfl⟩
      obtain ⟨c1, ec⟩ : ∃ x, x = cc ^^^ 255#64 := ⟨_, rfl⟩
      obtain ⟨V0, eV⟩ : ∃ x : V, x = ⟨a, b, c1, d⟩ := ⟨_, rfl⟩
      obtain ⟨⟨a2, b2, c2, d2⟩, e2⟩ : ∃ t, t = rnds 4 V0 := ⟨_, rfl⟩
      obtain ⟨q1, eq1⟩ : ∃ x, x = a2 ^^^ b2 := ⟨_, rfl⟩
      obtain ⟨q2, eq2⟩ : ∃ x, x = q1 ^^^ c2 := ⟨_, rfl⟩
      obtain ⟨q3, eq3⟩ : ∃ x, x = q2 ^^^ d2 := ⟨_, rfl⟩
      have hall : sumOf ks l = q3 := by
        have hv : (stOf ks l).v = full ks l (u / 8) := by rw [stOf_all, HJ.out, HN.out]
        rw [sumOf, finS, ← elw, hv, ← e1, fin, ← ec, ← eV, ← e2, allX, ← eq1, ← eq2, ← eq3]
      have x0 : bits .xor .u64 (cc.toNat : Int) 255 = (c1.toNat : Int) := by rw [ec]; exact xor_w cc 255#64
      have x1 : bits .xor .u64 (a2.toNat : Int) (b2.toNat : Int) = (q1.toNat : Int) := by rw [eq1]; exact xor_w _ _
      have x2 : bits .xor .u64 (q1.toNat : Int) (c2.toNat : Int) = (q2.toNat : Int) := by rw [eq2]; exact xor_w _ _
      have x3 : bits .xor .u64 (q2.toNat : Int) (d2.toNat : Int) = (q3.toNat : Int) := by rw [eq3]; exact xor_w _ _
      have ct := dtake g (full ks l (u / 8)) lw wr HB.out
      rw [← e1] at ct
      have HALL := Lib.hid hall; clear hall
      have EV := Lib.hid eV; clear eV
      have E2 := Lib.hid e2; clear e2
      have HX0 := Lib.hid x0; clear x0
      have HX1 := Lib.hid x1; clear x1
      have HX2 := Lib.hid x2; clear x2
      have HX3 := Lib.hid x3; clear x3
      have HSZ := Lib.hid (Blk.lt HB.out)
      clear e1 ec eq1 eq2 eq3 hmw emw elw hll hu0 ek HJ HU8
      go_upto_region 7 with fail
      go_cut [] from 39 to 50 (fun wx => Below B w wx ∧ Blk wx g 141 (cells4 ⟨a, b, cc, d⟩))
      case first =>
        have hcu : u = c ∨ u < c := by omega
        rcases hcu with hcu | hcu
        · have cB0 := cB hcu; clear cB
          clear cA
          subst hcu
          go_wp2_with (first
            | (go_at_call 69; refine Calls.mono cB0 ?_; rintro e w' ⟨rfl, hw⟩; have hw := hw.symm; subst hw; clear cB0)
            | (go_at_call 70; refine Calls.mono ct ?_; rintro e v1 ⟨rfl, hB1, hG1⟩; clear ct; have HB1 := Lib.hid hB1; have HW1 := Lib.hid (below_g HW.out hG1 (by have := HSZ.out; have := HGB.out; omega) HGB.out); clear hB1 hG1))
          go_meet
          exact ⟨HW1.out, HB1.out⟩
        · clear cB
          have hcu2 : (u : Int) < (c : Int) := by omega
          go_wp2_with (first
            | (go_at_call 69; refine Calls.mono cA ?_; rintro e w' ⟨rfl, hw⟩; have hw := hw.symm; subst hw; clear cA)
            | (go_at_call 70; refine Calls.mono ct ?_; rintro e v1 ⟨rfl, hB1, hG1⟩; clear ct; have HB1 := Lib.hid hB1; have HW1 := Lib.hid (below_g HW.out hG1 (by have := HSZ.out; have := HGB.out; omega) HGB.out); clear hB1 hG1))
          go_meet
          exact ⟨HW1.out, HB1.out⟩
      case rest =>
        obtain ⟨hW1, hB1⟩ := hcut
        have HB1 := Lib.hid hB1; clear hB1
        have HW1 := Lib.hid hW1; clear hW1
        have k2 : wc.cell? ⟨g, 2, none⟩ = some (.int .u64 (cc.toNat : Int)) := by rw [HB1.out.cell]; rfl
        have fz := HB1.out.frozen
        have x0 := HX0.out
        clear HX0 hand hwk hx1 hx2 cA cB ct
        go_upto_region 8 with fail
        refine wp_region_still_tail 8 (by kernel_rfl) (by kernel_rfl) ?_
        simp only [List.take_succ_cons, List.take_zero, List.drop_succ_cons, List.drop_zero]
        change wpStill _ _ wc.drew _ _ _
        repeat still_step
        refine wpStill_nil ?_
        change wpList _ _ _ _ _ wc.drew
        go_upto_region 9 with fail
        have hB2 : Blk (wc.setCell ⟨g, 2, none⟩ (.int .u64 (c1.toNat : Int))).drew g 141 (cells4 V0) := by rw [EV.out]; exact Blk.set HB1.out 2 (wv c1)
        have hW2 : Below B w (wc.setCell ⟨g, 2, none⟩ (.int .u64 (c1.toNat : Int))).drew := below_drewN (below_set HW1.out HGB.out _) 1
        generalize (wc.setCell ⟨g, 2, none⟩ (.int .u64 (c1.toNat : Int))).drew = v2 at hB2 hW2 ⊢
        have HB2 := Lib.hid hB2; clear hB2
        have HW2 := Lib.hid hW2; clear hW2
        clear k2 fz x0 HB1 HW1 HSZ HB HW
        go_wp2_with fail
        go_loopw [9] (fun iv wr => ∃ i : Nat, i ≤ 4 ∧ iv = .int .i64 (i : Int) ∧ Below B w wr ∧ Blk wr g 141 (cells4 (rnds i V0))) (fun iv _ => 4 - (intOf iv).toNat)
        case atStart => exact ⟨0, by decide, rfl, HW2.out, HB2.out⟩
        case round =>
          obtain ⟨i, hi, rfl, hW3, hB3⟩ := hrel
          clear HB2 HW2
          have HB3 := Lib.hid hB3; clear hB3
          have HW3 := Lib.hid hW3; clear hW3
          by_cases hi4 : i = 4
          · subst hi4
            have hb3 := HB3.out
            rw [← E2.out] at hb3
            have k0 : wr.cell? ⟨g, 0, none⟩ = some (.int .u64 (a2.toNat : Int)) := by rw [hb3.cell]; rfl
            have k1 : wr.cell? ⟨g, 1, none⟩ = some (.int .u64 (b2.toNat : Int)) := by rw [hb3.cell]; rfl
            have k2 : wr.cell? ⟨g, 2, none⟩ = some (.int .u64 (c2.toNat : Int)) := by rw [hb3.cell]; rfl
            have k3 : wr.cell? ⟨g, 3, none⟩ = some (.int .u64 (d2.toNat : Int)) := by rw [hb3.cell]; rfl
            have x1 := HX1.out
            have x2 := HX2.out
            have x3 := HX3.out
            clear hb3
            go_upto_region 13 with fail
            refine wp_region_still_lit (by kernel_rfl) (by kernel_rfl) ?_
            change wpStill _ _ wr.drew _ _ _
            repeat still_step
            refine wpStill_nil ?_
            try change _ wr.drew
            go_wp2_with fail
            go_ret
            exact ⟨by rw [HALL.out]; rfl, by rw [← EB.out]; exact below_drewN HW3.out 1⟩
          · have j1 : (i : Int) < 4 := by omega
            have j2 : (0 : Int) ≤ (i : Int) := by omega
            have cr := dround g (rnds i V0) wr HB3.out
            have HSZ := Lib.hid (Blk.lt HB3.out)
            have HI4 := Lib.hid hi4; clear hi4
            go_wp2_with (go_at_call 71; refine Calls.mono cr ?_; rintro e v4 ⟨rfl, hB4, hG4⟩; clear cr; have HB4 := Lib.hid hB4; have HG4 := Lib.hid hG4; clear hB4 hG4)
            go_roundw
            case rel => exact ⟨i + 1, by have := HI4.out; omega, by go_num, below_g HW3.out HG4.out (by have := HSZ.out; have := HGB.out; omega) HGB.out, HB4.out⟩
            case measure => simp [intOf]; omega
    · have t1 : (8 : Int) ≤ (n : Int) - (u : Int) := by omega
      have t2 : (u : Int) + 8 ≤ (n : Int) := by omega
      have t3 : u + 8 ≤ n := by omega
      have HX := Lib.hid hx; clear hx
      have hj : (u + 8) / 8 = u / 8 + 1 := by omega
      have hu0 : u = 8 * (u / 8) := by have := HU8.out; omega
      have hl8 : ((l.drop u).take 8).length = 8 := by rw [List.length_take, List.length_drop, ← HN.out]; omega
      have cA := dword (some (x.add u)) 8 (c - u) ((l.drop u).take 8) wr B hl8.symm (by decide) (Rd.take (Rd.drop (HR.out.below HW.out) u) 8)
      obtain ⟨mw, emw⟩ : ∃ m, m = wd (wordN ((l.drop u).take 8)) := ⟨_, rfl⟩
      rw [← emw] at cA
      have hfull : addM (full ks l (u / 8)) mw = full ks l ((u + 8) / 8) := by rw [hj, full, ← hu0, ← emw]
      have ct := dtake g (full ks l (u / 8)) mw wr HB.out
      rw [hfull] at ct
      have HSZ := Lib.hid (Blk.lt HB.out)
      clear hj hu0 hl8 emw hfull
      go_wp2_with (first
        | (go_at_call 69; refine Calls.mono cA ?_; rintro e w' ⟨rfl, hw⟩; have hw := hw.symm; subst hw; clear cA)
        | (go_at_call 70; refine Calls.mono ct ?_; rintro e v1 ⟨rfl, hB1, hG1⟩; clear ct; have HB1 := Lib.hid hB1; have HW1 := Lib.hid (below_g HW.out hG1 (by have := HSZ.out; have := HGB.out; omega) HGB.out); clear hB1 hG1))
      go_roundw
      case rel => exact ⟨u + 8, by omega, by have := HU8.out; omega, by go_num, HW1.out, HB1.out⟩
      case measure => simp [intOf]; omega
end Go.Proofs.YtcjibpjdfhhhkaaGreat.Si
end

section
set_option linter.unusedVariables false
namespace Go.Proofs.YtcjibpjdfhhhkaaGreat.Si
open Go.RowKit Go.Proofs.YtcjibpjdfhhhkaaGreat.Mem

set_option maxRecDepth 100000 in
set_option maxHeartbeats 3200000 in
theorem dsum_none (ks : Nat → UInt8) (n c : Nat) (l : List UInt8) (w : World) (hn : n = l.length) (hl : n ≤ 100000) (hc : n ≤ c) (hm : c ≤ maxLen) (h0 : n = 0) :
    Calls Tryz.prog 52 #[.agg (key16 ks), .slice none n c] w fun e w' => e = .returned (wv (sumOf ks l)) ∧ Below w.heap.size w w' := by
  obtain ⟨B, eB⟩ : ∃ B, B = w.heap.size := ⟨_, rfl⟩
  have EB := Lib.hid eB
  have H0 := Lib.hid h0; clear h0
  have HN := Lib.hid hn; clear hn
  have hkk : key16 ks = #[.int .u8 ((ks 0).toNat : Int), .int .u8 ((ks 1).toNat : Int), .int .u8 ((ks 2).toNat : Int), .int .u8 ((ks 3).toNat : Int), .int .u8 ((ks 4).toNat : Int), .int .u8 ((ks 5).toNat : Int), .int .u8 ((ks 6).toNat : Int), .int .u8 ((ks 7).toNat : Int), .int .u8 ((ks 8).toNat : Int), .int .u8 ((ks 9).toNat : Int), .int .u8 ((ks 10).toNat : Int), .int .u8 ((ks 11).toNat : Int), .int .u8 ((ks 12).toNat : Int), .int .u8 ((ks 13).toNat : Int), .int .u8 ((ks 14).toNat : Int), .int .u8 ((ks 15).toNat : Int)] := rfl
  have hsz : stcV ks = #[wv (start ks).a, wv (start ks).b, wv (start ks).c, wv (start ks).d] := rfl
  obtain ⟨p, ep⟩ : ∃ x, x = kA ks := ⟨_, rfl⟩
  obtain ⟨q, eq⟩ : ∃ x, x = kB ks := ⟨_, rfl⟩
  obtain ⟨v0, e0⟩ : ∃ x, x = 0x736f6d6570736575#64 ^^^ p := ⟨_, rfl⟩
  obtain ⟨v1, e1⟩ : ∃ x, x = 0x646f72616e646f6d#64 ^^^ q := ⟨_, rfl⟩
  obtain ⟨v2, e2⟩ : ∃ x, x = 0x6c7967656e657261#64 ^^^ p := ⟨_, rfl⟩
  obtain ⟨v3, e3⟩ : ∃ x, x = 0x7465646279746573#64 ^^^ q := ⟨_, rfl⟩
  have x0 : bits .xor .u64 8317987319222330741 (p.toNat : Int) = (v0.toNat : Int) := by rw [e0]; exact xor_w 0x736f6d6570736575#64 p
  have x1 : bits .xor .u64 7237128888997146477 (q.toNat : Int) = (v1.toNat : Int) := by rw [e1]; exact xor_w 0x646f72616e646f6d#64 q
  have x2 : bits .xor .u64 7816392313619706465 (p.toNat : Int) = (v2.toNat : Int) := by rw [e2]; exact xor_w 0x6c7967656e657261#64 p
  have x3 : bits .xor .u64 8387220255154660723 (q.toNat : Int) = (v3.toNat : Int) := by rw [e3]; exact xor_w 0x7465646279746573#64 q
  have hs : stcV ks = #[.int .u64 (v0.toNat : Int), .int .u64 (v1.toNat : Int), .int .u64 (v2.toNat : Int), .int .u64 (v3.toNat : Int)] := by
    rw [hsz, e0, e1, e2, e3, ep, eq]; rfl
  have HS := Lib.hid hs; clear hs
  obtain ⟨kz, ekz⟩ : ∃ z, z = key16 ks := ⟨_, rfl⟩
  rw [← ekz]
  have EKZ := Lib.hid ekz
  have hK : Blk (w.alloc (.cells kz 93)) B 93 (key16 ks) := Blk.new_of w B _ _ _ ekz eB.symm
  have hW : Below B w (w.alloc (.cells kz 93)) := by rw [eB]; exact (Below.refl _ w).alloc (Nat.le_refl _) _
  clear hsz e0 e1 e2 e3
  have cA := key_lo (hK.drewN 1)
  have cB := key_hi (hK.drewN 1)
  rw [← ep] at cA
  rw [← eq] at cB
  have HW := Lib.hid hW; clear hW
  clear hkk ekz ep eq hK
  go_enter Tryz.func52, Tryz.ntmps52
  go_upto_region 1 with fail
  rw [← eB]
  clear eB
  have HM := Lib.hid hm; clear hm
  generalize w.alloc (.cells kz 93) = w1 at cA cB HW ⊢
  refine wp_region_still_lit (by kernel_rfl) (by kernel_rfl) ?_
  change wpStill _ _ w1.drew _ _ _
  repeat still_step
  still_call cA
  repeat still_step
  still_call cB
  repeat still_step
  refine wpStill_nil ?_
  try change _ w1.drew
  clear cA cB
  go_upto_region 3 with fail
  obtain ⟨g, eg⟩ : ∃ g, g = w1.heap.size := ⟨_, rfl⟩
  have hB0 : Blk (w1.alloc (.cells #[.int .u64 (v0.toNat : Int), .int .u64 (v1.toNat : Int), .int .u64 (v2.toNat : Int), .int .u64 (v3.toNat : Int)] 141)).drew g 141 (cells4 (full ks l (0 / 8))) := Blk.drewN (Blk.new_of w1 g _ _ _ HS.out.symm eg.symm) 1
  have hW0 : Below B w (w1.alloc (.cells #[.int .u64 (v0.toNat : Int), .int .u64 (v1.toNat : Int), .int .u64 (v2.toNat : Int), .int .u64 (v3.toNat : Int)] 141)).drew := below_drewN (HW.out.alloc (by rw [EB.out]; exact HW.out.size) _) 1
  have hg : B ≤ g := by rw [eg, EB.out]; exact HW.out.size
  rw [← eg]
  generalize (w1.alloc (.cells #[.int .u64 (v0.toNat : Int), .int .u64 (v1.toNat : Int), .int .u64 (v2.toNat : Int), .int .u64 (v3.toNat : Int)] 141)).drew = w2 at hB0 hW0 ⊢
  have HB0 := Lib.hid hB0; clear hB0
  have HW0 := Lib.hid hW0; clear hW0
  have HGB := Lib.hid hg; clear hg
  clear HS HW eg x0 x1 x2 x3
  have l5 : (n : Int) ≤ 100000 := by omega
  have c0 : (n : Int) ≤ (c : Int) := by omega
  have hcm : c ≤ 9223372036854775807 := by have := HM.out; unfold maxLen at this; omega
  have hcm2 : (c : Int) ≤ 9223372036854775807 := by omega
  go_wp2_with fail
  go_loopw [8] (fun iv wr => ∃ u : Nat, u ≤ n ∧ u % 8 = 0 ∧ iv = .int .i64 (u : Int) ∧ Below B w wr ∧ Blk wr g 141 (cells4 (full ks l (u / 8)))) (fun iv _ => n - (intOf iv).toNat)
  case atStart => exact ⟨0, Nat.zero_le _, rfl, rfl, HW0.out, HB0.out⟩
  case round =>
    clear HB0 HW0
    obtain ⟨u, hu, hu8, rfl, hW, hB⟩ := hrel
    have HW := Lib.hid hW; clear hW
    have HB := Lib.hid hB; clear hB
    have HU8 := Lib.hid hu8; clear hu8
    have d0 : (0 : Int) ≤ (u : Int) := by omega
    have d1 : (u : Int) ≤ (n : Int) := by omega
    by_cases hx : n - u < 8
    · have hj : u / 8 = n / 8 := by have := HU8.out; omega
      have t1 : (n : Int) - (u : Int) < 8 := by omega
      have HX := Lib.hid hx; clear hx
      have HJ := Lib.hid hj; clear hj
      obtain ⟨k, ek⟩ : ∃ k, k = n % 256 := ⟨_, rfl⟩
      have hand : bits .and .i64 (n : Int) 255 = (k : Int) := by rw [and_255, ek]; omega
      have k1 : (k : Int) < 256 := by omega
      have k2 : (0 : Int) ≤ (k : Int) := by omega
      have hwk : IntKind.u64.wrap (k : Int) = (k : Int) := by rw [IntKind.wrap_u64]; omega
      have hu0 : u = 8 * (l.length / 8) := by have := HU8.out; have := HN.out; have := HX.out; omega
      have hll : (l.drop u).length = n - u := by rw [List.length_drop, HN.out]
      obtain ⟨mw, emw⟩ : ∃ m, m = wd (wordN (l.drop u)) := ⟨_, rfl⟩
      obtain ⟨lw, elw⟩ : ∃ m, m = lastW (stOf ks l) := ⟨_, rfl⟩
      have hmw : mw.toNat = wordN (l.drop u) := by rw [emw]; exact wd_nat _ (wordN_8 (by have := HX.out; omega))
      have hx1 : bits .or .u64 (mw.toNat : Int) (IntKind.u64.wrap ((k : Int) * 72057594037927936)) = (lw.toNat : Int) := by
        have h := last_or ks l
        rw [← hu0, ← hmw, ← HN.out, ← ek, ← elw] at h
        exact h
      have hx2 : bits .or .u64 (mw.toNat : Int) ((k : Int) * 72057594037927936) = (lw.toNat : Int) := by
        rw [← hx1, IntKind.wrap_u64]; congr 1; omega
      have cA := dword none (n - u) (c - u) (l.drop u) wr B hll.symm (by have := HX.out; omega) (.inl (by rw [List.eq_nil_of_length_eq_zero (l := l.drop u) (by have := H0.out; omega)]; rfl))
      have cB : u = c → Calls Tryz.prog 69 #[.slice none 0 0] wr fun e w' => e = .returned (wv (wd (wordN (l.drop u)))) ∧ w' = wr := fun h => dword none 0 0 (l.drop u) wr B (by omega) (by decide) (.inl (by rw [List.eq_nil_of_length_eq_zero (l := l.drop u) (by omega)]; rfl))
      rw [← emw] at cA
      rw [← emw] at cB
      obtain ⟨⟨a, b, cc, d⟩, e1⟩ : ∃ t, t = addM (full ks l (u / 8)) lw := ⟨_, rfl⟩
      obtain ⟨c1, ec⟩ : ∃ x, x = cc ^^^ 255#64 := ⟨_, rfl⟩
      obtain ⟨V0, eV⟩ : ∃ x : V, x = ⟨a, b, c1, d⟩ := ⟨_, rfl⟩
      obtain ⟨⟨a2, b2, c2, d2⟩, e2⟩ : ∃ t, t = rnds 4 V0 := ⟨_, rfl⟩
      obtain ⟨q1, eq1⟩ : ∃ x, x = a2 ^^^ b2 := ⟨_, rfl⟩
      obtain ⟨q2, eq2⟩ : ∃ x, x = q1 ^^^ c2 := ⟨_, rfl⟩
      obtain ⟨q3, eq3⟩ : ∃ x, x = q2 ^^^ d2 := ⟨_, rfl⟩
      have hall : sumOf ks l = q3 := by
        have hv : (stOf ks l).v = full ks l (u / 8) := by rw [stOf_all, HJ.out, HN.out]
        rw [sumOf, finS, ← elw, hv, ← e1, fin, ← ec, ← eV, ← e2, allX, ← eq1, ← eq2, ← eq3]
      have x0 : bits .xor .u64 (cc.toNat : Int) 255 = (c1.toNat : Int) := by rw [ec]; exact xor_w cc 255#64
      have x1 : bits .xor .u64 (a2.toNat : Int) (b2.toNat : Int) = (q1.toNat : Int) := by rw [eq1]; exact xor_w _ _
      have x2 : bits .xor .u64 (q1.toNat : Int) (c2.toNat : Int) = (q2.toNat : Int) := by rw [eq2]; exact xor_w _ _
      have x3 : bits .xor .u64 (q2.toNat : Int) (d2.toNat : Int) = (q3.toNat : Int) := by rw [eq3]; exact xor_w _ _
      have ct := dtake g (full ks l (u / 8)) lw wr HB.out
      rw [← e1] at ct
      have HALL := Lib.hid hall; clear hall
      have EV := Lib.hid eV; clear eV
      have E2 := Lib.hid e2; clear e2
      have HX0 := Lib.hid x0; clear x0
      have HX1 := Lib.hid x1; clear x1
      have HX2 := Lib.hid x2; clear x2
      have HX3 := Lib.hid x3; clear x3
      have HSZ := Lib.hid (Blk.lt HB.out)
      clear e1 ec eq1 eq2 eq3 hmw emw elw hll hu0 ek HJ HU8
      go_upto_region 7 with fail
      go_cut [] from 39 to 50 (fun wx => Below B w wx ∧ Blk wx g 141 (cells4 ⟨a, b, cc, d⟩))
      case first =>
        have hcu : u = c ∨ u < c := by omega
        rcases hcu with hcu | hcu
        · have cB0 := cB hcu; clear cB
          clear cA
          subst hcu
          go_wp2_with (first
            | (go_at_call 69; refine Calls.mono cB0 ?_; rintro e w' ⟨rfl, hw⟩; have hw := hw.symm; subst hw; clear cB0)
            | (go_at_call 70; refine Calls.mono ct ?_; rintro e v1 ⟨rfl, hB1, hG1⟩; clear ct; have HB1 := Lib.hid hB1; have HW1 := Lib.hid (below_g HW.out hG1 (by have := HSZ.out; have := HGB.out; omega) HGB.out); clear hB1 hG1))
          go_meet
          exact ⟨HW1.out, HB1.out⟩
        · clear cB
          have hcu2 : (u : Int) < (c : Int) := by omega
          go_wp2_with (first
            | (go_at_call 69; refine Calls.mono cA ?_; rintro e w' ⟨rfl, hw⟩; have hw := hw.symm; subst hw; clear cA)
            | (go_at_call 70; refine Calls.mono ct ?_; rintro e v1 ⟨rfl, hB1, hG1⟩; clear ct; have HB1 := Lib.hid hB1; have HW1 := Lib.hid (below_g HW.out hG1 (by have := HSZ.out; have := HGB.out; omega) HGB.out); clear hB1 hG1))
          go_meet
          exact ⟨HW1.out, HB1.out⟩
      case rest =>
        obtain ⟨hW1, hB1⟩ := hcut
        have HB1 := Lib.hid hB1; clear hB1
        have HW1 := Lib.hid hW1; clear hW1
        have k2 : wc.cell? ⟨g, 2, none⟩ = some (.int .u64 (cc.toNat : Int)) := by rw [HB1.out.cell]; rfl
        have fz := HB1.out.frozen
        have x0 := HX0.out
        clear HX0 hand hwk hx1 hx2 cA cB ct
        go_upto_region 8 with fail
        refine wp_region_still_tail 8 (by kernel_rfl) (by kernel_rfl) ?_
        simp only [List.take_succ_cons, List.take_zero, List.drop_succ_cons, List.drop_zero]
        change wpStill _ _ wc.drew _ _ _
        repeat still_step
        refine wpStill_nil ?_
        change wpList _ _ _ _ _ wc.drew
        go_upto_region 9 with fail
        have hB2 : Blk (wc.setCell ⟨g, 2, none⟩ (.int .u64 (c1.toNat : Int))).drew g 141 (cells4 V0) := by rw [EV.out]; exact Blk.set HB1.out 2 (wv c1)
        have hW2 : Below B w (wc.setCell ⟨g, 2, none⟩ (.int .u64 (c1.toNat : Int))).drew := below_drewN (below_set HW1.out HGB.out _) 1
        generalize (wc.setCell ⟨g, 2, none⟩ (.int .u64 (c1.toNat : Int))).drew = v2 at hB2 hW2 ⊢
        have HB2 := Lib.hid hB2; clear hB2
        have HW2 := Lib.hid hW2; clear hW2
        clear k2 fz x0 HB1 HW1 HSZ HB HW
        go_wp2_with fail
        go_loopw [9] (fun iv wr => ∃ i : Nat, i ≤ 4 ∧ iv = .int .i64 (i : Int) ∧ Below B w wr ∧ Blk wr g 141 (cells4 (rnds i V0))) (fun iv _ => 4 - (intOf iv).toNat)
        case atStart => exact ⟨0, by decide, rfl, HW2.out, HB2.out⟩
        case round =>
          obtain ⟨i, hi, rfl, hW3, hB3⟩ := hrel
          clear HB2 HW2
          have HB3 := Lib.hid hB3; clear hB3
          have HW3 := Lib.hid hW3; clear hW3
          by_cases hi4 : i = 4
          · subst hi4
            have hb3 := HB3.out
            rw [← E2.out] at hb3
            have k0 : wr.cell? ⟨g, 0, none⟩ = some (.int .u64 (a2.toNat : Int)) := by rw [hb3.cell]; rfl
            have k1 : wr.cell? ⟨g, 1, none⟩ = some (.int .u64 (b2.toNat : Int)) := by rw [hb3.cell]; rfl
            have k2 : wr.cell? ⟨g, 2, none⟩ = some (.int .u64 (c2.toNat : Int)) := by rw [hb3.cell]; rfl
            have k3 : wr.cell? ⟨g, 3, none⟩ = some (.int .u64 (d2.toNat : Int)) := by rw [hb3.cell]; rfl
            have x1 := HX1.out
            have x2 := HX2.out
            have x3 := HX3.out
            clear hb3
            go_upto_region 13 with fail
            refine wp_region_still_lit (by kernel_rfl) (by kernel_rfl) ?_
            change wpStill _ _ wr.drew _ _ _
            repeat still_step
            refine wpStill_nil ?_
            try change _ wr.drew
            go_wp2_with fail
            go_ret
            exact ⟨by rw [HALL.out]; rfl, by rw [← EB.out]; exact below_drewN HW3.out 1⟩
          · have j1 : (i : Int) < 4 := by omega
            have j2 : (0 : Int) ≤ (i : Int) := by omega
            have cr := dround g (rnds i V0) wr HB3.out
            have HSZ := Lib.hid (Blk.lt HB3.out)
            have HI4 := Lib.hid hi4; clear hi4
            go_wp2_with (go_at_call 71; refine Calls.mono cr ?_; rintro e v4 ⟨rfl, hB4, hG4⟩; clear cr; have HB4 := Lib.hid hB4; have HG4 := Lib.hid hG4; clear hB4 hG4)
            go_roundw
            case rel => exact ⟨i + 1, by have := HI4.out; omega, by go_num, below_g HW3.out HG4.out (by have := HSZ.out; have := HGB.out; omega) HGB.out, HB4.out⟩
            case measure => simp [intOf]; omega
    · have t1 : (8 : Int) ≤ (n : Int) - (u : Int) := by omega
      exact absurd H0.out (by omega)
theorem dsum_any (ks : Nat → UInt8) (A : Option Addr) (n c : Nat) (l : List UInt8) (w : World) (hn : n = l.length) (hl : n ≤ 100000) (hc : n ≤ c) (hm : c ≤ maxLen) (hr : Rd w w.heap.size A (bvs l)) :
    Calls Tryz.prog 52 #[.agg (key16 ks), .slice A n c] w fun e w' => e = .returned (wv (sumOf ks l)) ∧ Below w.heap.size w w' := by
  cases A with
  | some x => exact dsum_some ks x n c l w hn hl hc hm hr
  | none =>
    refine dsum_none ks n c l w hn hl hc hm ?_
    rcases hr with h | ⟨b, o, h1, _, _⟩
    · rw [hn, List.map_eq_nil_iff.1 h]; rfl
    · cases h1
end Go.Proofs.YtcjibpjdfhhhkaaGreat.Si
end

section
set_option linter.unusedVariables false
namespace Go.Proofs.YtcjibpjdfhhhkaaGreat.Si
open Go.RowKit Go.Proofs.YtcjibpjdfhhhkaaGreat.Mem

theorem u8_info : (Tryz.prog.info? 5).map (fun i => (i.zero, i.size, i.bytes)) = some (some (.int .u8 0), 1, 1) := by kernel_rfl
theorem rd_words (w : World) (t : TypeId) (cs : Array Value) (l : List Value) (h : cs.toList = l) (N : Nat) (hN : w.heap.size = N) : Rd (w.alloc (.cells cs t)) (N + 1) (some ⟨N, 0, none⟩) l := by
  subst hN
  refine .inr ⟨w.heap.size, 0, rfl, by omega, fun i u hu => ?_⟩
  rw [Nat.zero_add, (Blk.new w t cs).cell i]
  rw [← h] at hu
  simpa using hu

theorem own_push {w w' : World} {base : Nat} {t : TypeId} {v : Value} {n : Nat} {xs : List Value} {o : Obj} (h : w.ownsRow base t 1 v n xs) (e : w'.heap = w.heap.push o) : w'.ownsRow base t 1 v n xs := by
  obtain ⟨hl, h | ⟨g, cap, cur, hv, hg, hcur, hr⟩⟩ := h
  · exact ⟨hl, .inl h⟩
  · refine ⟨hl, .inr ⟨g, cap, cur, hv, hg, ?_, hr⟩⟩
    have hlt := Blk.lt (t := t) (cs := cur) hcur
    rw [e, Array.getElem?_push_lt hlt, ← Array.getElem?_eq_getElem hlt]
    exact hcur
theorem rows_alloc {w : World} (t : TypeId) (vs : List Value) (rows : List (List UInt8)) (cs : Array Value) (hc : cs.toList = vs) (hl : vs.length = rows.length)
    (h : ∀ i (h : i < rows.length), ∃ (Ai : Option Addr) (ci : Nat), vs[i]? = some (.slice Ai (rows[i]).length ci) ∧ Rd w w.heap.size Ai (bvs rows[i])) : Rows (w.alloc (.cells cs t)) (w.alloc (.cells cs t)).heap.size (some ⟨w.heap.size, 0, none⟩) rows := by
  refine ⟨vs, hl, (rd_words w t cs vs hc w.heap.size rfl).more (by simp), fun i hi => ?_⟩
  obtain ⟨Ai, ci, h1, h2⟩ := h i hi
  exact ⟨Ai, ci, h1, (h2.alloc (Nat.le_refl _) _).more (by simp)⟩
end Go.Proofs.YtcjibpjdfhhhkaaGreat.Si
end

section
set_option linter.unusedVariables false
namespace Go.Proofs.YtcjibpjdfhhhkaaGreat.Se
open Go.RowKit Go.Proofs.YtcjibpjdfhhhkaaGreat.Mem

structure Chg (S : Nat → Prop) (w w' : World) : Prop where
  os : w'.os = w.os
  tape : w'.tape = w.tape
  output : w'.output = w.output
  size : w.heap.size ≤ w'.heap.size
  block : ∀ k, k < w.heap.size → ¬ S k → w'.heap[k]? = w.heap[k]?
section
variable {S T S' : Nat → Prop} {a w w' c : World} {A : Option Addr} {xs : List Value} {g b : Nat} {t : TypeId} {cs : Array Value}
theorem Chg.refl (S : Nat → Prop) (w : World) : Chg S w w := ⟨rfl, rfl, rfl, Nat.le_refl _, fun _ _ _ => rfl⟩
theorem Chg.trans (h : Chg S a w) (k : Chg T w c) (hs : ∀ i, i < a.heap.size → T i → S i) : Chg S a c :=
  ⟨k.os.trans h.os, k.tape.trans h.tape, k.output.trans h.output, Nat.le_trans h.size k.size, fun i hi hn => (k.block i (Nat.lt_of_lt_of_le hi h.size) (fun ht => hn (hs i hi ht))).trans (h.block i hi hn)⟩
theorem Chg.mono (h : Chg S a w) (hs : ∀ i, i < a.heap.size → S i → T i) : Chg T a w := ⟨h.os, h.tape, h.output, h.size, fun i hi hn => h.block i hi (fun x => hn (hs i hi x))⟩
theorem Chg.of_below (h : Below w.heap.size w w') : Chg S w w' := ⟨h.os, h.tape, h.output, h.size, fun i hi _ => h.block i hi⟩
theorem Chg.of_grown (h : w.grownBy w' (some g)) (hs : S g) : Chg S w w' := ⟨h.os, h.tape, h.output, h.size, fun i hi hn => h.block i hi (fun e => by injection e with e; subst e; exact hn hs)⟩
theorem Chg.below (h : Chg S a w) {B : Nat} (hB : B ≤ a.heap.size) (hs : ∀ i, i < a.heap.size → S i → B ≤ i) : Below B a w :=
  ⟨h.os, h.tape, h.output, h.size, fun i hi => h.block i (by omega) (fun x => by have := hs i (by omega) x; omega)⟩
theorem Chg.blk (h : Chg S w w') (hb : Blk w g t cs) (hs : ¬ S g) : Blk w' g t cs := (h.block g hb.lt hs).trans hb
theorem Chg.own (h : Chg S w w') {base n : Nat} {v : Value} (ho : w.ownsRow base t 1 v n xs) (hs : ∀ k, v.ownBlock = some k → ¬ S k) : w'.ownsRow base t 1 v n xs := by
  refine ⟨ho.1, ?_⟩
  rcases ho.2 with hn | ⟨g, cap, cur, rfl, hb, hgg, rest⟩
  · exact .inl hn
  · exact .inr ⟨g, cap, cur, rfl, hb, (h.block g (Array.getElem?_eq_some_iff.1 hgg).1 (hs g rfl)).trans hgg, rest⟩
theorem Chg.set (h : Chg S a w) {p : Addr} (hp : S p.block ∨ a.heap.size ≤ p.block) (u : Value) : Chg S a (w.setCell p u) :=
  ⟨h.os, h.tape, h.output, by simpa [World.setCell] using h.size, fun i hi hn => (Below.heap_setCell w p u i (by
    rintro rfl
    rcases hp with hp | hp
    · exact hn hp
    · omega)).trans (h.block i hi hn)⟩
theorem Chg.alloc (h : Chg S a w) (o : Obj) : Chg S a (w.alloc o) :=
  ⟨h.os, h.tape, h.output, Nat.le_trans h.size (by simp), fun i hi hn => (Below.heap_alloc w o i (Nat.lt_of_lt_of_le hi h.size)).trans (h.block i hi hn)⟩
theorem Chg.drew (h : Chg S a w) : Chg S a w.drew := ⟨h.os, h.tape, h.output, h.size, h.block⟩

def RdA (S : Nat → Prop) (w : World) (A : Option Addr) (xs : List Value) : Prop :=
  xs = [] ∨ ∃ b o, A = some ⟨b, o, none⟩ ∧ b < w.heap.size ∧ ¬ S b ∧ ∀ i u, xs[i]? = some u → w.cell? ⟨b, o + i, none⟩ = some u
theorem RdA.rd (h : RdA S w A xs) : Rd w w.heap.size A xs := by
  rcases h with h | ⟨b, o, h1, h2, _, h3⟩
  · exact .inl h
  · exact .inr ⟨b, o, h1, h2, h3⟩
theorem RdA.keep (h : RdA S w A xs) (hc : Chg T w w') (ht : ∀ i, i < w.heap.size → T i → S i) (hs : ∀ i, i < w.heap.size → S' i → S i) : RdA S' w' A xs := by
  rcases h with h | ⟨b, o, h1, h2, h4, h3⟩
  · exact .inl h
  · exact .inr ⟨b, o, h1, Nat.lt_of_lt_of_le h2 hc.size, fun x => h4 (hs b h2 x), fun i u hu => (World.cell?_of_block (a := ⟨b, o + i, none⟩) (hc.block b h2 (fun x => h4 (ht b h2 x)))).trans (h3 i u hu)⟩
theorem RdA.mono (h : RdA S w A xs) (hs : ∀ i, i < w.heap.size → S' i → S i) : RdA S' w A xs := h.keep (Chg.refl (fun _ => False) w) (fun _ _ x => x.elim) hs
end

def xcells (ks : Nat → UInt8) (d s : Int) (p : Option Addr) (dg : Nat → UInt8) (a o r : Nat) : Array Value :=
  ((List.range 32).map (fun i => bv (ks i)) ++ (([.int .u32 d, .int .i32 s, .int .u32 0, .pointer p] : List Value) ++ ((List.range 16).map (fun j => bv (dg j)) ++ ([.int .i64 (a : Int), .int .i64 (o : Int), .int .i64 (r : Int)] : List Value)))).toArray
def XB (w : World) (b : Nat) (ks : Nat → UInt8) (d s : Int) (p : Option Addr) (dg : Nat → UInt8) (a o r : Nat) : Prop := Blk w b 98 (xcells ks d s p dg a o r)
section
variable {w w' : World} {b : Nat} {ks dg : Nat → UInt8} {d s : Int} {p : Option Addr} {a o r : Nat}
theorem xcells_key (i : Nat) (h : i < 32) : (xcells ks d s p dg a o r)[i]? = some (bv (ks i)) := by
  rw [xcells, List.getElem?_toArray, List.getElem?_append_left (by simpa using h)]
  simp [h]
theorem xcells_mid (i : Nat) (h : i < 4) : (xcells ks d s p dg a o r)[32 + i]? = ([.int .u32 d, .int .i32 s, .int .u32 0, .pointer p] : List Value)[i]? := by
  rw [xcells, List.getElem?_toArray, List.getElem?_append_right (by simp), List.getElem?_append_left (by simpa using h)]
  simp
theorem xcells_dg (i : Nat) (h : i < 16) : (xcells ks d s p dg a o r)[36 + i]? = some (bv (dg i)) := by
  rw [xcells, List.getElem?_toArray, List.getElem?_append_right (by simp; omega), List.getElem?_append_right (by simp; omega), List.getElem?_append_left (by simp; omega)]
  have e : 36 + i - (List.map (fun i => bv (ks i)) (List.range 32)).length - ([.int .u32 d, .int .i32 s, .int .u32 0, .pointer p] : List Value).length = i := by simp; omega
  rw [e]
  simp [h]
theorem xcells_ct (i : Nat) (h : i < 3) : (xcells ks d s p dg a o r)[52 + i]? = ([.int .i64 (a : Int), .int .i64 (o : Int), .int .i64 (r : Int)] : List Value)[i]? := by
  rw [xcells, List.getElem?_toArray, List.getElem?_append_right (by simp; omega), List.getElem?_append_right (by simp; omega), List.getElem?_append_right (by simp; omega)]
  have e : 52 + i - (List.map (fun i => bv (ks i)) (List.range 32)).length - ([.int .u32 d, .int .i32 s, .int .u32 0, .pointer p] : List Value).length - (List.map (fun j => bv (dg j)) (List.range 16)).length = i := by simp; omega
  rw [e]
theorem XB.cell (h : XB w b ks d s p dg a o r) (i : Nat) : w.cell? ⟨b, i, none⟩ = (xcells ks d s p dg a o r)[i]? := Blk.cell h i
theorem XB.ck (h : XB w b ks d s p dg a o r) (i : Nat) (hi : i < 32) : w.cell? ⟨b, i, none⟩ = some (bv (ks i)) := (h.cell i).trans (xcells_key i hi)
theorem XB.cd (h : XB w b ks d s p dg a o r) : w.cell? ⟨b, 32, none⟩ = some (.int .u32 d) := (h.cell 32).trans (xcells_mid 0 (by decide))
theorem XB.cs (h : XB w b ks d s p dg a o r) : w.cell? ⟨b, 33, none⟩ = some (.int .i32 s) := (h.cell 33).trans (xcells_mid 1 (by decide))
theorem XB.cp (h : XB w b ks d s p dg a o r) : w.cell? ⟨b, 35, none⟩ = some (.pointer p) := (h.cell 35).trans (xcells_mid 3 (by decide))
theorem XB.cg (h : XB w b ks d s p dg a o r) (i : Nat) (hi : i < 16) : w.cell? ⟨b, 36 + i, none⟩ = some (bv (dg i)) := (h.cell _).trans (xcells_dg i hi)
theorem XB.ca (h : XB w b ks d s p dg a o r) : w.cell? ⟨b, 52, none⟩ = some (.int .i64 (a : Int)) := (h.cell 52).trans (xcells_ct 0 (by decide))
theorem XB.cr (h : XB w b ks d s p dg a o r) : w.cell? ⟨b, 54, none⟩ = some (.int .i64 (r : Int)) := (h.cell 54).trans (xcells_ct 2 (by decide))
theorem XB.fz (h : XB w b ks d s p dg a o r) (i : Nat) : w.frozen? ⟨b, i, none⟩ = false := Blk.frozen h i
theorem XB.lt (h : XB w b ks d s p dg a o r) : b < w.heap.size := Blk.lt h
theorem xset_d (d' : Int) : (xcells ks d s p dg a o r).setIfInBounds 32 (.int .u32 d') = xcells ks d' s p dg a o r := by simp [xcells]
theorem xset_s (s' : Int) : (xcells ks d s p dg a o r).setIfInBounds 33 (.int .i32 s') = xcells ks d s' p dg a o r := by simp [xcells]
theorem xset_p (p' : Option Addr) : (xcells ks d s p dg a o r).setIfInBounds 35 (.pointer p') = xcells ks d s p' dg a o r := by simp [xcells]
theorem xset_a (a' : Nat) : (xcells ks d s p dg a o r).setIfInBounds 52 (.int .i64 (a' : Int)) = xcells ks d s p dg a' o r := by simp [xcells]
theorem XB.set_d (h : XB w b ks d s p dg a o r) (d' : Int) : XB (w.setCell ⟨b, 32, none⟩ (.int .u32 d')) b ks d' s p dg a o r := by
  have := Blk.set h 32 (.int .u32 d'); rwa [xset_d] at this
theorem XB.set_s (h : XB w b ks d s p dg a o r) (s' : Int) : XB (w.setCell ⟨b, 33, none⟩ (.int .i32 s')) b ks d s' p dg a o r := by
  have := Blk.set h 33 (.int .i32 s'); rwa [xset_s] at this
theorem XB.set_p (h : XB w b ks d s p dg a o r) (p' : Option Addr) : XB (w.setCell ⟨b, 35, none⟩ (.pointer p')) b ks d s p' dg a o r := by
  have := Blk.set h 35 (.pointer p'); rwa [xset_p] at this
theorem XB.set_a (h : XB w b ks d s p dg a o r) (a' : Nat) : XB (w.setCell ⟨b, 52, none⟩ (.int .i64 (a' : Int))) b ks d s p dg a' o r := by
  have := Blk.set h 52 (.int .i64 (a' : Int)); rwa [xset_a] at this
theorem XB.drew (h : XB w b ks d s p dg a o r) : XB w.drew b ks d s p dg a o r := h
theorem XB.chg {S : Nat → Prop} (h : XB w b ks d s p dg a o r) (hc : Chg S w w') (hs : ¬ S b) : XB w' b ks d s p dg a o r := hc.blk h hs
end
def setAll (cs : Array Value) : Nat → List Value → Array Value
  | _, [] => cs
  | o, v :: l => setAll (cs.setIfInBounds o v) (o + 1) l
theorem Blk.setCells {g : Nat} {t : TypeId} : ∀ (vs : List Value) (o : Nat) (w : World) (cs : Array Value), Blk w g t cs → Blk (w.setCells g o vs) g t (setAll cs o vs)
  | [], _, _, _, h => h
  | v :: l, o, w, cs, h => Blk.setCells l (o + 1) _ _ (h.set o v)
theorem xset_dg (ks : Nat → UInt8) (d s : Int) (p : Option Addr) (dg dg' : Nat → UInt8) (a o r : Nat) : setAll (xcells ks d s p dg a o r) 36 (Si.key16 dg').toList = xcells ks d s p dg' a o r := by kernel_rfl
theorem XB.set_dg {w : World} {b : Nat} {ks dg : Nat → UInt8} {d s : Int} {p : Option Addr} {a o r : Nat} (h : XB w b ks d s p dg a o r) (dg' : Nat → UInt8) : XB (w.setCells b 36 (Si.key16 dg').toList) b ks d s p dg' a o r := by
  have := Blk.setCells (Si.key16 dg').toList 36 _ _ h
  rwa [xset_dg] at this

abbrev zeroK : Nat → UInt8 := fun _ => 0
def Box (w : World) (b : Nat) (ks : Nat → UInt8) (h : Option Nat) (a o r : Nat) : Prop :=
  match h with
  | none => XB w b ks 0 0 none zeroK a o r
  | some g => XB w b ks 1 0 (some ⟨g, 0, none⟩) (k2 ks) a o r ∧ g ≠ b ∧ ∃ m, Sp.Key w g ks m
def Ow (b : Nat) (h : Option Nat) (i : Nat) : Prop := i = b ∨ h = some i
theorem Box.lt {w : World} {b : Nat} {ks : Nat → UInt8} {h : Option Nat} {a o r : Nat} (hx : Box w b ks h a o r) : b < w.heap.size := by
  cases h with
  | none => exact XB.lt hx
  | some g => exact XB.lt hx.1
theorem Box.lt_g {w : World} {b g : Nat} {ks : Nat → UInt8} {a o r : Nat} (hx : Box w b ks (some g) a o r) : g < w.heap.size := by
  obtain ⟨_, _, m, hk⟩ := hx
  exact hk.lt
theorem Box.own_lt {w : World} {b : Nat} {ks : Nat → UInt8} {h : Option Nat} {a o r : Nat} (hx : Box w b ks h a o r) (i : Nat) (hi : Ow b h i) : i < w.heap.size := by
  rcases hi with hi | hi
  · subst hi; exact hx.lt
  · subst hi; exact hx.lt_g
theorem key_chg {S : Nat → Prop} {w w' : World} {g : Nat} {ks : Nat → UInt8} {m : Bool} (h : Sp.Key w g ks m) (hc : Chg S w w') (hs : ¬ S g) : Sp.Key w' g ks m := by
  cases m with
  | false => exact hc.blk h hs
  | true => exact hc.blk h hs
theorem Box.chg {S : Nat → Prop} {w w' : World} {b : Nat} {ks : Nat → UInt8} {h : Option Nat} {a o r : Nat} (hx : Box w b ks h a o r) (hc : Chg S w w') (hs : ∀ i, Ow b h i → ¬ S i) : Box w' b ks h a o r := by
  cases h with
  | none => exact XB.chg hx hc (hs b (.inl rfl))
  | some g =>
    obtain ⟨h1, h2, m, h3⟩ := hx
    exact ⟨h1.chg hc (hs b (.inl rfl)), h2, m, key_chg h3 hc (hs g (.inr rfl))⟩
theorem Box.below {w w' : World} {b : Nat} {ks : Nat → UInt8} {h : Option Nat} {a o r : Nat} (hx : Box w b ks h a o r) (hc : Below w.heap.size w w') : Box w' b ks h a o r :=
  hx.chg (S := fun _ => False) (Chg.of_below hc) (fun _ _ x => x)
def Step (w w' : World) (b : Nat) (h : Option Nat) (g : Nat) : Prop := Chg (Ow b h) w w' ∧ (h = some g ∨ (h = none ∧ w.heap.size ≤ g))
theorem Step.own {w w' : World} {b g : Nat} {h : Option Nat} (hs : Step w w' b h g) : ∀ i, i < w.heap.size → Ow b (some g) i → Ow b h i := by
  intro i hi hx
  rcases hx with hx | hx
  · exact .inl hx
  · injection hx with hx
    subst hx
    rcases hs.2 with h1 | ⟨_, h1⟩
    · exact .inr h1
    · omega
theorem Step.trans {a w c : World} {b g g' : Nat} {h : Option Nat} (h1 : Step a w b h g) (h2 : Step w c b (some g) g') : g' = g ∧ Step a c b h g := by
  have e : g' = g := by
    rcases h2.2 with h3 | ⟨h3, _⟩
    · injection h3 with h3; exact h3.symm
    · cases h3
  exact ⟨e, h1.1.trans h2.1 h1.own, h1.2⟩
theorem Step.then {a w c : World} {b g : Nat} {h : Option Nat} {S : Nat → Prop} (h1 : Step a w b h g) (h2 : Chg S w c) (hs : ∀ i, i < a.heap.size → S i → Ow b h i) : Step a c b h g := ⟨h1.1.trans h2 hs, h1.2⟩
end Go.Proofs.YtcjibpjdfhhhkaaGreat.Se
end

section
set_option linter.unusedVariables false
namespace Go.Proofs.YtcjibpjdfhhhkaaGreat.Se
open Go.RowKit Go.Proofs.YtcjibpjdfhhhkaaGreat.Mem

def key32 (ks : Nat → UInt8) : Array Value := ((List.range 32).map (fun i => bv (ks i))).toArray
theorem load_cells {P : Program} {ops : Array Oper} {rest : List Oper} {op : Oper} {a : Act} {w : World} {Q : Exit → Act → World → Prop} (hgd : op.guard = none) (ty : TypeId) (x : Operand) (ho : op.op = .load ty x)
    (g o : Nat) (hx : a.eval x = .pointer (some ⟨g, o, none⟩)) (cs : Array Value) (d : TypeDesc) (hc : w.rangeAt g o cs.toList)
    (hu : P.underlying ty = some d) (hd : d.isRow = true) (hi : (P.info? ty).map (·.size) = some cs.size)
    (h : wpList P ops Q rest (a.put op.dst (.agg cs)) w) : wpList P ops Q (op :: rest) a w :=
  wpList_load_mid hgd ty x ho g o hx cs.toList d hc hu hd (by rw [Array.length_toList]; exact hi) (by simpa using h)
theorem key32_size (ks : Nat → UInt8) : (key32 ks).size = 32 := by simp [key32]
theorem info32 (ks : Nat → UInt8) : (Tryz.prog.info? 33).map (·.size) = some (key32 ks).size := by rw [key32_size]; kernel_rfl
theorem one32 (ks : Nat → UInt8) : (key32 ks).all (·.oneCell') = true := by simp [key32, bv, Value.oneCell']
set_option maxRecDepth 100000 in
set_option maxHeartbeats 1600000 in
theorem new_any (ks : Nat → UInt8) (w : World) : Calls Tryz.prog 23 #[.agg (key32 ks)] w fun e w' => ∃ b, e = .returned (.pointer (some ⟨b, 0, none⟩)) ∧ w.heap.size ≤ b ∧ Box w' b ks none 0 0 0 ∧ Below w.heap.size w w' := by
  have hi := info32 ks
  obtain ⟨cs, ecs⟩ : ∃ cs, cs = key32 ks := ⟨_, rfl⟩
  rw [← ecs] at hi ⊢
  have hz : cs.size = 32 := by rw [ecs]; exact key32_size ks
  have HI := Lib.hid hi; clear hi
  have EC := Lib.hid ecs; clear ecs
  go_enter Tryz.func23, Tryz.ntmps23
  go_wp2_with (first
    | (refine load_cells (by rfl) 33 (.tmp 1) (by rfl) w.heap.size 0 (by rfl) cs _ (Si.range_blk (Blk.new w 33 cs)) Tryz.underlying33 (by rfl) HI.out ?_)
    | fail)
  go_ret
  refine ⟨w.heap.size + 1, rfl, Nat.le_succ _, ?_, ((Below.refl w.heap.size w).alloc (Nat.le_refl _) _).alloc (by simp) _⟩
  exact Sp.Blk.new_of (w.alloc _) _ 98 _ (xcells ks 0 0 none zeroK 0 0 0) (by rw [EC.out]; kernel_rfl) (by simp)

theorem XB.range1 {w : World} {b : Nat} {ks dg : Nat → UInt8} {d s : Int} {p : Option Addr} {a o r : Nat} (h : XB w b ks d s p dg a o r) : w.rangeAt b 0 (Sp.key16 ks).toList := fun j v hv => by
  rw [Sp.key16, List.toList_toArray, List.getElem?_map] at hv
  rcases Nat.lt_or_ge j 16 with g | g
  · rw [Nat.zero_add, h.ck j (by omega)]; simpa [g] using hv
  · rw [List.getElem?_eq_none (by simpa using g)] at hv; cases hv
theorem XB.range2 {w : World} {b : Nat} {ks dg : Nat → UInt8} {d s : Int} {p : Option Addr} {a o r : Nat} (h : XB w b ks d s p dg a o r) : w.rangeAt b 16 (Sp.key16 (k2 ks)).toList := fun j v hv => by
  rw [Sp.key16, List.toList_toArray, List.getElem?_map] at hv
  rcases Nat.lt_or_ge j 16 with g | g
  · rw [h.ck (16 + j) (by omega)]; simpa [g, k2] using hv
  · rw [List.getElem?_eq_none (by simpa using g)] at hv; cases hv
theorem XB.rangeD {w : World} {b : Nat} {ks dg : Nat → UInt8} {d s : Int} {p : Option Addr} {a o r : Nat} (h : XB w b ks d s p dg a o r) : w.rangeAt b 36 (Sp.key16 dg).toList := fun j v hv => by
  rw [Sp.key16, List.toList_toArray, List.getElem?_map] at hv
  rcases Nat.lt_or_ge j 16 with g | g
  · rw [h.cg j (by omega)]; simpa [g] using hv
  · rw [List.getElem?_eq_none (by simpa using g)] at hv; cases hv
theorem XB.thereD {w : World} {b : Nat} {ks dg : Nat → UInt8} {d s : Int} {p : Option Addr} {a o r : Nat} (h : XB w b ks d s p dg a o r) : w.there b 36 16 := fun j hj => ⟨by rw [h.cg j hj]; rfl, h.fz _⟩
theorem key16_size (f : Nat → UInt8) : (Sp.key16 f).size = 16 := by simp [Sp.key16]
theorem info16 (f : Nat → UInt8) : (Tryz.prog.info? 93).map (·.size) = some (Sp.key16 f).size := by rw [key16_size]; kernel_rfl
theorem one16 (f : Nat → UInt8) : (Sp.key16 f).all (·.oneCell') = true := by simp [Sp.key16, bv, Value.oneCell']
theorem g_setCells {a w : World} {b : Nat} : ∀ (vs : List Value) (o : Nat) (w : World), a.grownBy w (some b) → a.grownBy (w.setCells b o vs) (some b)
  | [], _, _, h => h
  | v :: r, o, w, h => g_setCells (w := w) r (o + 1) _ (g_set h (.inl rfl) v)
theorem Key.far {w : World} {g : Nat} {ks : Nat → UInt8} {m : Bool} (h : Sp.Key w g ks m) (p : Addr) (u : Value) (hp : p.block ≠ g) : Sp.Key (w.setCell p u) g ks m := by
  cases m with
  | false => exact Si.Blk.far h p u hp
  | true => exact Si.Blk.far h p u hp
theorem Key.fars {g b : Nat} {ks : Nat → UInt8} {m : Bool} (hb : b ≠ g) : ∀ (vs : List Value) (o : Nat) (w : World), Sp.Key w g ks m → Sp.Key (w.setCells b o vs) g ks m
  | [], _, _, h => h
  | v :: r, o, w, h => Key.fars hb r (o + 1) _ (Key.far h _ v hb)
set_option maxRecDepth 100000 in
set_option maxHeartbeats 3200000 in
theorem make_halves (b : Nat) (ks : Nat → UInt8) (a o r : Nat) (d s : Int) (w : World) (hK : XB w b ks d s none zeroK a o r) :
    Calls Tryz.prog 59 #[.pointer (some ⟨b, 0, none⟩)] w fun e w' => e = .returned (.tuple #[]) ∧ ∃ g, XB w' b ks d s (some ⟨g, 0, none⟩) (k2 ks) a o r ∧ w.heap.size ≤ g ∧ Sp.Key w' g ks false ∧ w.grownBy w' (some b) := by
  have hs1 : ∀ w : World, (Instr.arrayAt 93 (.slice (some ⟨b, 0, none⟩) 16 32)).run Tryz.prog w = .ok (.pointer (some ⟨b, 0, none⟩)) w := fun _ => by kernel_rfl
  have hs2 : ∀ w : World, (Instr.arrayAt 93 (.slice (some ⟨b, 16, none⟩) 16 16)).run Tryz.prog w = .ok (.pointer (some ⟨b, 16, none⟩)) w := fun _ => by kernel_rfl
  have cn := fun w => Sp.new_any ks w
  have r1 := hK.range1
  have hk0 : ∀ w1 : World, Below w.heap.size w w1 → XB w1 b ks d s none zeroK a o r := fun w1 h => Blk.below hK h
  have hlt := hK.lt
  have R2 : Hid (∀ (w1 : World) p, XB w1 b ks d s p zeroK a o r → w1.rangeAt b 16 (Sp.key16 (k2 ks)).toList) := fun w1 p h => XB.range2 h
  have i1 := info16 ks
  have i2 := info16 (k2 ks)
  have o2 := one16 (k2 ks)
  have z2 := key16_size (k2 ks)
  obtain ⟨cs, ecs⟩ : ∃ cs, cs = Sp.key16 ks := ⟨_, rfl⟩
  obtain ⟨ds, eds⟩ : ∃ ds, ds = Sp.key16 (k2 ks) := ⟨_, rfl⟩
  rw [← ecs] at r1 i1 cn
  rw [← eds] at R2 i2 o2 z2
  have R1 := Lib.hid r1; clear r1
  have K0 := Lib.hid hk0; clear hk0
  have LT := Lib.hid hlt; clear hlt
  have I1 := Lib.hid i1; clear i1
  have I2 := Lib.hid i2; clear i2
  have O2 := Lib.hid o2; clear o2
  have Z2 := Lib.hid z2; clear z2
  have ED := Lib.hid eds; clear eds
  clear ecs hK
  go_enter Tryz.func59, Tryz.ntmps59
  go_upto_region 2 with (first
    | (refine load_cells (by rfl) 93 (.tmp 9) (by rfl) b 0 (by rfl) cs _ R1.out Tryz.underlying93 (by rfl) I1.out ?_)
    | (go_at_call 78; refine Calls.mono (cn _) ?_; rintro e w1 ⟨g, rfl, hg, hk1, hb1⟩; have X1 := K0.out w1 hb1; have c35 := X1.cp; have fz := X1.fz; have X2 := Lib.hid (X1.set_p (some ⟨g, 0, none⟩)); have HG := Lib.hid hg; have HK1 := Lib.hid hk1; have HB1 := Lib.hid hb1; clear hg hk1 hb1 X1)
    | fail)
  clear c35 fz
  have hR := R2.out _ _ X2.out
  have hT := XB.thereD X2.out
  rw [← Z2.out] at hT
  have HR := Lib.hid hR; clear hR
  have HT := Lib.hid hT; clear hT
  go_wp2_with (first
    | (refine load_cells (by rfl) 93 (.tmp 20) (by rfl) b 16 (by rfl) ds _ HR.out Tryz.underlying93 (by rfl) I2.out ?_)
    | (refine wpList_store_mid (by rfl) 93 (.tmp 23) (.tmp 21) (by rfl) b 36 ds (by rfl) (by rfl) HT.out I2.out O2.out ?_)
    | fail)
  go_end0
  have hgb : b ≠ g := by have := HG.out; have := LT.out; omega
  refine ⟨rfl, g, ?_, HG.out, Key.fars hgb _ _ _ (Key.far HK1.out _ _ hgb), g_setCells (w := w) _ _ _ (g_set (g_of_below HB1.out _) (.inl rfl) _)⟩
  rw [ED.out]
  exact X2.out.set_dg (k2 ks)
end Go.Proofs.YtcjibpjdfhhhkaaGreat.Se
end
