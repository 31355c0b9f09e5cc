/-
  The Sum of a row, the document's.
-/
import Derived.Test.YtioonkckppmnoaaSiSum
set_option linter.unusedVariables false
namespace Go.Proofs.Ytioonkckppmnoaa.Si
open Go.RowKit Go.Proofs.Ytioonkckppmnoaa.Mem

theorem and_255 (n : Int) : bits .and .i64 n 255 = n % 256 := by
  have h127 : (BitVec.ofInt 64 255).toNat = 2 ^ 8 - 1 := by decide
  have key : (BitVec.ofInt 64 n &&& BitVec.ofInt 64 255).toNat = (n % ((2 ^ 64 : Nat) : Int)).toNat % 2 ^ 8 := by
    rw [BitVec.toNat_and, BitVec.toNat_ofInt, h127, Nat.and_two_pow_sub_one_eq_mod]
  show IntKind.i64.wrap ((BitVec.ofInt 64 n &&& BitVec.ofInt 64 255).toNat : Nat) = n % 256
  rw [key, IntKind.wrap_i64]
  omega
theorem Rd.drop {w : World} {B : Nat} {x : Addr} {l : List UInt8} (h : Rd w B (some x) (bvs l)) (p : Nat) : Rd w B (some (x.add p)) (bvs (l.drop p)) := by
  rcases h with h | ⟨b, o, h1, h2, h3⟩
  · left
    have : l = [] := List.map_eq_nil_iff.1 h
    rw [this]; simp [bvs]
  · injection h1 with h1
    subst h1
    rw [addr_add]
    refine .inr ⟨b, o + p, rfl, h2, fun i u hu => ?_⟩
    have : (bvs l)[p + i]? = some u := by
      rw [← hu]; simp [bvs, List.getElem?_drop]
    have := h3 _ _ this
    rwa [Nat.add_assoc]
theorem Rd.take {w : World} {B : Nat} {A : Option Addr} {l : List UInt8} (h : Rd w B A (bvs l)) (k : Nat) : Rd w B A (bvs (l.take k)) := by
  rcases h with h | ⟨b, o, h1, h2, h3⟩
  · left
    have : l = [] := List.map_eq_nil_iff.1 h
    rw [this]; simp [bvs]
  · refine .inr ⟨b, o, h1, h2, fun i u hu => h3 i u ?_⟩
    rw [← hu]
    have hi : i < k := by
      rcases Nat.lt_or_ge i k with g | g
      · exact g
      · rw [List.getElem?_eq_none (by simp [bvs]; omega)] at hu; cases hu
    simp [bvs, hi]
theorem rd_key {w : World} {B : Nat} {t : TypeId} {ks : Nat → UInt8} (h : Blk w B t (key16 ks)) (o : Nat) (ho : o + 8 ≤ 16) : Rd w (B + 1) (some ⟨B, o, none⟩) (bvs ((List.range 8).map fun i => ks (o + i))) := by
  refine .inr ⟨B, o, rfl, by omega, fun i u hu => ?_⟩
  have hi : i < 8 := by
    rcases Nat.lt_or_ge i 8 with g | g
    · exact g
    · rw [List.getElem?_eq_none (by simp [bvs]; omega)] at hu; cases hu
  rw [h.cell, key16_at _ _ (by omega)]
  rw [← hu]
  simp [bvs, hi]
theorem key_lo {w : World} {B : Nat} {t : TypeId} {ks : Nat → UInt8} (h : Blk w B t (key16 ks)) : Calls Try.prog 53 #[.slice (some ⟨B, 0, none⟩) 8 16] w fun e w' => e = .returned (wv (kA ks)) ∧ w' = w := by
  have h1 := rd_key h 0 (by decide)
  have := dword (some ⟨B, 0, none⟩) 8 16 _ w (B + 1) (by simp) (by decide) h1
  have e : ((List.range 8).map fun i => ks (0 + i)) = (List.range 8).map ks := by simp
  rw [e] at this
  exact this
theorem key_hi {w : World} {B : Nat} {t : TypeId} {ks : Nat → UInt8} (h : Blk w B t (key16 ks)) : Calls Try.prog 53 #[.slice (some ⟨B, 8, none⟩) 8 8] w fun e w' => e = .returned (wv (kB ks)) ∧ w' = w :=
  dword (some ⟨B, 8, none⟩) 8 8 _ w (B + 1) (by simp) (by decide) (rd_key h 8 (by decide))
theorem last_or (ks : Nat → UInt8) (l : List UInt8) : bits .or .u64 (wordN (l.drop (8 * (l.length / 8))) : Nat) (IntKind.u64.wrap (((l.length % 256 : Nat) : Int) * 72057594037927936)) = ((lastW (stOf ks l)).toNat : Int) := by
  have hr : wordN (l.drop (8 * (l.length / 8))) < 72057594037927936 := wordN_7 (by rw [List.length_drop]; omega)
  have h := or_count (wordN (l.drop (8 * (l.length / 8)))) (l.length % 256) hr
  rw [IntKind.wrap_u64, h, Nat.mod_mod]
  rw [lastW_nat _ (by rw [stOf_all]; exact hr), stOf_all]
def stcV (ks : Nat → UInt8) : Array Value := cells4 (start ks)
set_option maxRecDepth 100000 in
set_option maxHeartbeats 3200000 in
theorem dsum_some (ks : Nat → UInt8) (x : Addr) (n c : Nat) (l : List UInt8) (w : World) (hn : n = l.length) (hl : n ≤ 100000) (hc : n ≤ c) (hm : c ≤ maxLen) (hr : Rd w w.heap.size (some x) (bvs l)) :
    Calls Try.prog 43 #[.agg (key16 ks), .slice (some x) n c] w fun e w' => e = .returned (wv (sumOf ks l)) ∧ Below w.heap.size w w' := by
  obtain ⟨B, eB⟩ : ∃ B, B = w.heap.size := ⟨_, rfl⟩
  rw [← eB] at hr
  have EB := Lib.hid eB
  have HR := Lib.hid hr; clear hr
  have HN := Lib.hid hn; clear hn
  have hkk : key16 ks = #[.int .u8 ((ks 0).toNat : Int), .int .u8 ((ks 1).toNat : Int), .int .u8 ((ks 2).toNat : Int), .int .u8 ((ks 3).toNat : Int), .int .u8 ((ks 4).toNat : Int), .int .u8 ((ks 5).toNat : Int), .int .u8 ((ks 6).toNat : Int), .int .u8 ((ks 7).toNat : Int), .int .u8 ((ks 8).toNat : Int), .int .u8 ((ks 9).toNat : Int), .int .u8 ((ks 10).toNat : Int), .int .u8 ((ks 11).toNat : Int), .int .u8 ((ks 12).toNat : Int), .int .u8 ((ks 13).toNat : Int), .int .u8 ((ks 14).toNat : Int), .int .u8 ((ks 15).toNat : Int)] := rfl
  have hsz : stcV ks = #[wv (start ks).a, wv (start ks).b, wv (start ks).c, wv (start ks).d] := rfl
  obtain ⟨p, ep⟩ : ∃ x, x = kA ks := ⟨_, rfl⟩
  obtain ⟨q, eq⟩ : ∃ x, x = kB ks := ⟨_, rfl⟩
  obtain ⟨v0, e0⟩ : ∃ x, x = 0x736f6d6570736575#64 ^^^ p := ⟨_, rfl⟩
  obtain ⟨v1, e1⟩ : ∃ x, x = 0x646f72616e646f6d#64 ^^^ q := ⟨_, rfl⟩
  obtain ⟨v2, e2⟩ : ∃ x, x = 0x6c7967656e657261#64 ^^^ p := ⟨_, rfl⟩
  obtain ⟨v3, e3⟩ : ∃ x, x = 0x7465646279746573#64 ^^^ q := ⟨_, rfl⟩
  have x0 : bits .xor .u64 8317987319222330741 (p.toNat : Int) = (v0.toNat : Int) := by rw [e0]; exact xor_w 0x736f6d6570736575#64 p
  have x1 : bits .xor .u64 7237128888997146477 (q.toNat : Int) = (v1.toNat : Int) := by rw [e1]; exact xor_w 0x646f72616e646f6d#64 q
  have x2 : bits .xor .u64 7816392313619706465 (p.toNat : Int) = (v2.toNat : Int) := by rw [e2]; exact xor_w 0x6c7967656e657261#64 p
  have x3 : bits .xor .u64 8387220255154660723 (q.toNat : Int) = (v3.toNat : Int) := by rw [e3]; exact xor_w 0x7465646279746573#64 q
  have hs : stcV ks = #[.int .u64 (v0.toNat : Int), .int .u64 (v1.toNat : Int), .int .u64 (v2.toNat : Int), .int .u64 (v3.toNat : Int)] := by
    rw [hsz, e0, e1, e2, e3, ep, eq]; rfl
  have HS := Lib.hid hs; clear hs
  obtain ⟨kz, ekz⟩ : ∃ z, z = key16 ks := ⟨_, rfl⟩
  rw [← ekz]
  have EKZ := Lib.hid ekz
  have hK : Blk (w.alloc (.cells kz 46)) B 46 (key16 ks) := Blk.new_of w B _ _ _ ekz eB.symm
  have hW : Below B w (w.alloc (.cells kz 46)) := by rw [eB]; exact (Below.refl _ w).alloc (Nat.le_refl _) _
  clear hsz e0 e1 e2 e3
  have cA := key_lo (hK.drewN 1)
  have cB := key_hi (hK.drewN 1)
  rw [← ep] at cA
  rw [← eq] at cB
  have HW := Lib.hid hW; clear hW
  clear hkk ekz ep eq hK
  go_enter Try.func43, Try.ntmps43
  go_upto_region 1 with fail
  rw [← eB]
  clear eB
  have HM := Lib.hid hm; clear hm
  generalize w.alloc (.cells kz 46) = w1 at cA cB HW ⊢
  refine wp_region_still_lit (by kernel_rfl) (by kernel_rfl) ?_
  change wpStill _ _ w1.drew _ _ _
  repeat still_step
  still_call cA
  repeat still_step
  still_call cB
  repeat still_step
  refine wpStill_nil ?_
  try change _ w1.drew
  clear cA cB
  go_upto_region 3 with fail
  obtain ⟨g, eg⟩ : ∃ g, g = w1.heap.size := ⟨_, rfl⟩
  have hB0 : Blk (w1.alloc (.cells #[.int .u64 (v0.toNat : Int), .int .u64 (v1.toNat : Int), .int .u64 (v2.toNat : Int), .int .u64 (v3.toNat : Int)] 108)).drew g 108 (cells4 (full ks l (0 / 8))) := Blk.drewN (Blk.new_of w1 g _ _ _ HS.out.symm eg.symm) 1
  have hW0 : Below B w (w1.alloc (.cells #[.int .u64 (v0.toNat : Int), .int .u64 (v1.toNat : Int), .int .u64 (v2.toNat : Int), .int .u64 (v3.toNat : Int)] 108)).drew := below_drewN (HW.out.alloc (by rw [EB.out]; exact HW.out.size) _) 1
  have hg : B ≤ g := by rw [eg, EB.out]; exact HW.out.size
  rw [← eg]
  generalize (w1.alloc (.cells #[.int .u64 (v0.toNat : Int), .int .u64 (v1.toNat : Int), .int .u64 (v2.toNat : Int), .int .u64 (v3.toNat : Int)] 108)).drew = w2 at hB0 hW0 ⊢
  have HB0 := Lib.hid hB0; clear hB0
  have HW0 := Lib.hid hW0; clear hW0
  have HGB := Lib.hid hg; clear hg
  clear HS HW eg x0 x1 x2 x3
  have l5 : (n : Int) ≤ 100000 := by omega
  have c0 : (n : Int) ≤ (c : Int) := by omega
  have hcm : c ≤ 9223372036854775807 := by have := HM.out; unfold maxLen at this; omega
  have hcm2 : (c : Int) ≤ 9223372036854775807 := by omega
  go_wp2_with fail
  go_loopw [8] (fun iv wr => ∃ u : Nat, u ≤ n ∧ u % 8 = 0 ∧ iv = .int .i64 (u : Int) ∧ Below B w wr ∧ Blk wr g 108 (cells4 (full ks l (u / 8)))) (fun iv _ => n - (intOf iv).toNat)
  case atStart => exact ⟨0, Nat.zero_le _, rfl, rfl, HW0.out, HB0.out⟩
  case round =>
    clear HB0 HW0
    obtain ⟨u, hu, hu8, rfl, hW, hB⟩ := hrel
    have HW := Lib.hid hW; clear hW
    have HB := Lib.hid hB; clear hB
    have HU8 := Lib.hid hu8; clear hu8
    have d0 : (0 : Int) ≤ (u : Int) := by omega
    have d1 : (u : Int) ≤ (n : Int) := by omega
    by_cases hx : n - u < 8
    · have hj : u / 8 = n / 8 := by have := HU8.out; omega
      have t1 : (n : Int) - (u : Int) < 8 := by omega
      have HX := Lib.hid hx; clear hx
      have HJ := Lib.hid hj; clear hj
      obtain ⟨k, ek⟩ : ∃ k, k = n % 256 := ⟨_, rfl⟩
      have hand : bits .and .i64 (n : Int) 255 = (k : Int) := by rw [and_255, ek]; omega
      have k1 : (k : Int) < 256 := by omega
      have k2 : (0 : Int) ≤ (k : Int) := by omega
      have hwk : IntKind.u64.wrap (k : Int) = (k : Int) := by rw [IntKind.wrap_u64]; omega
      have hu0 : u = 8 * (l.length / 8) := by have := HU8.out; have := HN.out; have := HX.out; omega
      have hll : (l.drop u).length = n - u := by rw [List.length_drop, HN.out]
      obtain ⟨mw, emw⟩ : ∃ m, m = wd (wordN (l.drop u)) := ⟨_, rfl⟩
      obtain ⟨lw, elw⟩ : ∃ m, m = lastW (stOf ks l) := ⟨_, rfl⟩
      have hmw : mw.toNat = wordN (l.drop u) := by rw [emw]; exact wd_nat _ (wordN_8 (by have := HX.out; omega))
      have hx1 : bits .or .u64 (mw.toNat : Int) (IntKind.u64.wrap ((k : Int) * 72057594037927936)) = (lw.toNat : Int) := by
        have h := last_or ks l
        rw [← hu0, ← hmw, ← HN.out, ← ek, ← elw] at h
        exact h
      have hx2 : bits .or .u64 (mw.toNat : Int) ((k : Int) * 72057594037927936) = (lw.toNat : Int) := by
        rw [← hx1, IntKind.wrap_u64]; congr 1; omega
      have cA := dword (some (x.add u)) (n - u) (c - u) (l.drop u) wr B hll.symm (by have := HX.out; omega) (Rd.drop (HR.out.below HW.out) u)
      have cB : u = c → Calls Try.prog 53 #[.slice (some x) 0 0] wr fun e w' => e = .returned (wv (wd (wordN (l.drop u)))) ∧ w' = wr := fun h => dword (some x) 0 0 (l.drop u) wr B (by omega) (by decide) (.inl (by rw [List.eq_nil_of_length_eq_zero (l := l.drop u) (by omega)]; rfl))
      rw [← emw] at cA
      rw [← emw] at cB
      obtain ⟨⟨a, b, cc, d⟩, e1⟩ : ∃ t, t = addM (full ks l (u / 8)) lw := ⟨_, rfl⟩
      obtain ⟨c1, ec⟩ : ∃ x, x = cc ^^^ 255#64 := ⟨_, rfl⟩
      obtain ⟨V0, eV⟩ : ∃ x : V, x = ⟨a, b, c1, d⟩ := ⟨_, rfl⟩
      obtain ⟨⟨a2, b2, c2, d2⟩, e2⟩ : ∃ t, t = rnds 4 V0 := ⟨_, rfl⟩
      obtain ⟨q1, eq1⟩ : ∃ x, x = a2 ^^^ b2 := ⟨_, rfl⟩
      obtain ⟨q2, eq2⟩ : ∃ x, x = q1 ^^^ c2 := ⟨_, rfl⟩
      obtain ⟨q3, eq3⟩ : ∃ x, x = q2 ^^^ d2 := ⟨_, rfl⟩
      have hall : sumOf ks l = q3 := by
        have hv : (stOf ks l).v = full ks l (u / 8) := by rw [stOf_all, HJ.out, HN.out]
        rw [sumOf, finS, ← elw, hv, ← e1, fin, ← ec, ← eV, ← e2, allX, ← eq1, ← eq2, ← eq3]
      have x0 : bits .xor .u64 (cc.toNat : Int) 255 = (c1.toNat : Int) := by rw [ec]; exact xor_w cc 255#64
      have x1 : bits .xor .u64 (a2.toNat : Int) (b2.toNat : Int) = (q1.toNat : Int) := by rw [eq1]; exact xor_w _ _
      have x2 : bits .xor .u64 (q1.toNat : Int) (c2.toNat : Int) = (q2.toNat : Int) := by rw [eq2]; exact xor_w _ _
      have x3 : bits .xor .u64 (q2.toNat : Int) (d2.toNat : Int) = (q3.toNat : Int) := by rw [eq3]; exact xor_w _ _
      have ct := dtake g (full ks l (u / 8)) lw wr HB.out
      rw [← e1] at ct
      have HALL := Lib.hid hall; clear hall
      have EV := Lib.hid eV; clear eV
      have E2 := Lib.hid e2; clear e2
      have HX0 := Lib.hid x0; clear x0
      have HX1 := Lib.hid x1; clear x1
      have HX2 := Lib.hid x2; clear x2
      have HX3 := Lib.hid x3; clear x3
      have HSZ := Lib.hid (Blk.lt HB.out)
      clear e1 ec eq1 eq2 eq3 hmw emw elw hll hu0 ek HJ HU8
      go_upto_region 7 with fail
      go_cut [] from 39 to 50 (fun wx => Below B w wx ∧ Blk wx g 108 (cells4 ⟨a, b, cc, d⟩))
      case first =>
        have hcu : u = c ∨ u < c := by omega
        rcases hcu with hcu | hcu
        · have cB0 := cB hcu; clear cB
          clear cA
          subst hcu
          go_wp2_with (first
            | (go_at_call 53; refine Calls.mono cB0 ?_; rintro e w' ⟨rfl, hw⟩; have hw := hw.symm; subst hw; clear cB0)
            | (go_at_call 54; refine Calls.mono ct ?_; rintro e v1 ⟨rfl, hB1, hG1⟩; clear ct; have HB1 := Lib.hid hB1; have HW1 := Lib.hid (below_g HW.out hG1 (by have := HSZ.out; have := HGB.out; omega) HGB.out); clear hB1 hG1))
          go_meet
          exact ⟨HW1.out, HB1.out⟩
        · clear cB
          have hcu2 : (u : Int) < (c : Int) := by omega
          go_wp2_with (first
            | (go_at_call 53; refine Calls.mono cA ?_; rintro e w' ⟨rfl, hw⟩; have hw := hw.symm; subst hw; clear cA)
            | (go_at_call 54; refine Calls.mono ct ?_; rintro e v1 ⟨rfl, hB1, hG1⟩; clear ct; have HB1 := Lib.hid hB1; have HW1 := Lib.hid (below_g HW.out hG1 (by have := HSZ.out; have := HGB.out; omega) HGB.out); clear hB1 hG1))
          go_meet
          exact ⟨HW1.out, HB1.out⟩
      case rest =>
        obtain ⟨hW1, hB1⟩ := hcut
        have HB1 := Lib.hid hB1; clear hB1
        have HW1 := Lib.hid hW1; clear hW1
        have k2 : wc.cell? ⟨g, 2, none⟩ = some (.int .u64 (cc.toNat : Int)) := by rw [HB1.out.cell]; rfl
        have fz := HB1.out.frozen
        have x0 := HX0.out
        clear HX0 hand hwk hx1 hx2 cA cB ct
        go_upto_region 8 with fail
        refine wp_region_still_tail 8 (by kernel_rfl) (by kernel_rfl) ?_
        simp only [List.take_succ_cons, List.take_zero, List.drop_succ_cons, List.drop_zero]
        change wpStill _ _ wc.drew _ _ _
        repeat still_step
        refine wpStill_nil ?_
        change wpList _ _ _ _ _ wc.drew
        go_upto_region 9 with fail
        have hB2 : Blk (wc.setCell ⟨g, 2, none⟩ (.int .u64 (c1.toNat : Int))).drew g 108 (cells4 V0) := by rw [EV.out]; exact Blk.set HB1.out 2 (wv c1)
        have hW2 : Below B w (wc.setCell ⟨g, 2, none⟩ (.int .u64 (c1.toNat : Int))).drew := below_drewN (below_set HW1.out HGB.out _) 1
        generalize (wc.setCell ⟨g, 2, none⟩ (.int .u64 (c1.toNat : Int))).drew = v2 at hB2 hW2 ⊢
        have HB2 := Lib.hid hB2; clear hB2
        have HW2 := Lib.hid hW2; clear hW2
        clear k2 fz x0 HB1 HW1 HSZ HB HW
        go_wp2_with fail
        go_loopw [9] (fun iv wr => ∃ i : Nat, i ≤ 4 ∧ iv = .int .i64 (i : Int) ∧ Below B w wr ∧ Blk wr g 108 (cells4 (rnds i V0))) (fun iv _ => 4 - (intOf iv).toNat)
        case atStart => exact ⟨0, by decide, rfl, HW2.out, HB2.out⟩
        case round =>
          obtain ⟨i, hi, rfl, hW3, hB3⟩ := hrel
          clear HB2 HW2
          have HB3 := Lib.hid hB3; clear hB3
          have HW3 := Lib.hid hW3; clear hW3
          by_cases hi4 : i = 4
          · subst hi4
            have hb3 := HB3.out
            rw [← E2.out] at hb3
            have k0 : wr.cell? ⟨g, 0, none⟩ = some (.int .u64 (a2.toNat : Int)) := by rw [hb3.cell]; rfl
            have k1 : wr.cell? ⟨g, 1, none⟩ = some (.int .u64 (b2.toNat : Int)) := by rw [hb3.cell]; rfl
            have k2 : wr.cell? ⟨g, 2, none⟩ = some (.int .u64 (c2.toNat : Int)) := by rw [hb3.cell]; rfl
            have k3 : wr.cell? ⟨g, 3, none⟩ = some (.int .u64 (d2.toNat : Int)) := by rw [hb3.cell]; rfl
            have x1 := HX1.out
            have x2 := HX2.out
            have x3 := HX3.out
            clear hb3
            go_upto_region 13 with fail
            refine wp_region_still_lit (by kernel_rfl) (by kernel_rfl) ?_
            change wpStill _ _ wr.drew _ _ _
            repeat still_step
            refine wpStill_nil ?_
            try change _ wr.drew
            go_wp2_with fail
            go_ret
            exact ⟨by rw [HALL.out]; rfl, by rw [← EB.out]; exact below_drewN HW3.out 1⟩
          · have j1 : (i : Int) < 4 := by omega
            have j2 : (0 : Int) ≤ (i : Int) := by omega
            have cr := dround g (rnds i V0) wr HB3.out
            have HSZ := Lib.hid (Blk.lt HB3.out)
            have HI4 := Lib.hid hi4; clear hi4
            go_wp2_with (go_at_call 55; refine Calls.mono cr ?_; rintro e v4 ⟨rfl, hB4, hG4⟩; clear cr; have HB4 := Lib.hid hB4; have HG4 := Lib.hid hG4; clear hB4 hG4)
            go_roundw
            case rel => exact ⟨i + 1, by have := HI4.out; omega, by go_num, below_g HW3.out HG4.out (by have := HSZ.out; have := HGB.out; omega) HGB.out, HB4.out⟩
            case measure => simp [intOf]; omega
    · have t1 : (8 : Int) ≤ (n : Int) - (u : Int) := by omega
      have t2 : (u : Int) + 8 ≤ (n : Int) := by omega
      have t3 : u + 8 ≤ n := by omega
      have HX := Lib.hid hx; clear hx
      have hj : (u + 8) / 8 = u / 8 + 1 := by omega
      have hu0 : u = 8 * (u / 8) := by have := HU8.out; omega
      have hl8 : ((l.drop u).take 8).length = 8 := by rw [List.length_take, List.length_drop, ← HN.out]; omega
      have cA := dword (some (x.add u)) 8 (c - u) ((l.drop u).take 8) wr B hl8.symm (by decide) (Rd.take (Rd.drop (HR.out.below HW.out) u) 8)
      obtain ⟨mw, emw⟩ : ∃ m, m = wd (wordN ((l.drop u).take 8)) := ⟨_, rfl⟩
      rw [← emw] at cA
      have hfull : addM (full ks l (u / 8)) mw = full ks l ((u + 8) / 8) := by rw [hj, full, ← hu0, ← emw]
      have ct := dtake g (full ks l (u / 8)) mw wr HB.out
      rw [hfull] at ct
      have HSZ := Lib.hid (Blk.lt HB.out)
      clear hj hu0 hl8 emw hfull
      go_wp2_with (first
        | (go_at_call 53; refine Calls.mono cA ?_; rintro e w' ⟨rfl, hw⟩; have hw := hw.symm; subst hw; clear cA)
        | (go_at_call 54; refine Calls.mono ct ?_; rintro e v1 ⟨rfl, hB1, hG1⟩; clear ct; have HB1 := Lib.hid hB1; have HW1 := Lib.hid (below_g HW.out hG1 (by have := HSZ.out; have := HGB.out; omega) HGB.out); clear hB1 hG1))
      go_roundw
      case rel => exact ⟨u + 8, by omega, by have := HU8.out; omega, by go_num, HW1.out, HB1.out⟩
      case measure => simp [intOf]; omega
end Go.Proofs.Ytioonkckppmnoaa.Si
