/-
  Each seal, each opening, each refusal is counted.
-/
import Derived.Test.YtioonkckppmnoaaSeLaw1
import Derived.Lib.SlBytesConst
set_option linter.unusedVariables false
namespace Go.Proofs.Ytioonkckppmnoaa.SeL
open Go.RowKit Go.Proofs.Ytioonkckppmnoaa.Mem Go.Proofs.Ytioonkckppmnoaa.Se

theorem and3 (n : Int) : bits .and .i64 n 3 = n % 4 := by
  have h127 : (BitVec.ofInt 64 3).toNat = 2 ^ 2 - 1 := by decide
  have key : (BitVec.ofInt 64 n &&& BitVec.ofInt 64 3).toNat = (n % ((2 ^ 64 : Nat) : Int)).toNat % 2 ^ 2 := by
    rw [BitVec.toNat_and, BitVec.toNat_ofInt, h127, Nat.and_two_pow_sub_one_eq_mod]
  show IntKind.i64.wrap ((BitVec.ofInt 64 n &&& BitVec.ofInt 64 3).toNat : Nat) = n % 4
  rw [key, IntKind.wrap_i64]
  omega
theorem and255 (n : Int) : bits .and .i64 n 255 = n % 256 := by
  have h127 : (BitVec.ofInt 64 255).toNat = 2 ^ 8 - 1 := by decide
  have key : (BitVec.ofInt 64 n &&& BitVec.ofInt 64 255).toNat = (n % ((2 ^ 64 : Nat) : Int)).toNat % 2 ^ 8 := by
    rw [BitVec.toNat_and, BitVec.toNat_ofInt, h127, Nat.and_two_pow_sub_one_eq_mod]
  show IntKind.i64.wrap ((BitVec.ofInt 64 n &&& BitVec.ofInt 64 255).toNat : Nat) = n % 256
  rw [key, IntKind.wrap_i64]
  omega
theorem rda_none {w : World} {S : Nat → Prop} : RdA S w none (bvs []) := .inl rfl
set_option maxRecDepth 100000 in
set_option maxHeartbeats 3200000 in
theorem counts_yes (A : Option Addr) (l : List UInt8) (c : Nat) (A2 : Option Addr) (zs : List Int) (c2 : Nat) (w : World) (hr : Rd w w.heap.size A (bvs l)) (hr2 : Rd w w.heap.size A2 (zs.map (Value.int .i64))) (hwz : ∀ z ∈ zs, (Lit.int .i64 z).wf = true) (hn : zs.length ≤ 60) :
    Calls Try.prog 6 #[.slice A l.length c, .slice A2 zs.length c2] w fun e w' => e = .returned (.bool true) ∧ Below w.heap.size w w' := by
  obtain ⟨ks, ek⟩ : ∃ ks, ks = ksOf l := ⟨_, rfl⟩
  obtain ⟨B, eB⟩ : ∃ B, B = w.heap.size := ⟨_, rfl⟩
  have c1 := key_any A l.length c l w rfl hr
  rw [← ek] at c1
  obtain ⟨kv, ekv⟩ : ∃ kv, kv = key32 ks := ⟨_, rfl⟩
  have cnew := fun w1 => new_any ks w1
  rw [← ekv] at c1 cnew
  obtain ⟨n, en⟩ : ∃ n, n = zs.length := ⟨_, rfl⟩
  rw [← en]
  obtain ⟨Z, eZ⟩ : ∃ Z, Z = sealL ks 1 1 [120] := ⟨_, rfl⟩
  have hZl : 17 = Z.length := by rw [eZ, sealL_length]; rfl
  have hZi : isL ks 1 Z = true := by rw [eZ]; exact isL_seal ks 1 1 [120] (by decide) (by decide)
  have hst : ∀ (w1 : World) (b : Nat), Box w1 b ks none 0 0 0 → Calls Try.prog 14 #[.pointer (some ⟨b, 0, none⟩), .int .i64 1, .int .i64 1, .slice (some ⟨w1.heap.size, 0, none⟩) 1 1] (w1.alloc (.cells #[.int .u8 120] 5 (1, 2))) fun e w' => ∃ g A c, e = .returned (.tuple #[.slice A 17 c, .int .i64 0]) ∧ 17 ≤ c ∧ c ≤ maxLen ∧ RdA (Ow b (some g)) w' A (bvs Z) ∧ Box w' b ks (some g) 1 0 0 ∧ Chg (Ow b none) w1 w' ∧ w1.heap.size ≤ g := by
    intro w1 b hb
    have hw : Below w1.heap.size w1 (w1.alloc (.cells #[.int .u8 120] 5 (1, 2))) := (Below.refl _ _).alloc (Nat.le_refl _) _
    have hr : RdA (Ow b none) (w1.alloc (.cells #[.int .u8 120] 5 (1, 2))) (some ⟨w1.heap.size, 0, none⟩) (bvs [120]) := by
      refine .inr ⟨w1.heap.size, 0, rfl, by simp, fun hx => ?_, fun i u hu => ?_⟩
      · have := Ow_none hx; have := hb.lt; omega
      · rw [Nat.zero_add, cell_of_row _ _ i _ _ (1, 2) (heap_alloc_new w1 _)]; rw [← hu, List.getElem?_toArray]; rfl
    refine (seal_ok b ks none 0 0 0 1 1 _ 1 1 [120] _ (by decide) (by decide) (by decide) rfl (by decide) hr (hb.below hw)).mono ?_
    rintro e w' ⟨g, A, c, rfl, h1, h2, h3, h4, h5⟩
    rw [← eZ] at h3
    refine ⟨g, A, c, rfl, h1, h2, h3.out (hb.below hw), h4, (Chg.of_below hw).trans h5.1 (fun _ _ x => x), ?_⟩
    have := Step.ge h5
    simp at this
    omega
  -- the four calls of a round
  have cS := fun (u i a o r : Nat) (w1 : World) (b : Nat) (h : Option Nat) (hu : u ≤ 255) (hi : i ≤ 60) (ha : a < 1000000) (h2 : Box w1 b ks h a o r) => seal_ok b ks h a o r u i none 0 0 [] w1 ha hu (by omega) rfl (by decide) rda_none h2
  have cO := fun (a o r : Nat) (w1 : World) (b : Nat) (h : Option Nat) (A : Option Addr) (c : Nat) (hc : 17 ≤ c) (hm : c ≤ maxLen) (ho : o < 1000000) (h1 : RdA (Ow b h) w1 A (bvs Z)) (h2 : Box w1 b ks h a o r) => open_ok b ks h a o r 1 A 17 c Z w1 ho (by decide) hZl hc hm h1 h2 hZi
  have cR := fun (a o r : Nat) (w1 : World) (b : Nat) (h : Option Nat) (hr : r < 1000000) (h2 : Box w1 b ks h a o r) => open_ref b ks h a o r 1 none 0 0 [] w1 hr (by decide) rfl (Nat.le_refl _) (Nat.zero_le _) rda_none h2 (isL_short (.inl (by decide)))
  have cB := fun (w1 : World) (b : Nat) => seal_bad b 256 1 none 0 0 w1 (by decide) (Nat.zero_le _) (by omega)
  have cX := fun (w1 : World) (b : Nat) (p : Value) => open_bad b (-1) p w1 (by omega)
  have cC := fun (a o r : Nat) (w1 : World) (b : Nat) (h : Option Nat) (ha : a < 1000000) (ho : o < 1000000) (hr : r < 1000000) (h2 : Box w1 b ks h a o r) => counts_any b ks h a o r w1 ha ho hr h2
  have t1 : decide (60 < (n : Int)) = false := by simp; omega
  have n60 : (n : Int) ≤ 60 := by omega
  have kc := fun (w : World) (C : Array Value) (n c : Nat) => Lib.run_convert_bytes_const (P := Try.prog) w 22 5 C n c Try.underlying22 Try.underlying5
  have EB := Lib.hid eB
  have HR2 := Lib.hid (eB ▸ hr2); clear hr2
  have EN := Lib.hid en
  have N60 : Hid (n ≤ 60) := by rw [en]; exact hn
  have HST := Lib.hid hst; clear hst
  have CN := Lib.hid cnew; clear cnew
  have CS := Lib.hid cS; clear cS
  have CO := Lib.hid cO; clear cO
  have CR := Lib.hid cR; clear cR
  have CB := Lib.hid cB; clear cB
  have CX := Lib.hid cX; clear cX
  have CC := Lib.hid cC; clear cC
  clear hr hwz hn en ek ekv eZ hZl hZi eB
  go_enter Try.func6, Try.ntmps6
  go_wp2_with (first
    | (go_at_call 13; refine Calls.mono c1 ?_; rintro e w1 ⟨rfl, hb1⟩; clear c1; have c2 := CN.out w1; have H1 := Lib.hid ((EB.out ▸ hb1 : Below B w w1)); clear hb1)
    | (go_at_call 12; refine Calls.mono c2 ?_; rintro e w2 ⟨x, rfl, hx, hxx, hb2⟩; clear c2; have hb2 := H1.out.trans (hb2.mono (EB.out ▸ H1.out.size)); have hxB : B ≤ x := by { have := H1.out.size; have := EB.out; omega }; have c3 := HST.out w2 x hxx; have HX := Lib.hid hxB; have HXL := Lib.hid hxx.lt; have H2 := Lib.hid hb2; clear hx hxx hb2 hxB)
    | (go_at_call 14; refine Calls.mono c3 ?_; rintro e w3 ⟨g, As, sc, rfl, k1, k2, k3, k4, k5, k6⟩; clear c3; have hb3 : Below B w w3 := below_chg H2.out (by have := H2.out.size; have := EB.out; omega) k5 (fun i _ hi => by have := Ow_none hi; have := HX.out; omega); have H3 := Lib.hid hb3; have GX := Lib.hid k6; have RA := Lib.hid k3; have BX := Lib.hid k4; have K1 := Lib.hid k1; have K2 := Lib.hid k2; clear k1 k2 k3 k4 k5 k6 hb3 kc))
  have hown : ∀ i, Ow x (some g) i → B ≤ i := fun i hi => by
    have := HX.out; have := GX.out; have := H2.out.size; have := EB.out
    rcases Ow_some hi with h | h <;> omega
  have OWN := Lib.hid hown; clear hown
  go_loopw [8, 9, 10, 11] (fun sv ov rv iv wr => ∃ i s o r : Nat, i ≤ n ∧ s ≤ 1 + i ∧ o ≤ i ∧ r ≤ i ∧ iv = .int .i64 (i : Int) ∧ sv = .int .i64 (s : Int) ∧ ov = .int .i64 (o : Int) ∧ rv = .int .i64 (r : Int) ∧ Box wr x ks (some g) s o r ∧ Chg (Ow x (some g)) w3 wr) (fun _ _ _ iv _ => n - (intOf iv).toNat)
  case atStart => exact ⟨0, 1, 0, 0, Nat.zero_le _, Nat.le_refl _, Nat.le_refl _, Nat.le_refl _, rfl, rfl, rfl, rfl, BX.out, Chg.refl _ _⟩
  case round =>
    obtain ⟨i, s, o, r, hi, hs1, ho1, hr1, rfl, rfl, rfl, rfl, hxr, hcr⟩ := hrel
    have n6 := N60.out
    have BR := Lib.hid hxr; clear hxr
    have CRR := Lib.hid hcr; clear hcr
    by_cases hx : i = n
    · subst hx
      have c4 := CC.out s o r wr x (some g) (by omega) (by omega) (by omega) BR.out
      have c5 := known_any wr
      clear hs1 ho1 hr1 hi n6
      go_wp2_with (first
        | (go_at_call 19; refine Calls.mono c4 ?_; rintro e w6 ⟨rfl, hw⟩; have hw := hw.symm; subst hw; clear c4)
        | (go_at_call 18; refine Calls.mono c5 ?_; rintro e w8 ⟨rfl, hb8⟩; clear c5; have H8 := Lib.hid hb8; clear hb8))
      go_ret
      refine ⟨rfl, ?_⟩
      rw [← EB.out]
      have hb6 := below_chg H3.out (by have := H3.out.size; have := EB.out; omega) CRR.out (fun i _ hi => OWN.out i hi)
      exact hb6.trans (H8.out.mono (by have := hb6.size; have := EB.out; omega))
    · have hlt : i < n := by omega
      have e1 : (i : Int) < (n : Int) := by omega
      have e2 : (0 : Int) ≤ (i : Int) := by omega
      have e3 : (i : Int) < 60 := by omega
      have hzl : i < zs.length := by have := EN.out; omega
      obtain ⟨z, ez⟩ : ∃ z, z = zs[i] := ⟨_, rfl⟩
      have hbr := below_chg H3.out (by have := H3.out.size; have := EB.out; omega) CRR.out (fun i _ hi => OWN.out i hi)
      obtain ⟨b2, o2, rfl, hb2, hcell⟩ := HR2.out.at_ (i := i) (u := .int .i64 z) (by rw [List.getElem?_map, List.getElem?_eq_getElem hzl, ez]; rfl)
      have hc : wr.cell? ⟨b2, o2 + i, none⟩ = some (.int .i64 z) := (hbr.cell (p := ⟨b2, o2 + i, none⟩) hb2).trans hcell
      have ha3 := and3 z
      have ha255 := and255 (z / 4)
      obtain ⟨m4, em4⟩ : ∃ m4, m4 = z % 4 := ⟨_, rfl⟩
      obtain ⟨u, eu⟩ : ∃ u : Nat, (u : Int) = z / 4 % 256 := ⟨(z / 4 % 256).toNat, by omega⟩
      rw [← em4] at ha3
      rw [← eu] at ha255
      have hu : u ≤ 255 := by omega
      have hm4 : m4 = 0 ∨ m4 = 1 ∨ m4 = 2 ∨ m4 = 3 := by omega
      have raw := (RA.out.go CRR.out)
      have HX1 := Lib.hid hx; clear hx
      have HI := Lib.hid hi; clear hi
      have hs6 : (s : Int) ≤ 61 := by omega
      have ho6 : (o : Int) ≤ 60 := by omega
      have hr6 : (r : Int) ≤ 60 := by omega
      have d0 := CS.out u i s o r wr x (some g) hu (by omega) (by omega) BR.out
      have d1 := CO.out s o r wr x (some g) As sc K1.out K2.out (by omega) raw BR.out
      have d2 := CR.out s o r wr x (some g) (by omega) BR.out
      have d3 := CB.out wr x
      have d4 := CX.out wr x
      have HS1 := Lib.hid hs1; clear hs1
      have HO1 := Lib.hid ho1; clear ho1
      have HR1 := Lib.hid hr1; clear hr1
      clear hcell ez em4 eu raw hbr hzl hu n6
      rcases hm4 with rfl | rfl | rfl | rfl
      · clear d1 d2 d3 d4
        go_wp2_with (first
          | (go_at_call 14; refine Calls.mono d0 ?_; rintro e w6 ⟨g2, A6, c6, rfl, h1, h2, h3, h4, h5⟩; clear d0; have hgg := Step.same h5; subst hgg; have HX6 := Lib.hid h4; have HC6 := Lib.hid (CRR.out.then h5.1); clear h1 h2 h3 h4 h5))
        go_roundw
        case rel => exact ⟨i + 1, s + 1, o, r, by omega, by have := HS1.out; omega, by have := HO1.out; omega, by have := HR1.out; omega, by go_num, by go_num, rfl, rfl, HX6.out, HC6.out⟩
        case measure => simp [intOf]; omega
      · clear d0 d2 d3 d4
        go_wp2_with (first
          | (go_at_call 16; refine Calls.mono d1 ?_; rintro e w6 ⟨g2, A6, c6, rfl, h1, h2, h3, h4, h5⟩; clear d1; have hgg := Step.same h5; subst hgg; have HX6 := Lib.hid h4; have HC6 := Lib.hid (CRR.out.then h5.1); clear h1 h2 h3 h4 h5))
        go_roundw
        case rel => exact ⟨i + 1, s, o + 1, r, by omega, by have := HS1.out; omega, by have := HO1.out; omega, by have := HR1.out; omega, by go_num, rfl, by go_num, rfl, HX6.out, HC6.out⟩
        case measure => simp [intOf]; omega
      · clear d0 d1 d3 d4
        go_wp2_with (first
          | (go_at_call 16; refine Calls.mono d2 ?_; rintro e w6 ⟨rfl, h', h4, h5⟩; clear d2; have hgg : h' = some g := by { rcases h5.2 with hh | ⟨hh, _⟩; exact hh; cases hh }; subst hgg; have HX6 := Lib.hid h4; have HC6 := Lib.hid (CRR.out.then h5.1); clear h4 h5))
        go_roundw
        case rel => exact ⟨i + 1, s, o, r + 1, by omega, by have := HS1.out; omega, by have := HO1.out; omega, by have := HR1.out; omega, by go_num, rfl, rfl, by go_num, HX6.out, HC6.out⟩
        case measure => simp [intOf]; omega
      · clear d0 d1 d2
        go_wp2_with (first
          | (go_at_call 14; refine Calls.mono d3 ?_; rintro e w6 ⟨rfl, hw⟩; have hw := hw.symm; subst hw; clear d3)
          | (go_at_call 16; refine Calls.mono (d4 _) ?_; rintro e w6 ⟨rfl, hw⟩; have hw := hw.symm; subst hw; clear d4))
        go_roundw
        case rel => exact ⟨i + 1, s, o, r, by omega, by have := HS1.out; omega, by have := HO1.out; omega, by have := HR1.out; omega, by go_num, rfl, rfl, rfl, BR.out, CRR.out⟩
        case measure => simp [intOf]; omega
theorem counts (A : Option Addr) (l : List UInt8) (c : Nat) (A2 : Option Addr) (zs : List Int) (c2 : Nat) (w : World) (hr : Rd w w.heap.size A (bvs l)) (hc : l.length ≤ c) (hm : c ≤ maxLen) (hr2 : Rd w w.heap.size A2 (zs.map (Value.int .i64))) (hwz : ∀ z ∈ zs, (Lit.int .i64 z).wf = true) (hc2 : zs.length ≤ c2) (hm2 : c2 ≤ maxLen) :
    Calls Try.prog 6 #[.slice A l.length c, .slice A2 zs.length c2] w fun e w' => e = .returned (.bool true) ∧ Below w.heap.size w w' := by
  by_cases hx : zs.length ≤ 60
  · exact counts_yes A l c A2 zs c2 w hr hr2 hwz hx
  · have HB := Lib.hid (Below.refl w.heap.size w)
    obtain ⟨n, en⟩ : ∃ n, n = zs.length := ⟨_, rfl⟩
    rw [← en] at hx ⊢
    have t1 : decide (60 < (n : Int)) = true := by simp; omega
    clear hx en hr hr2 hc hm hc2 hm2
    go_enter Try.func6, Try.ntmps6
    go_wp2
    go_ret
    exact ⟨rfl, HB.out⟩
end Go.Proofs.Ytioonkckppmnoaa.SeL
