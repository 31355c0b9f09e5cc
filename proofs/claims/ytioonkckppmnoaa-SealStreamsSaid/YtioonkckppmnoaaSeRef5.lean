/-
  The document's own: Seal.
-/
import Derived.Test.YtioonkckppmnoaaSeRef4
import Derived.Test.YtioonkckppmnoaaSeSeal
set_option linter.unusedVariables false
namespace Go.Proofs.Ytioonkckppmnoaa.Se
open Go.RowKit Go.Proofs.Ytioonkckppmnoaa.Mem

set_option maxRecDepth 100000 in
set_option maxHeartbeats 1600000 in
theorem dseal_bad (ks : Nat → UInt8) (u n : Int) (A : Option Addr) (m c : Nat) (w : World) (hx : ¬ (0 ≤ u ∧ u ≤ 255 ∧ 0 ≤ n ∧ n ≤ 1099511627776 ∧ m ≤ 784)) :
    Calls Try.prog 15 #[.agg (key32 ks), .int .i64 u, .int .i64 n, .slice A m c] w fun e w' => e = .returned (.tuple #[.slice none 0 0, .int .i64 1]) ∧ Below w.heap.size w w' := by
  obtain ⟨kc, ekc⟩ : ∃ kc, kc = key32 ks := ⟨_, rfl⟩
  rw [← ekc]
  have t : (decide (u < 0) = true) ∨ (decide (u < 0) = false ∧ decide (255 < u) = true) ∨ (decide (u < 0) = false ∧ decide (255 < u) = false ∧ decide (n < 0) = true) ∨ (decide (u < 0) = false ∧ decide (255 < u) = false ∧ decide (n < 0) = false ∧ decide (1099511627776 < n) = true) ∨ (decide (u < 0) = false ∧ decide (255 < u) = false ∧ decide (n < 0) = false ∧ decide (1099511627776 < n) = false ∧ decide (784 < (m : Int)) = true) := by
    simp only [decide_eq_true_eq, decide_eq_false_iff_not]
    omega
  have HB := Lib.hid ((Below.refl w.heap.size w).alloc (Nat.le_refl _) (.cells kc 26))
  clear hx ekc
  rcases t with t1 | ⟨t1, t2⟩ | ⟨t1, t2, t3⟩ | ⟨t1, t2, t3, t4⟩ | ⟨t1, t2, t3, t4, t5⟩ <;> (
    go_enter Try.func15, Try.ntmps15
    go_wp2
    go_ret2
    exact ⟨rfl, HB.out⟩)

set_option maxRecDepth 100000 in
set_option maxHeartbeats 3200000 in
theorem dseal_ok (ks : Nat → UInt8) (u n : Nat) (A : Option Addr) (m c : Nat) (p : List UInt8) (w : World) (hu : u ≤ 255) (hn : n ≤ 1099511627776) (hm : m = p.length) (hm2 : m ≤ 784) (hr : Rd w w.heap.size A (bvs p)) :
    Calls Try.prog 15 #[.agg (key32 ks), .int .i64 (u : Int), .int .i64 (n : Int), .slice A m c] w fun e w' => ∃ A2 c2, e = .returned (.tuple #[.slice A2 (m + 16) c2, .int .i64 0]) ∧ RdA (fun i => i < w.heap.size) w' A2 (bvs (sealL ks u n p)) ∧ Below w.heap.size w w' := by
  obtain ⟨ib, hi0, hz0, hs0, hb0⟩ := info_parts Si.u8_info
  obtain ⟨B, eB⟩ : ∃ B, B = w.heap.size := ⟨_, rfl⟩
  have cmix := fun (w1 : World) (h1 : Rd w1 w1.heap.size A (bvs p)) => dmix ks u n A m c p w1 hu (by omega) hm (by omega) h1
  have cbig := fun (w1 : World) => dbig n w1 (by omega)
  obtain ⟨L, eL⟩ : ∃ L, L = aheadL ks u n p := ⟨_, rfl⟩
  have hEL : bvs (w8 n) ++ bvs (mixL ks u n p) = bvs L := by rw [eL, aheadL, bvs_append]
  have hLL : 8 + m = L.length := by rw [eL, aheadL_length, ← hm]
  have ctag := fun (w1 : World) (A1 : Option Addr) (c1 : Nat) (h1 : Rd w1 w1.heap.size A1 (bvs L)) => dtag ks u A1 (8 + m) c1 L w1 hu hLL (by omega) h1
  have hFin : bvs L ++ bvs (w8 (tagL ks u L)) = bvs (sealL ks u n p) := by rw [eL, ← bvs_append]; rfl
  have hML : (bvs (mixL ks u n p)).length = m := by rw [bvs_length, mixL_length, hm]
  obtain ⟨M, eM⟩ : ∃ M, M = bvs (mixL ks u n p) := ⟨_, rfl⟩
  obtain ⟨W8, eW8⟩ : ∃ W8, W8 = bvs (w8 n) := ⟨_, rfl⟩
  obtain ⟨T8, eT8⟩ : ∃ T8, T8 = bvs (w8 (tagL ks u L)) := ⟨_, rfl⟩
  have oM : ∀ v ∈ M, v.oneCell' = true := eM ▸ bvs_one _
  have oT : ∀ v ∈ T8, v.oneCell' = true := eT8 ▸ bvs_one _
  have hT8 : T8.length = 8 := by rw [eT8, bvs_length, w8_length]
  rw [← eM] at cmix hEL hML
  rw [← eW8] at cbig hEL
  rw [← eT8] at ctag hFin
  have hkl : ∃ kl : List Value, kl.toArray = key32 ks := ⟨_, rfl⟩
  obtain ⟨kl, ekl⟩ := hkl
  have u32 : (Try.prog.info? 26).map (·.size) = some kl.length := by rw [← List.size_toArray, ekl]; exact info32 ks
  have hu32 := Try.underlying26
  rw [← ekl] at cmix ctag ⊢
  have q1 : (n : Int) ≤ 1099511627776 := by omega
  have q2 : (0 : Int) ≤ (n : Int) := by omega
  have q3 : (m : Int) ≤ 784 := by omega
  have q4 : IntKind.u64.wrap (n : Int) = (n : Int) := by rw [IntKind.wrap_u64]; omega
  have q5 : (n : Int) % 18446744073709551616 = (n : Int) := by omega
  have t1 : decide ((u : Int) < 0) = false := by simp
  have t2 : decide (255 < (u : Int)) = false := by simp; omega
  have t3 : decide ((n : Int) < 0) = false := by simp
  have t4 : decide (1099511627776 < (n : Int)) = false := by simp; omega
  have t5 : decide (784 < (m : Int)) = false := by simp; omega
  have EB := Lib.hid eB
  have HR := Lib.hid (eB ▸ hr); clear hr
  have HM2 := Lib.hid hm2; clear hm2
  have CMIX := Lib.hid cmix; clear cmix
  have CBIG := Lib.hid cbig; clear cbig
  have CTAG := Lib.hid ctag; clear ctag
  have HEL := Lib.hid hEL; clear hEL
  have HFIN := Lib.hid hFin; clear hFin
  have HML := Lib.hid hML; clear hML
  have HT8 := Lib.hid hT8; clear hT8
  have OM := Lib.hid oM; clear oM
  have OT := Lib.hid oT; clear oT
  have hra : (w.alloc (.cells kl.toArray 26)).drew.rangeAt w.heap.size 0 kl := by have := Si.range_blk (Blk.new w 26 kl.toArray); simpa using this
  have HB0 : Hid (Below B w (w.alloc (.cells kl.toArray 26)).drew) := eB ▸ below_drewN ((Below.refl w.heap.size w).alloc (Nat.le_refl _) _) 1
  have HS0 : Hid ((w.alloc (.cells kl.toArray 26)).drew.heap.size = B + 1) := by show (w.alloc _).heap.size = _; simp [eB]
  have cb := CBIG.out (w.alloc (.cells kl.toArray 26)).drew
  clear hu hn hm hLL eM eW8 eT8 ekl eB eL
  go_enter Try.func15, Try.ntmps15
  go_upto_region 3 with fail
  go_region_held3 (fun w' => w'.rangeAt w.heap.size 0 kl) (first | exact hra | exact hS1 | exact hS2 | exact hS3) (first
    | (rw [if_pos (by rfl)]; refine wp_append_rd _ (.tmp 32) (.tmp 38) 22 (by rfl) (B + 1) 5 ib _ 1 Try.underlying22 hi0 hz0 hs0 hb0 (by rfl) v1 8 W8 (by rfl) O2.out w2.heap.size A2 m c2 M (by rfl) HML.out.symm R2.out OM.out (by have := HM2.out; unfold maxLen; omega) (by have := HM2.out; omega) (by have := Z2.out; omega) ?_; intro v3 w3 hown3 hgrow3 hat3; rw [HEL.out] at hown3; have hS3 : w3.rangeAt w.heap.size 0 kl := range_grown hS2 (by have := Z2.out; have := EB.out; omega) hgrow3 (fun hx => by have := own_new O2.out _ hx; have := EB.out; omega); have hb3 : Below B w w3 := H2.out.grown hgrow3 (by have := Z2.out; omega) (fun k hk => by have := own_new O2.out _ hk; omega); obtain ⟨A3, c3, hv3, hc3, hm3, hr3⟩ := own_rda (S := fun _ => False) hown3 (fun _ _ x => x); subst hv3; have ct := CTAG.out w3 A3 c3 hr3.rd; have H3 := Lib.hid hb3; have O3 := Lib.hid hown3; have Z3 := Lib.hid (Nat.le_trans Z2.out hgrow3.size); clear hown3 hgrow3 hat3 hb3 hc3 hm3 hr3)
    | (go_at_call 28; refine Calls.mono cb ?_; rintro e w1 ⟨v1, rfl, hown1, hb1⟩; clear cb; have hS1 : w1.rangeAt w.heap.size 0 kl := range_below hra (by have := HS0.out; have := EB.out; omega) hb1; have hz1 : B + 1 ≤ w1.heap.size := by { have := HS0.out; have := hb1.size; omega }; have hb1 := HB0.out.trans (hb1.mono (by have := HS0.out; omega)); have cm := CMIX.out w1 ((HR.out.below hb1).more (by omega)); have H1 := Lib.hid hb1; have O1 := Lib.hid (hown1.mono (base' := B + 1) (by have := HS0.out; omega)); have Z1 := Lib.hid hz1; clear hb1 hown1 hz1)
    | (go_at_call 29; refine Calls.mono cm ?_; rintro e w2 ⟨v2, rfl, hown2, hb2⟩; clear cm; have hS2 : w2.rangeAt w.heap.size 0 kl := range_below hS1 (by have := Z1.out; have := EB.out; omega) hb2; have hz2 : B + 1 ≤ w2.heap.size := Nat.le_trans Z1.out hb2.size; have ho2 := own_kept O1.out hb2; obtain ⟨A2, c2, hv2, hc2, hm2, hr2⟩ := own_rda (S := fun _ => False) hown2 (fun _ _ x => x); subst hv2; have hb2 := H1.out.trans (hb2.mono (by have := Z1.out; omega)); have H2 := Lib.hid hb2; have O2 := Lib.hid ho2; have Z2 := Lib.hid hz2; have R2 := Lib.hid hr2.rd; clear hb2 hown2 hz2 ho2 hc2 hm2 hr2))
  all_goals (
    have HA3 : Hid (w3.rangeAt w.heap.size 0 kl.toArray.toList) := hS3
    have U32 : Hid ((Try.prog.info? 26).map (·.size) = some kl.toArray.size) := by rw [List.size_toArray]; exact u32
    clear hra hS1 hS2 hS3 u32 hu32 hb1 hb2
    go_wp2_with (first
      | (refine load_cells (by rfl) 26 (.tmp 4) (by rfl) w.heap.size 0 (by rfl) kl.toArray _ HA3.out Try.underlying26 (by rfl) U32.out ?_)
      | (go_at_call 30; refine Calls.mono ct ?_; rintro e w4 ⟨v4, rfl, hown4, hb4⟩; clear ct; have ho4 := own_kept O3.out hb4; have hz4 := Nat.le_trans Z3.out hb4.size; have hb4 := H3.out.trans (hb4.mono (by have := Z3.out; omega)); obtain ⟨A4, c4, hv4, hc4, hm4, hr4⟩ := own_rda (S := fun _ => False) hown4 (fun _ _ x => x); subst hv4; have H4 := Lib.hid hb4; have O4 := Lib.hid ho4; have Z4 := Lib.hid hz4; have R4 := Lib.hid hr4.rd; clear hb4 hown4 ho4 hz4 hc4 hm4 hr4)
      | (at_builtin; refine wpList_append_rd _ (by rfl) (.tmp 40) (.tmp 44) 22 (by rfl) (B + 1) 5 ib _ 1 Try.underlying22 hi0 hz0 hs0 hb0 (by rfl) _ (8 + m) (bvs L) (by rfl) O4.out w4.heap.size A4 8 c4 T8 (by rfl) HT8.out.symm R4.out OT.out (by have := HM2.out; unfold maxLen; omega) (by have := HM2.out; omega) (by have := Z4.out; omega) ?_; intro v5 w5 hown5 hgrow5 hat5; rw [HFIN.out] at hown5; have hb5 := H4.out.grown hgrow5 (by have := Z4.out; omega) (fun k hk => by have := own_new O4.out k hk; omega); obtain ⟨A5, c5, hv5, hc5, hm5, hr5⟩ := own_rda (S := fun i => i < w.heap.size) hown5 (fun k hk hx => by have := own_new hown5 k hk; have := EB.out; omega); subst hv5; have H5 := Lib.hid hb5; have R5 := Lib.hid hr5; clear hown5 hgrow5 hat5 hb5 hc5 hm5 hr5)
      | fail)
    go_ret2
    exact ⟨A5, c5, by show Ending.returned (.tuple #[.slice A5 (8 + m + 8) c5, .int .i64 0]) = _; rw [show 8 + m + 8 = m + 16 by omega], R5.out, EB.out ▸ H5.out⟩)
end Go.Proofs.Ytioonkckppmnoaa.Se
