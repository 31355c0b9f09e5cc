/-
  RouteAllows walked.
-/
import Derived.Test.YtnalnhplcchdoaaRtAux
import Derived.Test.YtnalnhplcchdoaaRtRef4
import Derived.Test.YtnalnhplcchdoaaRtRef6
import Derived.Test.YtnalnhplcchdoaaRtWalk
import Derived.Deep.RegionHeld3
import Derived.Test.YtnalnhplcchdoaaRegion3
set_option linter.unusedVariables false
set_option linter.unusedSimpArgs false
namespace Go.Proofs.Ytnalnhplcchdoaa.RtW
open Go.RowKit Go.Proofs.Ytnalnhplcchdoaa.Mem Go.Proofs.Ytnalnhplcchdoaa.Nm Go.Proofs.Ytnalnhplcchdoaa.Rt

theorem reach_val7 : reachBytes = 140737488351232 := by decide
theorem two_via (a b : L) : viaL ⟨[a, b], [], []⟩ a b = betweenL a b := by rw [via_no (laidb_no fun k hk => by simp at hk).1]
theorem two_all (a b : L) : allowB ⟨[a, b], [], []⟩ a b (betweenL a b) = true := by
  rw [allowB, two_via, List.all_eq_true]; intro x hx; exact decide_eq_true hx
theorem two_one (a b r : L) : allowB ⟨[a, b], [], []⟩ a b [r] = decide (r ∈ betweenL a b) := by rw [allowB, two_via]; simp
theorem two_end {a b : L} (h : isT ⟨[a, b], [], []⟩ = true) : allowB ⟨[a, b], [], []⟩ a b (betweenL a b ++ [a]) = false := by
  have hr : realmsB [a, b] = true := by
    cases q : realmsB [a, b] with
    | true => rfl
    | false => rw [ist_e (T := ⟨[a, b], [], []⟩) q] at h; cases h
  rw [realmsB, Bool.and_eq_true, decide_eq_true_eq] at hr
  have hk := hr.1
  have hnd := hr.2
  simp only [List.all_cons, List.all_nil, Bool.and_true, Bool.and_eq_true, isL, decide_eq_true_eq] at hk
  have hab : a ≠ b := by rintro rfl; simp at hnd
  have e := path_between (a := a) (b := b) (by omega) (by omega) hab
  have nd := path_nodup a b
  rw [← e, List.nodup_cons] at nd
  have hna : a ∉ betweenL a b := fun hm => nd.1 (List.mem_append_left _ hm)
  rw [allowB, two_via]
  cases q : (betweenL a b ++ [a]).all fun r => decide (r ∈ betweenL a b) with
  | false => rfl
  | true =>
    rw [List.all_eq_true] at q
    exact absurd (of_decide_eq_true (q a (by simp))) hna
theorem two_sm {a b : L} (h : a.length + b.length ≤ 200) : Sm ⟨[a, b], [], []⟩ := ⟨by simp, by simp, by simp, fun x hx => by
  simp only [List.mem_cons, List.not_mem_nil, or_false] at hx
  rcases hx with rfl | rfl <;> omega, fun q hq => by simp at hq, fun q hq => by simp at hq⟩

theorem rd_far {w w' : World} {B b : Nat} {xs : List Value} {row : Option Nat} (h : Rd w B (some ⟨b, 0, none⟩) xs) (hg : w.grownBy w' row) (hb : b < w.heap.size) (hne : row ≠ some b) : Rd w' w'.heap.size (some ⟨b, 0, none⟩) xs := by
  rcases h with h | ⟨b', o', e, _, h3⟩
  · exact .inl h
  · injection e with e
    injection e with e1 e2
    subst e1; subst e2
    exact .inr ⟨b, 0, rfl, Nat.lt_of_lt_of_le hb hg.size, fun i u hu => (Tr.cell_same (hg.block b hb fun e => hne e.symm) _).trans (h3 i u hu)⟩
theorem ap_rd (w : World) (base : Nat) (v : Value) (ls : List L) (hown : Own w base v ls) (B : Nat) (A : Option Addr) (c : Nat) (ms : List L) (hr : Rd w B A (strs ms)) (hl : ls.length + ms.length ≤ 8000000000000) (hb : base ≤ w.heap.size) :
    ∃ v' w', (Builtin.append_ #[22, 22] 22 #[v, .slice A ms.length c]).run Try.prog w = .ok v' w' ∧ Own w' base v' (ls ++ ms) ∧ Below base w w' ∧ w.grownBy w' v.ownBlock := by
  obtain ⟨i0, hi0, hz0, hs0, hb0⟩ := info_parts str_info
  obtain ⟨v', w', h1, h2, h3, _⟩ := run_append_rd (P := Try.prog) w base 22 22 9 i0 _ 16 Try.underlying22 hi0 hz0 hs0 hb0 rfl v ls.length (strs ls) hown B A ms.length c (strs ms) (strs_length _).symm hr (strs_one _) (by unfold maxLen; omega) (by omega) hb
  exact ⟨v', w', h1, by rw [Own, List.length_append, strs_append]; exact h2, (Below.refl _ _).grown h3 hb (fun k hk => (hown.lt k hk).1), h3⟩
theorem lit_rd (w : World) (r : L) : Rd (w.alloc (.cells #[.string ⟨r.toArray⟩] 9)) (w.alloc (.cells #[.string ⟨r.toArray⟩] 9)).heap.size (some ⟨w.heap.size, 0, none⟩) (strs [r]) := by
  obtain ⟨A, c, e, _, h⟩ := lit_sl w [r]
  injection e with e
  subst e
  exact h.more (by simp)
set_option maxHeartbeats 6400000 in
set_option maxRecDepth 100000 in
theorem allows_yes (a b r : L) (w : World) (hs : a.length + b.length + r.length ≤ 200) :
    Calls Try.prog 11 #[.string ⟨a.toArray⟩, .string ⟨b.toArray⟩, .string ⟨r.toArray⟩] w fun e w' => e = .returned (.bool true) ∧ Below w.heap.size w w' := by
  have t1 : ¬ (200 : Int) < (a.length : Int) + (b.length : Int) + (r.length : Int) := by omega
  have hsl := lit_sl w [a, b]
  have hb1 : Below w.heap.size w (w.alloc (.cells (strs [a, b]).toArray 9)) := (Below.refl _ _).alloc (Nat.le_refl _) _
  obtain ⟨T, eT⟩ : ∃ T, T = (⟨[a, b], [], []⟩ : Tp) := ⟨_, rfl⟩
  have hsm : Sm T := by rw [eT]; exact two_sm (by omega)
  have hwz : (w.alloc (.cells (strs [a, b]).toArray 9)).heap.size = w.heap.size + 1 := by simp
  obtain ⟨W, eW⟩ : ∃ W, W = w.alloc (.cells (strs [a, b]).toArray 9) := ⟨_, rfl⟩
  rw [← eW] at hsl hb1 hwz
  have hv : TpV W W.heap.size (.agg #[.slice (some ⟨w.heap.size, 0, none⟩) 2 2, .slice none 0 0, .slice none 0 0]) T := by rw [eT, hwz]; exact ⟨_, _, _, rfl, hsl, slp_nil _ _, sla_nil _ _⟩
  have hb2 : Below W.heap.size W (W.alloc (.cells #[.slice (some ⟨w.heap.size, 0, none⟩) 2 2, .slice none 0 0, .slice none 0 0] 26)) := (Below.refl _ _).alloc (Nat.le_refl _) _
  have HK := Lib.hid (Blk.new W 26 #[.slice (some ⟨w.heap.size, 0, none⟩) 2 2, .slice none 0 0, .slice none 0 0])
  have HW := Lib.hid hb2
  have H0 := Lib.hid hb1
  have RIS := Lib.hid (fun w1 (h : Below W.heap.size W w1) => rist_any T _ W.heap.size w1 hsm (hv.below h) h.size)
  have BT := Lib.hid (fun w1 => rbetween_any a b w1 (by omega) (by omega))
  have HBL := Lib.hid (between_len a b)
  rw [hwz] at HK
  cases hx : isT T with
  | false =>
    rw [hx] at RIS
    clear hx hv hsm eT hsl hb1 hb2 hs
    have eW' : W = w.alloc (.cells #[.string ⟨a.toArray⟩, .string ⟨b.toArray⟩] 9) := eW
    clear eW hwz
    subst eW'
    go_enter Try.func11, Try.ntmps11
    go_wp2_with (go_at_call 14; refine Calls.mono (RIS.out _ HW.out) ?_; rintro e w2 ⟨rfl, hb⟩; replace HW := Lib.hid (HW.out.trans (hb.mono HW.out.size)); clear hb)
    go_ret
    exact ⟨rfl, H0.out.trans (HW.out.mono H0.out.size)⟩
  | true =>
    rw [hx] at RIS
    have AL := Lib.hid (fun (ls : List L) (A : Option Addr) (c : Nat) (hl : ls.length ≤ 1000000) w1 (h : Below W.heap.size W w1) (hr : Rd w1 w1.heap.size A (strs ls)) => allowed_any T _ W.heap.size a b ls A c w1.heap.size w1 hsm (hv.below h) h.size (by omega) (by omega) hl hr (Nat.le_refl _))
    have PL := Lib.hid (fun (A : Option Addr) (c : Nat) w1 (h : Rd w1 w1.heap.size A (strs (betweenL a b))) => place_any (betweenL a b) A c w1.heap.size r w1 (by have := HBL.out; omega) h)
    have a1 : allowB T a b (betweenL a b) = true := by rw [eT]; exact two_all a b
    have a2 : allowB T a b [] = true := rfl
    have a3 : allowB T a b [r] = decide (r ∈ betweenL a b) := by rw [eT]; exact two_one a b r
    have a4 : allowB T a b (betweenL a b ++ [a]) = false := by rw [eT]; exact two_end (by rw [← eT]; exact hx)
    have CK := Lib.hid (fun w1 => known_any w1)
    have hge := Tr.ix_ge r (betweenL a b)
    obtain ⟨M, eM⟩ : ∃ M, M = betweenL a b := ⟨_, rfl⟩
    rw [← eM] at BT HBL PL a1 a3 a4 hge
    obtain ⟨z, ez⟩ : ∃ z, z = Tr.ixL r M := ⟨_, rfl⟩
    rw [← ez] at PL hge
    obtain ⟨q, eq⟩ : ∃ q, q = decide (r ∈ M) := ⟨_, rfl⟩
    rw [← eq] at a3 hge
    have b1 : (q == q) = true := by simp
    have HM := HBL.out
    clear hx hv hsm eT hsl hb1 hb2 hs eM ez eq
    have eW' : W = w.alloc (.cells #[.string ⟨a.toArray⟩, .string ⟨b.toArray⟩] 9) := eW
    clear eW hwz
    subst eW'
    go_enter Try.func11, Try.ntmps11
    go_wp2_with (first
      | (go_at_call 14; refine Calls.mono (RIS.out _ HW.out) ?_; rintro e w2 ⟨rfl, hb⟩; replace HK := Lib.hid (HK.out.below hb); replace HW := Lib.hid (HW.out.trans (hb.mono HW.out.size)); clear hb)
      | (go_at_call 31; refine Calls.mono (BT.out _) ?_; rintro e w3 ⟨v3, rfl, ho, hb⟩; obtain ⟨A5, c5, e5, r5⟩ := ho.slice; subst e5; have HR5 := Lib.hid r5; replace HK := Lib.hid (HK.out.below hb); replace HW := Lib.hid (HW.out.trans (hb.mono HW.out.size)); clear hb ho r5))
    replace HK := Lib.hid (show Blk w3.drew _ _ _ from HK.out.drewN 1)
    replace HW := Lib.hid (show Below _ _ w3.drew from below_drewN HW.out 1)
    replace HR5 := Lib.hid (show Rd w3.drew w3.drew.heap.size _ _ from HR5.out.drewN 1)
    refine Reg.region_begin 41 rfl (by kernel_rfl) ?_
    refine Reg.take_op 0 (v := ?va0) rfl (by kernel_rfl) (by kernel_rfl) (by kernel_rfl) (fun _ _ _ h => h) (by rfl) (fun w' hS => ?ha0) ?ra0
    case ha0 => have hk := HK.out.below hS; have k0 := hk.cell 0; have k1 := hk.cell 1; have k2 := hk.cell 2; simp only [List.getElem?_toArray, List.getElem?_cons_zero, List.getElem?_cons_succ] at k0 k1 k2; go_simp; rfl
    simp only [Act.put, List.setIfInBounds_toArray, List.set_cons_zero, List.set_cons_succ]
    refine Reg.take_op 1 (v := ?va1) rfl (by kernel_rfl) (by kernel_rfl) (by kernel_rfl) (fun _ _ _ h => h) (by rfl) (fun w' hS => ?ha1) ?ra1
    case ha1 => go_simp; rfl
    simp only [Act.put, List.setIfInBounds_toArray, List.set_cons_zero, List.set_cons_succ]
    refine Reg.take_op 2 (v := ?va2) rfl (by kernel_rfl) (by kernel_rfl) (by kernel_rfl) (fun _ _ _ h => h) (by rfl) (fun w' hS => ?ha2) ?ra2
    case ha2 => go_simp; rfl
    simp only [Act.put, List.setIfInBounds_toArray, List.set_cons_zero, List.set_cons_succ]
    refine Reg.take_op 3 (v := ?va3) rfl (by kernel_rfl) (by kernel_rfl) (by kernel_rfl) (fun _ _ _ h => h) (by rfl) (fun w' hS => ?ha3) ?ra3
    case ha3 => go_simp; rfl
    simp only [Act.put, List.setIfInBounds_toArray, List.set_cons_zero, List.set_cons_succ]
    refine Reg.call_op 4 rfl (by kernel_rfl) (by rfl) 26 #[.agg #[.slice (some ⟨w.heap.size, 0, none⟩) 2 2, .slice none 0 0, .slice none 0 0], .string ⟨a.toArray⟩, .string ⟨b.toArray⟩, .slice A5 M.length c5] (by go_simp) ?_
    refine Calls.mono (AL.out M A5 c5 (by omega) _ HW.out HR5.out) ?_
    rw [a1]
    rintro e w4 ⟨rfl, hb⟩
    refine ⟨_, rfl, hb, ?_⟩
    replace HK := Lib.hid (HK.out.below hb); replace HW := Lib.hid (HW.out.trans (hb.mono HW.out.size)); replace HR5 := Lib.hid ((HR5.out.below hb).more hb.size); clear hb
    simp only [Act.put, List.setIfInBounds_toArray, List.set_cons_zero, List.set_cons_succ]
    refine Reg.take_op 5 (v := ?va5) rfl (by kernel_rfl) (by kernel_rfl) (by kernel_rfl) (fun _ _ _ h => h) (by rfl) (fun w' hS => ?ha5) ?ra5
    case ha5 => go_simp; rfl
    simp only [Act.put, List.setIfInBounds_toArray, List.set_cons_zero, List.set_cons_succ]
    refine Reg.take_op 6 (v := ?va6) rfl (by kernel_rfl) (by kernel_rfl) (by kernel_rfl) (fun _ _ _ h => h) (by rfl) (fun w' hS => ?ha6) ?ra6
    case ha6 => have hk := HK.out.below hS; have k0 := hk.cell 0; have k1 := hk.cell 1; have k2 := hk.cell 2; simp only [List.getElem?_toArray, List.getElem?_cons_zero, List.getElem?_cons_succ] at k0 k1 k2; go_simp; rfl
    simp only [Act.put, List.setIfInBounds_toArray, List.set_cons_zero, List.set_cons_succ]
    refine Reg.take_op 7 (v := ?va7) rfl (by kernel_rfl) (by kernel_rfl) (by kernel_rfl) (fun _ _ _ h => h) (by rfl) (fun w' hS => ?ha7) ?ra7
    case ha7 => go_simp; rfl
    simp only [Act.put, List.setIfInBounds_toArray, List.set_cons_zero, List.set_cons_succ]
    refine Reg.take_op 8 (v := ?va8) rfl (by kernel_rfl) (by kernel_rfl) (by kernel_rfl) (fun _ _ _ h => h) (by rfl) (fun w' hS => ?ha8) ?ra8
    case ha8 => go_simp; rfl
    simp only [Act.put, List.setIfInBounds_toArray, List.set_cons_zero, List.set_cons_succ]
    refine Reg.call_op 9 rfl (by kernel_rfl) (by rfl) 26 #[.agg #[.slice (some ⟨w.heap.size, 0, none⟩) 2 2, .slice none 0 0, .slice none 0 0], .string ⟨a.toArray⟩, .string ⟨b.toArray⟩, .slice none 0 0] (by go_simp) ?_
    refine Calls.mono (AL.out [] none 0 (by simp) _ HW.out (.inl rfl)) ?_
    rw [a2]
    rintro e w5 ⟨rfl, hb⟩
    refine ⟨_, rfl, hb, ?_⟩
    replace HK := Lib.hid (HK.out.below hb); replace HW := Lib.hid (HW.out.trans (hb.mono HW.out.size)); replace HR5 := Lib.hid ((HR5.out.below hb).more hb.size); clear hb
    simp only [Act.put, List.setIfInBounds_toArray, List.set_cons_zero, List.set_cons_succ]
    refine Reg.take_op 10 (v := ?va10) rfl (by kernel_rfl) (by kernel_rfl) (by kernel_rfl) (fun _ _ _ h => h) (by rfl) (fun w' hS => ?ha10) ?ra10
    case ha10 => go_simp; rfl
    simp only [Act.put, List.setIfInBounds_toArray, List.set_cons_zero, List.set_cons_succ]
    refine Reg.take_op 11 (v := ?va11) rfl (by kernel_rfl) (by kernel_rfl) (by kernel_rfl) (fun _ _ _ h => h) (by rfl) (fun w' hS => ?ha11) ?ra11
    case ha11 => go_simp; rfl
    simp only [Act.put, List.setIfInBounds_toArray, List.set_cons_zero, List.set_cons_succ]
    refine Reg.take_op 12 (v := ?va12) rfl (by kernel_rfl) (by kernel_rfl) (by kernel_rfl) (fun _ _ _ h => h) (by rfl) (fun w' hS => ?ha12) ?ra12
    case ha12 => have hk := HK.out.below hS; have k0 := hk.cell 0; have k1 := hk.cell 1; have k2 := hk.cell 2; simp only [List.getElem?_toArray, List.getElem?_cons_zero, List.getElem?_cons_succ] at k0 k1 k2; go_simp; rfl
    simp only [Act.put, List.setIfInBounds_toArray, List.set_cons_zero, List.set_cons_succ]
    refine Reg.take_op 13 (v := ?va13) rfl (by kernel_rfl) (by kernel_rfl) (by kernel_rfl) (fun _ _ _ h => h) (by rfl) (fun w' hS => ?ha13) ?ra13
    case ha13 => go_simp; rfl
    simp only [Act.put, List.setIfInBounds_toArray, List.set_cons_zero, List.set_cons_succ]
    refine Reg.take_op 14 (v := ?va14) rfl (by kernel_rfl) (by kernel_rfl) (by kernel_rfl) (fun _ _ _ h => h) (by rfl) (fun w' hS => ?ha14) ?ra14
    case ha14 => go_simp; rfl
    simp only [Act.put, List.setIfInBounds_toArray, List.set_cons_zero, List.set_cons_succ]
    refine Reg.take_op 15 (v := ?va15) rfl (by kernel_rfl) (by kernel_rfl) (by kernel_rfl) (fun _ _ _ h => h) (by rfl) (fun w' hS => ?ha15) ?ra15
    case ha15 => go_simp; rfl
    simp only [Act.put, List.setIfInBounds_toArray, List.set_cons_zero, List.set_cons_succ]
    refine Reg.take_op 18 (v := ?va18) rfl (by kernel_rfl) (by kernel_rfl) (by kernel_rfl) (fun _ _ _ h => h) (by rfl) (fun w' hS => ?ha18) ?ra18
    case ha18 => go_simp; rfl
    simp only [Act.put, List.setIfInBounds_toArray, List.set_cons_zero, List.set_cons_succ]
    refine Reg.take_op 19 (v := ?va19) rfl (by kernel_rfl) (by kernel_rfl) (by kernel_rfl) (fun _ _ _ h => h) (by rfl) (fun w' hS => ?ha19) ?ra19
    case ha19 => go_simp; rfl
    simp only [Act.put, List.setIfInBounds_toArray, List.set_cons_zero, List.set_cons_succ]
    refine Reg.eff_all [16] (by kernel_rfl) (by simp) ?_
    intro j hj
    obtain rfl : j = 16 := by simpa using hj
    clear hj
    refine ⟨_, _, _, _, _, _, _, w5.alloc (.cells #[.string ⟨r.toArray⟩] 9), rfl, by rfl, by go_simp; rfl, (Below.refl _ _).alloc (Nat.le_refl _) _, ?_⟩
    simp only [Act.put, List.setIfInBounds_toArray, List.set_cons_zero, List.set_cons_succ]
    have hb16 : Below w5.heap.size w5 (w5.alloc (.cells #[.string ⟨r.toArray⟩] 9)) := (Below.refl _ _).alloc (Nat.le_refl _) _
    have HRr := Lib.hid (own_sl (own_lit w5 w5.heap.size r (Nat.le_refl _)))
    refine Reg.held_on hb16 ?_
    replace HK := Lib.hid (HK.out.below hb16); replace HW := Lib.hid (HW.out.trans (hb16.mono HW.out.size)); replace HR5 := Lib.hid ((HR5.out.below hb16).more hb16.size); clear hb16
    refine Reg.call_op 17 rfl (by kernel_rfl) (by rfl) 26 #[.agg #[.slice (some ⟨w.heap.size, 0, none⟩) 2 2, .slice none 0 0, .slice none 0 0], .string ⟨a.toArray⟩, .string ⟨b.toArray⟩, .slice (some ⟨w5.heap.size, 0, none⟩) 1 1] (by go_simp) ?_
    refine Calls.mono (AL.out [r] _ 1 (by simp) _ HW.out (lit_rd w5 r)) ?_
    rw [a3]
    rintro e w6 ⟨rfl, hb⟩
    refine ⟨_, rfl, hb, ?_⟩
    replace HK := Lib.hid (HK.out.below hb); replace HW := Lib.hid (HW.out.trans (hb.mono HW.out.size)); replace HR5 := Lib.hid ((HR5.out.below hb).more hb.size); clear hb
    simp only [Act.put, List.setIfInBounds_toArray, List.set_cons_zero, List.set_cons_succ]
    refine Reg.call_op 20 rfl (by kernel_rfl) (by rfl) 28 #[.slice A5 M.length c5, .string ⟨r.toArray⟩] (by go_simp) ?_
    refine Calls.mono (PL.out A5 c5 _ HR5.out) ?_
    rintro e w7 ⟨rfl, rfl⟩
    refine ⟨_, rfl, Below.refl _ _, ?_⟩
    simp only [Act.put, List.setIfInBounds_toArray, List.set_cons_zero, List.set_cons_succ]
    refine Reg.take_op 21 (v := .bool q) rfl (by kernel_rfl) (by kernel_rfl) (by kernel_rfl) (fun _ _ _ h => h) (by rfl) (fun w' hS => ?ha21) ?ra21
    case ha21 => go_simp
    simp only [Act.put, List.setIfInBounds_toArray, List.set_cons_zero, List.set_cons_succ]
    refine Reg.take_op 22 (v := .bool true) rfl (by kernel_rfl) (by kernel_rfl) (by kernel_rfl) (fun _ _ _ h => h) (by rfl) (fun w' hS => ?ha22) ?ra22
    case ha22 => go_simp
    simp only [Act.put, List.setIfInBounds_toArray, List.set_cons_zero, List.set_cons_succ]
    refine Reg.take_op 23 (v := ?va23) rfl (by kernel_rfl) (by kernel_rfl) (by kernel_rfl) (fun _ _ _ h => h) (by rfl) (fun w' hS => ?ha23) ?ra23
    case ha23 => go_simp; rfl
    simp only [Act.put, List.setIfInBounds_toArray, List.set_cons_zero, List.set_cons_succ]
    refine Reg.take_op 24 (v := ?va24) rfl (by kernel_rfl) (by kernel_rfl) (by kernel_rfl) (fun _ _ _ h => h) (by rfl) (fun w' hS => ?ha24) ?ra24
    case ha24 => go_simp; rfl
    simp only [Act.put, List.setIfInBounds_toArray, List.set_cons_zero, List.set_cons_succ]
    refine Reg.take_op 25 (v := ?va25) rfl (by kernel_rfl) (by kernel_rfl) (by kernel_rfl) (fun _ _ _ h => h) (by rfl) (fun w' hS => ?ha25) ?ra25
    case ha25 => have hk := HK.out.below hS; have k0 := hk.cell 0; have k1 := hk.cell 1; have k2 := hk.cell 2; simp only [List.getElem?_toArray, List.getElem?_cons_zero, List.getElem?_cons_succ] at k0 k1 k2; go_simp; rfl
    simp only [Act.put, List.setIfInBounds_toArray, List.set_cons_zero, List.set_cons_succ]
    refine Reg.take_op 26 (v := ?va26) rfl (by kernel_rfl) (by kernel_rfl) (by kernel_rfl) (fun _ _ _ h => h) (by rfl) (fun w' hS => ?ha26) ?ra26
    case ha26 => go_simp; rfl
    simp only [Act.put, List.setIfInBounds_toArray, List.set_cons_zero, List.set_cons_succ]
    refine Reg.take_op 27 (v := ?va27) rfl (by kernel_rfl) (by kernel_rfl) (by kernel_rfl) (fun _ _ _ h => h) (by rfl) (fun w' hS => ?ha27) ?ra27
    case ha27 => go_simp; rfl
    simp only [Act.put, List.setIfInBounds_toArray, List.set_cons_zero, List.set_cons_succ]
    refine Reg.take_op 29 (v := ?va29) rfl (by kernel_rfl) (by kernel_rfl) (by kernel_rfl) (fun _ _ _ h => h) (by rfl) (fun w' hS => ?ha29) ?ra29
    case ha29 => go_simp; rfl
    simp only [Act.put, List.setIfInBounds_toArray, List.set_cons_zero, List.set_cons_succ]
    refine Reg.take_op 31 (v := ?va31) rfl (by kernel_rfl) (by kernel_rfl) (by kernel_rfl) (fun _ _ _ h => h) (by rfl) (fun w' hS => ?ha31) ?ra31
    case ha31 => go_simp; rfl
    simp only [Act.put, List.setIfInBounds_toArray, List.set_cons_zero, List.set_cons_succ]
    refine Reg.eff_all [28, 32] (by kernel_rfl) (by simp) ?_
    intro j hj
    have hj : j = 28 ∨ j = 32 := by simpa using hj
    rcases hj with rfl | rfl
    · refine ⟨_, _, _, _, _, _, _, (w6).alloc (.cells #[] 9), rfl, by rfl, by go_simp; rfl, ((Below.refl w6.heap.size w6)).alloc ((Below.refl w6.heap.size w6)).size _, ?_⟩
      simp only [Act.put, List.setIfInBounds_toArray, List.set_cons_zero, List.set_cons_succ]
      have hA : Below w6.heap.size w6 ((w6).alloc (.cells #[] 9)) := ((Below.refl w6.heap.size w6)).alloc ((Below.refl w6.heap.size w6)).size _
      have hoA := own_none w6 w6.heap.size (Nat.le_refl _)
      refine Reg.eff_all [30, 32] (by kernel_rfl) (by simp) ?_
      intro j hj
      have hj : j = 30 ∨ j = 32 := by simpa using hj
      rcases hj with rfl | rfl
      · obtain ⟨vM, wM, hrwM, hoM, hbwM, hgwM⟩ := ap_rd (w6.alloc (.cells #[] 9)) w6.heap.size _ [] hoA _ A5 c5 M (HR5.out.below hA) (by simp; omega) hA.size
        have hM : Below w6.heap.size w6 wM := (hA).trans hbwM
        refine ⟨_, _, _, _, _, _, vM, wM, rfl, by rfl, by (simp only [execOp, resolve, invoke, builtin, Sem.run_bind, Sem.run_pure, Result.andThen_ok, List.map_toArray, List.map_cons, List.map_nil, Act.eval]; refine (congrArg (fun r => Result.andThen r _) hrwM).trans ?_; rfl), hM, ?_⟩
        simp only [Act.put, List.setIfInBounds_toArray, List.set_cons_zero, List.set_cons_succ]
        refine Reg.eff_all [32] (by kernel_rfl) (by simp) ?_
        intro j hj
        obtain rfl : j = 32 := by simpa using hj
        clear hj
        refine ⟨_, _, _, _, _, _, _, (wM).alloc (.cells #[.string ⟨a.toArray⟩] 9), rfl, by rfl, by go_simp; rfl, (hM).alloc (hM).size _, ?_⟩
        simp only [Act.put, List.setIfInBounds_toArray, List.set_cons_zero, List.set_cons_succ]
        have hB : Below w6.heap.size w6 ((wM).alloc (.cells #[.string ⟨a.toArray⟩] 9)) := (hM).alloc (hM).size _
        have hlB := lit_rd wM a
        have hoB := hoM.below ((Below.refl wM.heap.size wM).alloc (Nat.le_refl _) (.cells #[.string ⟨a.toArray⟩] 9))
        refine Reg.eff_all [33] (by kernel_rfl) (by simp) ?_
        intro j hj
        obtain rfl : j = 33 := by simpa using hj
        clear hj
        obtain ⟨vF, wF, hrwF, HO7a, hbwF, hgwF⟩ := ap_rd (wM.alloc (.cells #[.string ⟨a.toArray⟩] 9)) w6.heap.size _ ([] ++ M) hoB _ (some ⟨wM.heap.size, 0, none⟩) 1 [a] hlB (by simp; omega) hB.size
        have hE : Below w6.heap.size w6 wF := (hB).trans hbwF
        refine ⟨_, _, _, _, _, _, vF, wF, rfl, by rfl, by (simp only [execOp, resolve, invoke, builtin, Sem.run_bind, Sem.run_pure, Result.andThen_ok, List.map_toArray, List.map_cons, List.map_nil, Act.eval]; refine (congrArg (fun r => Result.andThen r _) hrwF).trans ?_; rfl), hE, ?_⟩
        simp only [Act.put, List.setIfInBounds_toArray, List.set_cons_zero, List.set_cons_succ]
        have HO7 := Lib.hid (show Own wF w6.heap.size vF (M ++ [a]) from HO7a)
        have H7 := Lib.hid hE
        obtain ⟨A7, c7, e7, r7⟩ := HO7.out.slice
        subst e7
        refine Reg.held_on H7.out ?_
        replace HK := Lib.hid (HK.out.below H7.out); replace HW := Lib.hid (HW.out.trans (H7.out.mono HW.out.size)); replace HR5 := Lib.hid ((HR5.out.below H7.out).more H7.out.size)
        refine Reg.call_op 34 rfl (by kernel_rfl) (by rfl) 26 #[.agg #[.slice (some ⟨w.heap.size, 0, none⟩) 2 2, .slice none 0 0, .slice none 0 0], .string ⟨a.toArray⟩, .string ⟨b.toArray⟩, .slice A7 (M ++ [a]).length c7] (by go_simp) ?_
        refine Calls.mono (AL.out (M ++ [a]) A7 c7 (by simp; omega) _ HW.out r7) ?_
        rw [a4]
        rintro e w8 ⟨rfl, hb⟩
        refine ⟨_, rfl, hb, ?_⟩
        replace HK := Lib.hid (HK.out.below hb); replace HW := Lib.hid (HW.out.trans (hb.mono HW.out.size)); replace HR5 := Lib.hid ((HR5.out.below hb).more hb.size); clear hb
        simp only [Act.put, List.setIfInBounds_toArray, List.set_cons_zero, List.set_cons_succ]
        refine Reg.take_op 35 (v := ?vx35) rfl (by kernel_rfl) (by kernel_rfl) (by kernel_rfl) (fun _ _ _ h => h) (by rfl) (fun w' hS => ?hx35) ?rx35
        case hx35 => go_simp; rfl
        simp only [Act.put, List.setIfInBounds_toArray, List.set_cons_zero, List.set_cons_succ]
        refine Reg.take_op 36 (v := ?vx36) rfl (by kernel_rfl) (by kernel_rfl) (by kernel_rfl) (fun _ _ _ h => h) (by rfl) (fun w' hS => ?hx36) ?rx36
        case hx36 => go_simp; rfl
        simp only [Act.put, List.setIfInBounds_toArray, List.set_cons_zero, List.set_cons_succ]
        refine Reg.take_op 37 (v := ?vx37) rfl (by kernel_rfl) (by kernel_rfl) (by kernel_rfl) (fun _ _ _ h => h) (by rfl) (fun w' hS => ?hx37) ?rx37
        case hx37 => go_simp; rfl
        simp only [Act.put, List.setIfInBounds_toArray, List.set_cons_zero, List.set_cons_succ]
        refine Reg.call_op 38 rfl (by kernel_rfl) (by rfl) 15 #[] (by go_simp) ?_
        refine Calls.mono (CK.out _) ?_
        rintro e w9 ⟨rfl, hb⟩
        refine ⟨_, rfl, hb, ?_⟩
        replace HK := Lib.hid (HK.out.below hb); replace HW := Lib.hid (HW.out.trans (hb.mono HW.out.size)); replace HR5 := Lib.hid ((HR5.out.below hb).more hb.size); clear hb
        simp only [Act.put, List.setIfInBounds_toArray, List.set_cons_zero, List.set_cons_succ]
        refine Reg.take_op 39 (v := ?vx39) rfl (by kernel_rfl) (by kernel_rfl) (by kernel_rfl) (fun _ _ _ h => h) (by rfl) (fun w' hS => ?hx39) ?rx39
        case hx39 => go_simp; rfl
        simp only [Act.put, List.setIfInBounds_toArray, List.set_cons_zero, List.set_cons_succ]
        refine Reg.take_op 40 (v := ?vx40) rfl (by kernel_rfl) (by kernel_rfl) (by kernel_rfl) (fun _ _ _ h => h) (by rfl) (fun w' hS => ?hx40) ?rx40
        case hx40 => go_simp; rfl
        simp only [Act.put, List.setIfInBounds_toArray, List.set_cons_zero, List.set_cons_succ]
        refine wpAnyH_done (by kernel_rfl) ?_ _
        go_wp2
        go_ret
        exact ⟨rfl, H0.out.trans (HW.out.mono H0.out.size)⟩
      · refine ⟨_, _, _, _, _, _, _, (w6.alloc (.cells #[] 9)).alloc (.cells #[.string ⟨a.toArray⟩] 9), rfl, by rfl, by go_simp; rfl, (hA).alloc (hA).size _, ?_⟩
        simp only [Act.put, List.setIfInBounds_toArray, List.set_cons_zero, List.set_cons_succ]
        have hB : Below w6.heap.size w6 ((w6.alloc (.cells #[] 9)).alloc (.cells #[.string ⟨a.toArray⟩] 9)) := (hA).alloc (hA).size _
        have hsz1 : (w6.alloc (.cells #[] 9)).heap.size = w6.heap.size + 1 := by simp
        have hlB := lit_rd (w6.alloc (.cells #[] 9)) a
        rw [hsz1] at hlB
        have hoB := hoA.below ((Below.refl (w6.alloc (.cells #[] 9)).heap.size (w6.alloc (.cells #[] 9))).alloc (Nat.le_refl _) (.cells #[.string ⟨a.toArray⟩] 9))
        refine Reg.eff_all [30] (by kernel_rfl) (by simp) ?_
        intro j hj
        obtain rfl : j = 30 := by simpa using hj
        clear hj
        obtain ⟨vM, wM, hrwM, hoM, hbwM, hgwM⟩ := ap_rd ((w6.alloc (.cells #[] 9)).alloc (.cells #[.string ⟨a.toArray⟩] 9)) w6.heap.size _ [] hoB _ A5 c5 M (HR5.out.below hB) (by simp; omega) hB.size
        have hM : Below w6.heap.size w6 wM := (hB).trans hbwM
        refine ⟨_, _, _, _, _, _, vM, wM, rfl, by rfl, by (simp only [execOp, resolve, invoke, builtin, Sem.run_bind, Sem.run_pure, Result.andThen_ok, List.map_toArray, List.map_cons, List.map_nil, Act.eval]; refine (congrArg (fun r => Result.andThen r _) hrwM).trans ?_; rfl), hM, ?_⟩
        simp only [Act.put, List.setIfInBounds_toArray, List.set_cons_zero, List.set_cons_succ]
        have hlM := rd_far hlB hgwM (by simp) (by simp [Value.ownBlock])
        refine Reg.eff_all [33] (by kernel_rfl) (by simp) ?_
        intro j hj
        obtain rfl : j = 33 := by simpa using hj
        clear hj
        obtain ⟨vF, wF, hrwF, HO7a, hbwF, hgwF⟩ := ap_rd wM w6.heap.size _ ([] ++ M) hoM _ (some ⟨w6.heap.size + 1, 0, none⟩) 1 [a] hlM (by simp; omega) hM.size
        have hE : Below w6.heap.size w6 wF := (hM).trans hbwF
        refine ⟨_, _, _, _, _, _, vF, wF, rfl, by rfl, by (simp only [execOp, resolve, invoke, builtin, Sem.run_bind, Sem.run_pure, Result.andThen_ok, List.map_toArray, List.map_cons, List.map_nil, Act.eval]; refine (congrArg (fun r => Result.andThen r _) hrwF).trans ?_; rfl), hE, ?_⟩
        simp only [Act.put, List.setIfInBounds_toArray, List.set_cons_zero, List.set_cons_succ]
        have HO7 := Lib.hid (show Own wF w6.heap.size vF (M ++ [a]) from HO7a)
        have H7 := Lib.hid hE
        obtain ⟨A7, c7, e7, r7⟩ := HO7.out.slice
        subst e7
        refine Reg.held_on H7.out ?_
        replace HK := Lib.hid (HK.out.below H7.out); replace HW := Lib.hid (HW.out.trans (H7.out.mono HW.out.size)); replace HR5 := Lib.hid ((HR5.out.below H7.out).more H7.out.size)
        refine Reg.call_op 34 rfl (by kernel_rfl) (by rfl) 26 #[.agg #[.slice (some ⟨w.heap.size, 0, none⟩) 2 2, .slice none 0 0, .slice none 0 0], .string ⟨a.toArray⟩, .string ⟨b.toArray⟩, .slice A7 (M ++ [a]).length c7] (by go_simp) ?_
        refine Calls.mono (AL.out (M ++ [a]) A7 c7 (by simp; omega) _ HW.out r7) ?_
        rw [a4]
        rintro e w8 ⟨rfl, hb⟩
        refine ⟨_, rfl, hb, ?_⟩
        replace HK := Lib.hid (HK.out.below hb); replace HW := Lib.hid (HW.out.trans (hb.mono HW.out.size)); replace HR5 := Lib.hid ((HR5.out.below hb).more hb.size); clear hb
        simp only [Act.put, List.setIfInBounds_toArray, List.set_cons_zero, List.set_cons_succ]
        refine Reg.take_op 35 (v := ?vy35) rfl (by kernel_rfl) (by kernel_rfl) (by kernel_rfl) (fun _ _ _ h => h) (by rfl) (fun w' hS => ?hy35) ?ry35
        case hy35 => go_simp; rfl
        simp only [Act.put, List.setIfInBounds_toArray, List.set_cons_zero, List.set_cons_succ]
        refine Reg.take_op 36 (v := ?vy36) rfl (by kernel_rfl) (by kernel_rfl) (by kernel_rfl) (fun _ _ _ h => h) (by rfl) (fun w' hS => ?hy36) ?ry36
        case hy36 => go_simp; rfl
        simp only [Act.put, List.setIfInBounds_toArray, List.set_cons_zero, List.set_cons_succ]
        refine Reg.take_op 37 (v := ?vy37) rfl (by kernel_rfl) (by kernel_rfl) (by kernel_rfl) (fun _ _ _ h => h) (by rfl) (fun w' hS => ?hy37) ?ry37
        case hy37 => go_simp; rfl
        simp only [Act.put, List.setIfInBounds_toArray, List.set_cons_zero, List.set_cons_succ]
        refine Reg.call_op 38 rfl (by kernel_rfl) (by rfl) 15 #[] (by go_simp) ?_
        refine Calls.mono (CK.out _) ?_
        rintro e w9 ⟨rfl, hb⟩
        refine ⟨_, rfl, hb, ?_⟩
        replace HK := Lib.hid (HK.out.below hb); replace HW := Lib.hid (HW.out.trans (hb.mono HW.out.size)); replace HR5 := Lib.hid ((HR5.out.below hb).more hb.size); clear hb
        simp only [Act.put, List.setIfInBounds_toArray, List.set_cons_zero, List.set_cons_succ]
        refine Reg.take_op 39 (v := ?vy39) rfl (by kernel_rfl) (by kernel_rfl) (by kernel_rfl) (fun _ _ _ h => h) (by rfl) (fun w' hS => ?hy39) ?ry39
        case hy39 => go_simp; rfl
        simp only [Act.put, List.setIfInBounds_toArray, List.set_cons_zero, List.set_cons_succ]
        refine Reg.take_op 40 (v := ?vy40) rfl (by kernel_rfl) (by kernel_rfl) (by kernel_rfl) (fun _ _ _ h => h) (by rfl) (fun w' hS => ?hy40) ?ry40
        case hy40 => go_simp; rfl
        simp only [Act.put, List.setIfInBounds_toArray, List.set_cons_zero, List.set_cons_succ]
        refine wpAnyH_done (by kernel_rfl) ?_ _
        go_wp2
        go_ret
        exact ⟨rfl, H0.out.trans (HW.out.mono H0.out.size)⟩
    · refine ⟨_, _, _, _, _, _, _, (w6).alloc (.cells #[.string ⟨a.toArray⟩] 9), rfl, by rfl, by go_simp; rfl, ((Below.refl w6.heap.size w6)).alloc ((Below.refl w6.heap.size w6)).size _, ?_⟩
      simp only [Act.put, List.setIfInBounds_toArray, List.set_cons_zero, List.set_cons_succ]
      have hC : Below w6.heap.size w6 ((w6).alloc (.cells #[.string ⟨a.toArray⟩] 9)) := ((Below.refl w6.heap.size w6)).alloc ((Below.refl w6.heap.size w6)).size _
      have hsz2 : (w6.alloc (.cells #[.string ⟨a.toArray⟩] 9)).heap.size = w6.heap.size + 1 := by simp
      have hlC := lit_rd w6 a
      refine Reg.eff_all [28] (by kernel_rfl) (by simp) ?_
      intro j hj
      obtain rfl : j = 28 := by simpa using hj
      clear hj
      refine ⟨_, _, _, _, _, _, _, (w6.alloc (.cells #[.string ⟨a.toArray⟩] 9)).alloc (.cells #[] 9), rfl, by rfl, by go_simp; rfl, (hC).alloc (hC).size _, ?_⟩
      simp only [Act.put, List.setIfInBounds_toArray, List.set_cons_zero, List.set_cons_succ]
      have hD : Below w6.heap.size w6 ((w6.alloc (.cells #[.string ⟨a.toArray⟩] 9)).alloc (.cells #[] 9)) := (hC).alloc (hC).size _
      have hoD := own_none (w6.alloc (.cells #[.string ⟨a.toArray⟩] 9)) w6.heap.size hC.size
      rw [hsz2] at hoD
      have hlD := (hlC.below ((Below.refl (w6.alloc (.cells #[.string ⟨a.toArray⟩] 9)).heap.size (w6.alloc (.cells #[.string ⟨a.toArray⟩] 9))).alloc (Nat.le_refl _) (.cells #[] 9)))
      refine Reg.eff_all [30] (by kernel_rfl) (by simp) ?_
      intro j hj
      obtain rfl : j = 30 := by simpa using hj
      clear hj
      obtain ⟨vM, wM, hrwM, hoM, hbwM, hgwM⟩ := ap_rd ((w6.alloc (.cells #[.string ⟨a.toArray⟩] 9)).alloc (.cells #[] 9)) w6.heap.size _ [] hoD _ A5 c5 M (HR5.out.below hD) (by simp; omega) hD.size
      have hM : Below w6.heap.size w6 wM := (hD).trans hbwM
      refine ⟨_, _, _, _, _, _, vM, wM, rfl, by rfl, by (simp only [execOp, resolve, invoke, builtin, Sem.run_bind, Sem.run_pure, Result.andThen_ok, List.map_toArray, List.map_cons, List.map_nil, Act.eval]; refine (congrArg (fun r => Result.andThen r _) hrwM).trans ?_; rfl), hM, ?_⟩
      simp only [Act.put, List.setIfInBounds_toArray, List.set_cons_zero, List.set_cons_succ]
      have hlM := rd_far hlD hgwM (by simp; omega) (by simp [Value.ownBlock])
      refine Reg.eff_all [33] (by kernel_rfl) (by simp) ?_
      intro j hj
      obtain rfl : j = 33 := by simpa using hj
      clear hj
      obtain ⟨vF, wF, hrwF, HO7a, hbwF, hgwF⟩ := ap_rd wM w6.heap.size _ ([] ++ M) hoM _ (some ⟨w6.heap.size, 0, none⟩) 1 [a] hlM (by simp; omega) hM.size
      have hE : Below w6.heap.size w6 wF := (hM).trans hbwF
      refine ⟨_, _, _, _, _, _, vF, wF, rfl, by rfl, by (simp only [execOp, resolve, invoke, builtin, Sem.run_bind, Sem.run_pure, Result.andThen_ok, List.map_toArray, List.map_cons, List.map_nil, Act.eval]; refine (congrArg (fun r => Result.andThen r _) hrwF).trans ?_; rfl), hE, ?_⟩
      simp only [Act.put, List.setIfInBounds_toArray, List.set_cons_zero, List.set_cons_succ]
      have HO7 := Lib.hid (show Own wF w6.heap.size vF (M ++ [a]) from HO7a)
      have H7 := Lib.hid hE
      obtain ⟨A7, c7, e7, r7⟩ := HO7.out.slice
      subst e7
      refine Reg.held_on H7.out ?_
      replace HK := Lib.hid (HK.out.below H7.out); replace HW := Lib.hid (HW.out.trans (H7.out.mono HW.out.size)); replace HR5 := Lib.hid ((HR5.out.below H7.out).more H7.out.size)
      refine Reg.call_op 34 rfl (by kernel_rfl) (by rfl) 26 #[.agg #[.slice (some ⟨w.heap.size, 0, none⟩) 2 2, .slice none 0 0, .slice none 0 0], .string ⟨a.toArray⟩, .string ⟨b.toArray⟩, .slice A7 (M ++ [a]).length c7] (by go_simp) ?_
      refine Calls.mono (AL.out (M ++ [a]) A7 c7 (by simp; omega) _ HW.out r7) ?_
      rw [a4]
      rintro e w8 ⟨rfl, hb⟩
      refine ⟨_, rfl, hb, ?_⟩
      replace HK := Lib.hid (HK.out.below hb); replace HW := Lib.hid (HW.out.trans (hb.mono HW.out.size)); replace HR5 := Lib.hid ((HR5.out.below hb).more hb.size); clear hb
      simp only [Act.put, List.setIfInBounds_toArray, List.set_cons_zero, List.set_cons_succ]
      refine Reg.take_op 35 (v := ?vz35) rfl (by kernel_rfl) (by kernel_rfl) (by kernel_rfl) (fun _ _ _ h => h) (by rfl) (fun w' hS => ?hz35) ?rz35
      case hz35 => go_simp; rfl
      simp only [Act.put, List.setIfInBounds_toArray, List.set_cons_zero, List.set_cons_succ]
      refine Reg.take_op 36 (v := ?vz36) rfl (by kernel_rfl) (by kernel_rfl) (by kernel_rfl) (fun _ _ _ h => h) (by rfl) (fun w' hS => ?hz36) ?rz36
      case hz36 => go_simp; rfl
      simp only [Act.put, List.setIfInBounds_toArray, List.set_cons_zero, List.set_cons_succ]
      refine Reg.take_op 37 (v := ?vz37) rfl (by kernel_rfl) (by kernel_rfl) (by kernel_rfl) (fun _ _ _ h => h) (by rfl) (fun w' hS => ?hz37) ?rz37
      case hz37 => go_simp; rfl
      simp only [Act.put, List.setIfInBounds_toArray, List.set_cons_zero, List.set_cons_succ]
      refine Reg.call_op 38 rfl (by kernel_rfl) (by rfl) 15 #[] (by go_simp) ?_
      refine Calls.mono (CK.out _) ?_
      rintro e w9 ⟨rfl, hb⟩
      refine ⟨_, rfl, hb, ?_⟩
      replace HK := Lib.hid (HK.out.below hb); replace HW := Lib.hid (HW.out.trans (hb.mono HW.out.size)); replace HR5 := Lib.hid ((HR5.out.below hb).more hb.size); clear hb
      simp only [Act.put, List.setIfInBounds_toArray, List.set_cons_zero, List.set_cons_succ]
      refine Reg.take_op 39 (v := ?vz39) rfl (by kernel_rfl) (by kernel_rfl) (by kernel_rfl) (fun _ _ _ h => h) (by rfl) (fun w' hS => ?hz39) ?rz39
      case hz39 => go_simp; rfl
      simp only [Act.put, List.setIfInBounds_toArray, List.set_cons_zero, List.set_cons_succ]
      refine Reg.take_op 40 (v := ?vz40) rfl (by kernel_rfl) (by kernel_rfl) (by kernel_rfl) (fun _ _ _ h => h) (by rfl) (fun w' hS => ?hz40) ?rz40
      case hz40 => go_simp; rfl
      simp only [Act.put, List.setIfInBounds_toArray, List.set_cons_zero, List.set_cons_succ]
      refine wpAnyH_done (by kernel_rfl) ?_ _
      go_wp2
      go_ret
      exact ⟨rfl, H0.out.trans (HW.out.mono H0.out.size)⟩
theorem allows_no (a b n : L) (w : World) (h1 : a.length ≤ 140737488351232) (h2 : b.length ≤ 140737488351232) (h3 : n.length ≤ 140737488351232) (hs : 200 < a.length + b.length + n.length) : Calls Try.prog 11 #[.string ⟨a.toArray⟩, .string ⟨b.toArray⟩, .string ⟨n.toArray⟩] w fun e w' => e = .returned (.bool true) ∧ Below w.heap.size w w' := by
  have e200 : (200 : Int) < (a.length : Int) + (b.length : Int) + (n.length : Int) := by omega
  have HB := Lib.hid (Below.refl w.heap.size w)
  go_enter Try.func11, Try.ntmps11
  go_wp2
  go_ret
  exact ⟨rfl, HB.out⟩
theorem allows_ (s1 s2 s3 : ByteArray) (w : World) (h1 : s1.data.toList.length ≤ reachBytes) (h2 : s2.data.toList.length ≤ reachBytes) (h3 : s3.data.toList.length ≤ reachBytes) : Calls Try.prog 11 #[.string s1, .string s2, .string s3] w fun e w' => e = .returned (.bool true) ∧ Below w.heap.size w w' := by
  rw [reach_val7] at h1 h2 h3
  obtain ⟨a, rfl⟩ : ∃ a : L, s1 = ⟨a.toArray⟩ := ⟨_, bytes_eta s1⟩
  obtain ⟨b, rfl⟩ : ∃ a : L, s2 = ⟨a.toArray⟩ := ⟨_, bytes_eta s2⟩
  obtain ⟨n, rfl⟩ : ∃ a : L, s3 = ⟨a.toArray⟩ := ⟨_, bytes_eta s3⟩
  simp only at h1 h2 h3
  by_cases h : a.length + b.length + n.length ≤ 200
  · exact allows_yes a b n w h
  · exact allows_no a b n w h1 h2 h3 (by omega)
end Go.Proofs.Ytnalnhplcchdoaa.RtW
