/-
  The small example that every law of chapter 7 ends with.
-/
import Derived.Test.YtnalnhplcchdoaaRtKnown
set_option linter.unusedVariables false
namespace Go.Proofs.Ytnalnhplcchdoaa.Rt
open Go.RowKit Go.Proofs.Ytnalnhplcchdoaa.Mem Go.Proofs.Ytnalnhplcchdoaa.Nm

theorem lit_sl (w : World) (ls : List L) : SlV (w.alloc (.cells (strs ls).toArray 9)) (w.heap.size + 1) (.slice (some ⟨w.heap.size, 0, none⟩) ls.length ls.length) ls := by
  refine ⟨_, _, rfl, Nat.le_refl _, .inr ⟨w.heap.size, 0, rfl, by omega, fun i u hu => ?_⟩⟩
  rw [Nat.zero_add, (Blk.new w 9 _).cell i, List.getElem?_toArray]
  exact hu
theorem lit_sp (w : World) (K : List Pr) : SlP (w.alloc (.cells (prs K).toArray 43)) (w.heap.size + 1) (.slice (some ⟨w.heap.size, 0, none⟩) K.length K.length) K := by
  refine ⟨_, _, rfl, Nat.le_refl _, .inr ⟨w.heap.size, 0, rfl, by omega, fun i hi => ?_⟩⟩
  have := prs_at hi
  rw [Nat.zero_add, (Blk.new w 43 _).cell, (Blk.new w 43 _).cell, List.getElem?_toArray, List.getElem?_toArray]
  exact this
theorem sla_nil (w : World) (B : Nat) : SlA w B (.slice none 0 0) [] := ⟨none, 0, rfl, Nat.le_refl _, .inl rfl⟩
theorem slp_nil (w : World) (B : Nat) : SlP w B (.slice none 0 0) [] := ⟨none, 0, rfl, Nat.le_refl _, .inl rfl⟩
theorem slv_nil (w : World) (B : Nat) : SlV w B (.slice none 0 0) [] := ⟨none, 0, rfl, Nat.le_refl _, .inl rfl⟩

def tEx : Tp := ⟨[[65, 46, 69, 68, 85], [69, 68, 85], [66, 46, 69, 68, 85]], [([65, 46, 69, 68, 85], [69, 68, 85]), ([69, 68, 85], [66, 46, 69, 68, 85])], []⟩
theorem ex_is : isT tEx = true := by decide +kernel
theorem ex_walk : wkL tEx [65, 46, 69, 68, 85] [66, 46, 69, 68, 85] = [[69, 68, 85]] ∧ wkB tEx [65, 46, 69, 68, 85] [66, 46, 69, 68, 85] = true := by decide +kernel
theorem ex_sm : Sm tEx := ⟨by decide, by decide, by decide, by decide, by decide, by decide⟩

set_option maxHeartbeats 1600000 in
set_option maxRecDepth 100000 in
theorem known_any (w : World) : Calls Try.prog 15 #[] w fun e w' => e = .returned (.bool true) ∧ Below w.heap.size w w' := by
  have r1 := lit_sl w tEx.R
  have r2 := lit_sp (w.alloc (.cells (strs tEx.R).toArray 9)) tEx.K
  have b1 : Below (w.heap.size + 1) (w.alloc (.cells (strs tEx.R).toArray 9)) ((w.alloc (.cells (strs tEx.R).toArray 9)).alloc (.cells (prs tEx.K).toArray 43)) := (Below.refl _ _).alloc (by simp) _
  have hsz : (w.alloc (.cells (strs tEx.R).toArray 9)).heap.size = w.heap.size + 1 := by simp
  rw [hsz] at r2
  have hv : TpV _ (w.heap.size + 1 + 1) (.agg #[.slice (some ⟨w.heap.size, 0, none⟩) 3 3, .slice (some ⟨w.heap.size + 1, 0, none⟩) 2 2, .slice none 0 0]) tEx := ⟨_, _, _, rfl, (r1.below b1).more (by omega), r2, sla_nil _ _⟩
  have H0 : Below w.heap.size w ((w.alloc (.cells (strs tEx.R).toArray 9)).alloc (.cells (prs tEx.K).toArray 43)) := ((Below.refl _ _).alloc (Nat.le_refl _) _).alloc (by simp) _
  obtain ⟨W, eW⟩ : ∃ W, W = (w.alloc (.cells (strs tEx.R).toArray 9)).alloc (.cells (prs tEx.K).toArray 43) := ⟨_, rfl⟩
  have hwz : W.heap.size = w.heap.size + 1 + 1 := by rw [eW]; simp
  rw [← eW] at hv H0
  rw [← hwz] at hv
  have HK := Lib.hid (Blk.new W 26 #[.slice (some ⟨w.heap.size, 0, none⟩) 3 3, .slice (some ⟨w.heap.size + 1, 0, none⟩) 2 2, .slice none 0 0])
  have hb2 := (Below.refl W.heap.size W).alloc (Nat.le_refl _) (.cells #[.slice (some ⟨w.heap.size, 0, none⟩) 3 3, .slice (some ⟨w.heap.size + 1, 0, none⟩) 2 2, .slice none 0 0] 26)
  have c1 := walk_any tEx _ W.heap.size [65, 46, 69, 68, 85] [66, 46, 69, 68, 85] _ ex_sm (hv.below hb2) hb2.size (by decide) (by decide)
  rw [ex_walk.1, ex_walk.2] at c1
  have H := Lib.hid (H0.trans (hb2.mono H0.size))
  have IS := Lib.hid (fun w1 (h : Below W.heap.size W w1) => ist_any tEx _ W.heap.size w1 ex_sm (hv.below h) h.size)
  rw [ex_is] at IS
  have HW := Lib.hid hb2
  clear b1 r1 r2 hsz hv H0 hb2
  have eW' : W = (w.alloc (.cells #[.string ⟨#[65, 46, 69, 68, 85]⟩, .string ⟨#[69, 68, 85]⟩, .string ⟨#[66, 46, 69, 68, 85]⟩] 9)).alloc (.cells #[.string ⟨#[65, 46, 69, 68, 85]⟩, .string ⟨#[69, 68, 85]⟩, .string ⟨#[69, 68, 85]⟩, .string ⟨#[66, 46, 69, 68, 85]⟩] 43) := eW
  clear eW
  rw [hwz] at HK
  clear hwz
  subst eW'
  go_enter Try.func15, Try.ntmps15
  go_wp2_with (first
    | (go_at_call 19; refine Calls.mono c1 ?_; rintro e w1 ⟨u, rfl, ho, hb⟩; clear c1; have HO := Lib.hid ho; replace HK := Lib.hid (HK.out.below hb); replace H := Lib.hid (H.out.trans (hb.mono H.out.size)); replace HW := Lib.hid (HW.out.trans (hb.mono HW.out.size)); clear hb ho; have k0 := HK.out.cell 0; have k1 := HK.out.cell 1; have k2 := HK.out.cell 2; simp only [List.getElem?_toArray, List.getElem?_cons_zero, List.getElem?_cons_succ] at k0 k1 k2)
    | (go_at_call 13; refine Calls.mono (IS.out _ HW.out) ?_; rintro e w2 ⟨rfl, hb⟩; clear k0 k1 k2; replace HO := Lib.hid (HO.out.below hb); replace H := Lib.hid (H.out.trans (hb.mono H.out.size)); clear hb; have x2 := lit_sl w2 [[69, 68, 85]]; have hb2 := (Below.refl w2.heap.size w2).alloc (Nat.le_refl _) (.cells (strs [[69, 68, 85]]).toArray 9); have ho3 := own_sl (HO.out.below hb2); obtain ⟨A5, d5, eu, _, r5⟩ := ho3; subst eu; obtain ⟨A6, d6, e6, _, r6⟩ := x2; injection e6 with e6 _ e7; subst e6; have c3 := texts_same [[69, 68, 85]] A5 _ 1 1 d5 1 (w2.heap.size + 1) _ rfl rfl (by decide) (r5.more (by simp)) r6; replace H := Lib.hid (H.out.trans (hb2.mono H.out.size)); clear r5 r6 hb2 e7)
    | (go_at_call 23; refine Calls.mono c3 ?_; rintro e w4 ⟨rfl, hd⟩; clear c3; replace H := Lib.hid (H.out.trans (hd.below.mono H.out.size)); clear hd))
  go_ret
  exact ⟨rfl, H.out⟩
end Go.Proofs.Ytnalnhplcchdoaa.Rt
