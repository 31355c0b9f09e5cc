/-
  The code's own of chapter 9: New, Len, Last, a principal's copy.
-/
import Derived.Test.YtcjibpjdfhhhkaaRgBox
set_option linter.unusedVariables false
set_option linter.unusedSimpArgs false
namespace Go.Proofs.Ytcjibpjdfhhhkaa.Rg
open Go.RowKit Go.Proofs.Ytcjibpjdfhhhkaa.Mem Go.Proofs.Ytcjibpjdfhhhkaa.Se

theorem ring_new (B : Nat) (w : World) (hB : B ≤ w.heap.size) : Calls Try.prog 8 #[] w fun e w' => ∃ r, e = .returned (.pointer (some ⟨r, 0, none⟩)) ∧ w.heap.size ≤ r ∧ Ring w' B r (.slice none 0 0) [] ∧ Below w.heap.size w w' := by
  have hb := (Below.refl w.heap.size w).alloc (Nat.le_refl _) (.cells #[.slice none 0 0] 58)
  have hk := Blk.new w 58 #[.slice none 0 0]
  have HB := Lib.hid hb; clear hb
  have HK := Lib.hid hk; clear hk
  go_enter Try.func8, Try.ntmps8
  go_wp2
  go_ret
  exact ⟨_, rfl, Nat.le_refl _, ⟨HK.out, World.ownsRow_nil _ _ _ _, hB, by simp [Value.ownBlock], fun i e h => by simp at h, fun i e h => by simp at h, fun i j e f h => by simp at h⟩, HB.out⟩
theorem len_any (B r : Nat) (v : Value) (es : List Ent) (w : World) (h : Ring w B r v es) :
    Calls Try.prog 17 #[.pointer (some ⟨r, 0, none⟩)] w fun e w' => e = .returned (.int .i64 (es.length : Int)) ∧ w' = w := by
  obtain ⟨A, c, rfl, hc, hm, hr⟩ := h.num
  have k0 : w.cell? ⟨r, 0, none⟩ = some (.slice A es.length c) := h.blk.cell 0
  clear h hr
  obtain ⟨n, en⟩ : ∃ n, n = es.length := ⟨_, rfl⟩
  rw [← en] at k0 ⊢
  clear en hc
  go_enter Try.func17, Try.ntmps17
  go_wp2
  go_ret
  exact ⟨rfl, rfl⟩
theorem len_nil (w : World) : Calls Try.prog 17 #[.pointer none] w fun e w' => e = .returned (.int .i64 0) ∧ w' = w := by
  go_enter Try.func17, Try.ntmps17
  go_wp2
  go_ret
  exact ⟨rfl, rfl⟩
theorem lastp_nil (p : Pr) (w : World) : Calls Try.prog 12 #[.pointer none, prV p] w fun e w' => e = .returned (.tuple #[.pointer none, .int .i64 0, .int .i64 4]) ∧ Below w.heap.size w w' := by
  have hb := (Below.refl w.heap.size w).alloc (Nat.le_refl _) (.cells #[.string ⟨p.1.toArray⟩, .string ⟨p.2.toArray⟩] 25)
  go_enter Try.func12, Try.ntmps12
  go_wp2
  go_ret3
  exact ⟨rfl, hb⟩
set_option maxHeartbeats 1600000 in
theorem lastp_hit {B r : Nat} {v : Value} {es : List Ent} {p : Pr} {w : World} {i : Nat} {x : Ent} (h : Ring w B r v es) (hl : es.length ≤ 1000) (hf : lastI (its es) p = some i) (hx : es[i]? = some x) :
    Calls Try.prog 12 #[.pointer (some ⟨r, 0, none⟩), prV p] w fun e w' => e = .returned (.tuple #[.pointer (some ⟨x.b, 0, none⟩), .int .i64 (x.it.n : Int), .int .i64 0]) ∧ Below w.heap.size w w' := by
  have hb := (Below.refl w.heap.size w).alloc (Nat.le_refl _) (.cells #[.string ⟨p.1.toArray⟩, .string ⟨p.2.toArray⟩] 25)
  have c1 := last_any B r v es p _ (h.below hb) hl
  rw [hf, entC_at hx] at c1
  have HA1 := Lib.hid (eA_one x)
  have HSS := Lib.hid (eA_size x)
  have his := ent_info
  rw [← eA_size x] at his
  have HIS := Lib.hid his
  obtain ⟨cs, ecs⟩ : ∃ cs, cs = eA x := ⟨_, rfl⟩
  rw [← ecs] at c1 HA1 HIS HSS
  have ECS := Lib.hid ecs
  have HB := Lib.hid hb
  clear h hf hx hb his ecs
  go_enter Try.func12, Try.ntmps12
  go_wp2_with (first
    | (go_at_call 20; refine Calls.mono c1 ?_; rintro e w1 ⟨rfl, hb1⟩; replace HB := Lib.hid (HB.out.trans (hb1.mono HB.out.size)); clear c1 hb1)
    | (refine Wh.store_new (by rfl) 60 (.tmp 7) (.tmp 12) (by rfl) 60 rfl cs (by rfl) (by rfl) (by rw [HSS.out]; rfl) HIS.out HA1.out ?_; rintro V hV hb; replace HB := Lib.hid (HB.out.trans (hb.mono HB.out.size)); have kn := eA_n (ECS.out ▸ hV); have kb := eA_b (ECS.out ▸ hV); clear hV hb)
    | fail)
  go_quiet (fail)
  go_wp2
  go_ret3
  exact ⟨rfl, below_drewN HB.out _⟩
set_option maxHeartbeats 1600000 in
theorem lastp_miss {B r : Nat} {v : Value} {es : List Ent} {p : Pr} {w : World} (h : Ring w B r v es) (hl : es.length ≤ 1000) (hf : lastI (its es) p = none) :
    Calls Try.prog 12 #[.pointer (some ⟨r, 0, none⟩), prV p] w fun e w' => e = .returned (.tuple #[.pointer none, .int .i64 0, .int .i64 4]) ∧ Below w.heap.size w w' := by
  have hb := (Below.refl w.heap.size w).alloc (Nat.le_refl _) (.cells #[.string ⟨p.1.toArray⟩, .string ⟨p.2.toArray⟩] 25)
  have c1 := last_any B r v es p _ (h.below hb) hl
  rw [hf, show entC es none = zeroE from rfl] at c1
  have HA1 := Lib.hid zeroE_one
  have HSS := Lib.hid (show zeroE.size = 36 from rfl)
  have his := ent_info
  rw [← HSS.out] at his
  have HIS := Lib.hid his
  obtain ⟨cs, ecs⟩ : ∃ cs, cs = zeroE := ⟨_, rfl⟩
  rw [← ecs] at c1 HA1 HIS HSS
  have ECS := Lib.hid ecs
  have HB := Lib.hid hb
  clear h hf hb his ecs
  go_enter Try.func12, Try.ntmps12
  go_wp2_with (first
    | (go_at_call 20; refine Calls.mono c1 ?_; rintro e w1 ⟨rfl, hb1⟩; replace HB := Lib.hid (HB.out.trans (hb1.mono HB.out.size)); clear c1 hb1)
    | (refine Wh.store_new (by rfl) 60 (.tmp 7) (.tmp 12) (by rfl) 60 rfl cs (by rfl) (by rfl) (by rw [HSS.out]; rfl) HIS.out HA1.out ?_; rintro V hV hb; replace HB := Lib.hid (HB.out.trans (hb.mono HB.out.size)); have kb : V.cell? ⟨w1.heap.size, 35, none⟩ = some (.pointer none) := by { rw [hV.cell, ECS.out]; rfl }; clear hV hb)
    | fail)
  go_ret3
  exact ⟨rfl, HB.out⟩
set_option maxHeartbeats 1600000 in
theorem clone_pr (p : Pr) (w : World) (h1 : p.1.length ≤ 1000000000) (h2 : p.2.length ≤ 1000000000) : Calls Try.prog 21 #[prV p] w fun e w' => e = .returned (prV p) ∧ Below w.heap.size w w' := by
  have C1 := Lib.hid (fun w1 => Nm.clone_any p.1 w1 h1)
  have C2 := Lib.hid (fun w1 => Nm.clone_any p.2 w1 h2)
  go_enter Try.func21, Try.ntmps21
  go_upto_region 1 with fail
  obtain ⟨W, eW⟩ : ∃ W, W = (w.alloc (.cells #[.string ⟨p.1.toArray⟩, .string ⟨p.2.toArray⟩] 25)).alloc (.cells #[.string ⟨#[]⟩, .string ⟨#[]⟩] 25) := ⟨_, rfl⟩
  have hq := Blk.new (w.alloc (.cells #[.string ⟨p.1.toArray⟩, .string ⟨p.2.toArray⟩] 25)) 25 #[.string ⟨#[]⟩, .string ⟨#[]⟩]
  rw [show (w.alloc (.cells #[.string ⟨p.1.toArray⟩, .string ⟨p.2.toArray⟩] 25)).heap.size = w.heap.size + 1 by simp, ← eW] at hq
  have HK := Lib.hid (show Blk W w.heap.size 25 #[.string ⟨p.1.toArray⟩, .string ⟨p.2.toArray⟩] by rw [eW]; exact (Blk.new _ _ _).alloc _)
  have HZ := Lib.hid hq
  have HB := Lib.hid (show Below w.heap.size w W by rw [eW]; exact ((Below.refl _ _).alloc (Nat.le_refl _) _).alloc (by simp) _)
  rw [← eW]
  clear eW hq
  replace HK := Lib.hid (show Blk W.drew _ _ _ from HK.out.drewN 1)
  replace HZ := Lib.hid (show Blk W.drew _ _ _ from HZ.out.drewN 1)
  replace HB := Lib.hid (show Below _ _ W.drew from below_drewN HB.out 1)
  go_region_held3 (fun w' => w'.cell? ⟨w.heap.size, 0, none⟩ = some (.string ⟨p.1.toArray⟩) ∧ w'.cell? ⟨w.heap.size, 1, none⟩ = some (.string ⟨p.2.toArray⟩)) (first | exact ⟨HK.out.cell 0, HK.out.cell 1⟩ | exact ⟨(Si.Blk.far (Si.Blk.far HK.out _ _ (by simp)) _ _ (by simp)).cell 0, (Si.Blk.far (Si.Blk.far HK.out _ _ (by simp)) _ _ (by simp)).cell 1⟩) ((first
    | (go_at_call 38; (with_reducible refine Calls.mono (C1.out _) ?_); rintro e w1 ⟨rfl, hb⟩; clear C1; replace HK := Lib.hid (HK.out.below hb); replace HZ := Lib.hid (HZ.out.below hb); replace HB := Lib.hid (HB.out.trans (hb.mono HB.out.size)); have kz0 : w1.cell? ⟨w.heap.size + 1, 0, none⟩ = some (.string ⟨#[]⟩) := HZ.out.cell 0; have kz1 : w1.cell? ⟨w.heap.size + 1, 1, none⟩ = some (.string ⟨#[]⟩) := HZ.out.cell 1; have fz := HZ.out.frozen; clear hb)
    | (go_at_call 38; (with_reducible refine Calls.mono (C2.out _) ?_); rintro e w2 ⟨rfl, hb⟩; clear C2 kz0 kz1 fz; replace HK := Lib.hid (HK.out.below hb); replace HZ := Lib.hid (HZ.out.below hb); replace HB := Lib.hid (HB.out.trans (hb.mono HB.out.size)); have kz0 : w2.cell? ⟨w.heap.size + 1, 0, none⟩ = some (.string ⟨#[]⟩) := HZ.out.cell 0; have kz1 : w2.cell? ⟨w.heap.size + 1, 1, none⟩ = some (.string ⟨#[]⟩) := HZ.out.cell 1; have fz := HZ.out.frozen; clear hb)))
  go_wp2
  have hz := (HZ.out.set 0 (.string ⟨p.1.toArray⟩)).set 1 (.string ⟨p.2.toArray⟩)
  rw [show (((#[.string ⟨#[]⟩, .string ⟨#[]⟩] : Array Value).setIfInBounds 0 (.string ⟨p.1.toArray⟩)).setIfInBounds 1 (.string ⟨p.2.toArray⟩)) = #[.string ⟨p.1.toArray⟩, .string ⟨p.2.toArray⟩] from rfl] at hz
  refine bodyPost_ret (v := prV p) ?_ ?_ ?_
  · exact Wh.results_cell (v := prV p) 2 25 ⟨w.heap.size + 1, 0, none⟩ Try.results21 (by rfl) (Wh.load_blk hz Try.underlying25 (by rfl) pr_info)
  · rfl
  · exact ⟨rfl, Si.below_set (Si.below_set HB.out (by simp) _) (by simp) _⟩
end Go.Proofs.Ytcjibpjdfhhhkaa.Rg
