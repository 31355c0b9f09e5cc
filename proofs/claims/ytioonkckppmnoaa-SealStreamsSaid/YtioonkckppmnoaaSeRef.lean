/-
  The document's own: a key's halves; a number's eight bytes, and back.
-/
import Derived.Test.YtioonkckppmnoaaSeOpen2
import Derived.Test.YtioonkckppmnoaaSpRef4
import Derived.RegionTactic
import Derived.Deep.RegionHeld3
set_option linter.unusedVariables false
namespace Go.Proofs.Ytioonkckppmnoaa.Se
open Go.RowKit Go.Proofs.Ytioonkckppmnoaa.Mem

/-- the first i bytes are laid -/
def hk (f : Nat → UInt8) (i j : Nat) : UInt8 := if j < i then f j else 0
theorem key16_at (f : Nat → UInt8) (j : Nat) (hj : j < 16) : (Sp.key16 f)[j]? = some (bv (f j)) := Sp.key16_at f j hj
theorem hk_set (f : Nat → UInt8) (i : Nat) (hi : i < 16) : (Sp.key16 (hk f i)).setIfInBounds i (bv (f i)) = Sp.key16 (hk f (i + 1)) := by
  unfold Sp.key16
  rw [List.setIfInBounds_toArray]
  congr 1
  apply List.ext_getElem?
  intro j
  rw [List.getElem?_set, List.getElem?_map, List.getElem?_map]
  by_cases hj : i = j
  · subst hj; simp [hi, hk]
  · rw [if_neg hj]
    rcases Nat.lt_or_ge j 16 with h | h
    · have e : (j < i) = (j < i + 1) := propext ⟨by omega, by omega⟩
      simp [h, hk, e]
    · rw [List.getElem?_eq_none (by simpa using h)]; rfl
theorem hk_all (f : Nat → UInt8) : Sp.key16 (hk f 16) = Sp.key16 f := Sp.key16_congr fun j hj => if_pos hj
theorem hk_none (f : Nat → UInt8) : Sp.key16 (hk f 0) = Sp.key16 (fun _ => 0) := Sp.key16_congr fun j hj => rfl
theorem key32_at' (f : Nat → UInt8) (j : Nat) (hj : j < 32) : (key32 f)[j]? = some (bv (f j)) := by
  rw [key32, List.getElem?_toArray]; simp [hj]
theorem results_two {P : Program} {fn : Func} {tmps : Array Value} {w : World} {v1 v2 : Value} (t1 t2 : Nat) (ty1 ty2 : TypeId) (a1 a2 : Addr) (hres : fn.results = #[.cell t1 ty1, .cell t2 ty2]) (ht1 : tmps.getD t1 undef = .pointer (some a1)) (ht2 : tmps.getD t2 undef = .pointer (some a2)) (hl1 : (loadVar ty1 a1).run P w = .ok v1 w) (hl2 : (loadVar ty2 a2).run P w = .ok v2 w) :
    (results fn tmps).run P w = .ok (.tuple #[v1, v2]) w := by
  have h1 : tmps[t1]?.getD undef = .pointer (some a1) := by simpa using ht1
  have h2 : tmps[t2]?.getD undef = .pointer (some a2) := by simpa using ht2
  simp [results, hres, h1, h2, asAddr, hl1, hl2]
set_option maxRecDepth 100000 in
set_option maxHeartbeats 3200000 in
theorem dhalves (ks : Nat → UInt8) (w : World) : Calls Try.prog 42 #[.agg (key32 ks)] w fun e w' => e = .returned (.tuple #[.agg (Sp.key16 ks), .agg (Sp.key16 (k2 ks))]) ∧ Below w.heap.size w w' := by
  obtain ⟨B, eB⟩ : ∃ B, B = w.heap.size := ⟨_, rfl⟩
  have EB := Lib.hid eB
  have hz16 : Sp.key16 (fun _ => 0) = #[.int .u8 0, .int .u8 0, .int .u8 0, .int .u8 0, .int .u8 0, .int .u8 0, .int .u8 0, .int .u8 0, .int .u8 0, .int .u8 0, .int .u8 0, .int .u8 0, .int .u8 0, .int .u8 0, .int .u8 0, .int .u8 0] := rfl
  have HZ := Lib.hid hz16; clear hz16
  obtain ⟨kc, ekc⟩ : ∃ kc, kc = key32 ks := ⟨_, rfl⟩
  rw [← ekc]
  have EK := Lib.hid ekc; clear ekc
  go_enter Try.func42, Try.ntmps42
  go_wp2_with fail
  rw [← eB]
  clear eB
  go_loopw [6] (fun iv wr => ∃ i : Nat, i ≤ 16 ∧ iv = .int .i64 (i : Int) ∧ Below B w wr ∧ wr.heap.size = B + 5 ∧ Blk wr B 26 kc ∧ Blk wr (B + 1) 46 (Sp.key16 (fun _ => 0)) ∧ Blk wr (B + 2) 46 (Sp.key16 (fun _ => 0)) ∧ Blk wr (B + 3) 46 (Sp.key16 (hk ks i)) ∧ Blk wr (B + 4) 46 (Sp.key16 (hk (k2 ks) i))) (fun iv _ => 16 - (intOf iv).toNat)
  case atStart =>
    have z1 : Blk (w.alloc (.cells kc 26)) B 26 kc := EB.out ▸ Blk.new w _ _
    have q0 : (w.alloc (.cells kc 26)).heap.size = B + 1 := by rw [EB.out]; simp
    have b0 : Below B w (w.alloc (.cells kc 26)) := EB.out ▸ (Below.refl w.heap.size w).alloc (Nat.le_refl _) _
    have key : ∀ (w1 : World) (n : Nat), w1.heap.size = n → Blk (w1.alloc (.cells (Sp.key16 fun _ => 0) 46)) n 46 (Sp.key16 fun _ => 0) ∧ (w1.alloc (.cells (Sp.key16 fun _ => 0) 46)).heap.size = n + 1 := fun w1 n h => ⟨h ▸ Blk.new w1 _ _, by rw [← h]; simp⟩
    obtain ⟨k1, q1⟩ := key _ _ q0
    obtain ⟨k2', q2⟩ := key _ _ q1
    obtain ⟨k3, q3⟩ := key _ _ q2
    obtain ⟨k4, q4⟩ := key _ _ q3
    refine ⟨0, by decide, rfl, ?_, q4, (((z1.alloc _).alloc _).alloc _).alloc _, ((k1.alloc _).alloc _).alloc _, (k2'.alloc _).alloc _, ?_, ?_⟩
    · exact (((b0.alloc (by have := EB.out; simp; omega) _).alloc (by have := EB.out; simp; omega) _).alloc (by have := EB.out; simp; omega) _).alloc (by have := EB.out; simp; omega) _
    · rw [hk_none]; exact k3.alloc _
    · rw [hk_none]; exact k4
  case round =>
    obtain ⟨i, hi, rfl, hb, hsz, h0, h1, h2, h3, h4⟩ := hrel
    have HB := Lib.hid hb; clear hb
    have HS := Lib.hid hsz; clear hsz
    by_cases hx : i = 16
    · subst hx
      rw [hk_all] at h3 h4
      obtain ⟨cs, ecs⟩ : ∃ cs, cs = (List.range 16).map (fun j => bv (ks j)) := ⟨_, rfl⟩
      obtain ⟨ds, eds⟩ : ∃ ds, ds = (List.range 16).map (fun j => bv (k2 ks j)) := ⟨_, rfl⟩
      have n3 : cs.length = 16 := by rw [ecs]; simp
      have n4 : ds.length = 16 := by rw [eds]; simp
      have o3 : ∀ v ∈ cs, v.oneCell' = true := by rw [ecs]; intro v hv; obtain ⟨j, _, rfl⟩ := List.mem_map.1 hv; rfl
      have o4 : ∀ v ∈ ds, v.oneCell' = true := by rw [eds]; intro v hv; obtain ⟨j, _, rfl⟩ := List.mem_map.1 hv; rfl
      have h3 : Blk wr (B + 3) 46 cs.toArray := by rw [ecs]; exact h3
      have h4 : Blk wr (B + 4) 46 ds.toArray := by rw [eds]; exact h4
      have r3 : wr.drew.rangeAt (B + 1 + 1 + 1) 0 cs := by have := Si.range_blk h3; simpa using this
      have r4 : wr.drew.rangeAt (B + 1 + 1 + 1 + 1) 0 ds := by have := Si.range_blk h4; simpa using this
      have t1 : wr.drew.there (B + 1) 0 16 := by have := Si.there_blk h1; rwa [key16_size] at this
      have t2 : wr.drew.there (B + 1 + 1) 0 16 := by have := Si.there_blk h2; rwa [key16_size] at this
      have u3 : (Try.prog.info? 46).map (·.size) = some cs.length := by rw [n3]; kernel_rfl
      have u4 : (Try.prog.info? 46).map (·.size) = some ds.length := by rw [n4]; kernel_rfl
      have hu16 := Try.underlying46
      have EC := Lib.hid ecs; clear ecs
      have ED := Lib.hid eds; clear eds
      clear h0 h1 h2 h3 h4
      go_wp2_with fail
      refine wp_region_held_drew (S := fun w' => w'.rangeAt (B + 1 + 1 + 1) 0 cs ∧ w'.rangeAt (B + 1 + 1 + 1 + 1) 0 ds ∧ w'.there (B + 1) 0 16 ∧ w'.there (B + 1 + 1) 0 16) (by kernel_rfl) ⟨r3, r4, t1, t2⟩ (fun hHeld => ?_)
      refine wpAnyH_take (i := 0) (v := .agg cs.toArray) rfl (by kernel_rfl) (by kernel_rfl) (by kernel_rfl) (fun _ _ _ h => h) (yieldsIf_load_mid (by rfl) 46 (.tmp 4) rfl (B + 1 + 1 + 1) 0 rfl cs _ (fun _ h => h.1) hu16 rfl u3) hHeld ?_
      refine wpAnyH_take (i := 1) (v := .agg ds.toArray) rfl (by kernel_rfl) (by kernel_rfl) (by kernel_rfl) (fun _ _ _ h => h) (yieldsIf_load_mid (by rfl) 46 (.tmp 5) rfl (B + 1 + 1 + 1 + 1) 0 rfl ds _ (fun _ h => h.2.1) hu16 rfl u4) hHeld ?_
      refine wpAnyH_ready (rs := [2]) (by kernel_rfl) (by simp) ?_
      refine AllReadyH.cons (o := _) rfl (fun K hK => ?_) AllReadyH.nil
      rw [if_pos (by rfl)]
      refine wp_store_mid 46 _ _ rfl (B + 1) 0 cs.toArray rfl rfl (by rw [List.size_toArray, n3]; exact hHeld.2.2.1) (by rw [List.size_toArray]; exact u3) (all_oneCell_toArray o3) ?_
      refine hK.out _ _ ⟨World.rangeAt_setCells_apart hHeld.1 _ _ _ (.inl (by omega)), World.rangeAt_setCells_apart hHeld.2.1 _ _ _ (.inl (by omega)), World.there_setCells hHeld.2.2.1 _ _ _, World.there_setCells hHeld.2.2.2 _ _ _⟩ (fun hHeld2 => ?_)
      clear hK K
      refine wpAnyH_ready (rs := [3]) (by kernel_rfl) (by simp) ?_
      refine AllReadyH.cons (o := _) rfl (fun K hK => ?_) AllReadyH.nil
      rw [if_pos (by rfl)]
      refine wp_store_mid 46 _ _ rfl (B + 1 + 1) 0 ds.toArray rfl rfl (by rw [List.size_toArray, n4]; exact hHeld2.2.2.2) (by rw [List.size_toArray]; exact u4) (all_oneCell_toArray o4) ?_
      refine hK.out _ _ ⟨World.rangeAt_setCells_apart hHeld2.1 _ _ _ (.inl (by omega)), World.rangeAt_setCells_apart hHeld2.2.1 _ _ _ (.inl (by omega)), World.there_setCells hHeld2.2.2.1 _ _ _, World.there_setCells hHeld2.2.2.2 _ _ _⟩ (fun hHeld3 => ?_)
      clear hK K
      refine wpAnyH_done (by kernel_rfl) ?_ _
      have hR1 : ((wr.drew.setCells (B + 1) 0 cs).setCells (B + 1 + 1) 0 ds).rangeAt (B + 1) 0 cs := World.rangeAt_setCells_apart (World.rangeAt_setCells_same _ _ _ _ (by rw [n3]; exact t1)) _ _ _ (.inl (by omega))
      have hR2 : ((wr.drew.setCells (B + 1) 0 cs).setCells (B + 1 + 1) 0 ds).rangeAt (B + 1 + 1) 0 ds := World.rangeAt_setCells_same _ _ _ _ (by rw [n4]; exact hHeld2.2.2.2)
      have hBW : Below B w ((wr.drew.setCells (B + 1) 0 cs).setCells (B + 1 + 1) 0 ds) := Si.below_setCells _ (by omega) _ _ _ (Si.below_setCells _ (by omega) _ _ _ (below_drewN HB.out 1))
      change Exit.then _ _ Exit.normal _ ((wr.drew.setCells (B + 1) 0 cs).setCells (B + 1 + 1) 0 ds)
      generalize (wr.drew.setCells (B + 1) 0 cs).setCells (B + 1 + 1) 0 ds = W3 at hR1 hR2 hBW ⊢
      clear hHeld hHeld2 hHeld3 r3 r4 t1 t2
      have q1 := run_loadVar_mid (P := Try.prog) W3 (B + 1) 0 46 cs _ hR1 hu16 rfl u3
      have q2 := run_loadVar_mid (P := Try.prog) W3 (B + 1 + 1) 0 46 ds _ hR2 hu16 rfl u4
      have Q1 := Lib.hid q1; clear q1
      have Q2 := Lib.hid q2; clear q2
      have BW := Lib.hid hBW; clear hBW
      clear hR1 hR2 u3 u4 hu16 n3 n4 o3 o4 h3 h4
      go_wp2_with fail
      refine bodyPost_ret (v := .tuple #[.agg cs.toArray, .agg ds.toArray]) (results_two 2 3 46 46 ⟨B + 1, 0, none⟩ ⟨B + 1 + 1, 0, none⟩ Try.results42 (by rfl) (by rfl) Q1.out Q2.out) (by rfl) ?_
      exact ⟨by rw [EC.out, ED.out]; rfl, EB.out ▸ BW.out⟩
    · have e1 : (i : Int) < 16 := by omega
      have e2 : (0 : Int) ≤ (i : Int) := by omega
      have e3 : i < 16 := by omega
      have e4 : (16 : Int) + (i : Int) < 32 := by omega
      have e5 : (0 : Int) ≤ (16 : Int) + (i : Int) := by omega
      have e6 : 16 + i < 32 := by omega
      have e7 : i < 32 := by omega
      obtain ⟨x, ex⟩ : ∃ x, x = ks i := ⟨_, rfl⟩
      obtain ⟨y, ey⟩ : ∃ y, y = ks (16 + i) := ⟨_, rfl⟩
      have g0 : wr.cell? ⟨B, i, none⟩ = some (.int .u8 (x.toNat : Int)) := by rw [h0.cell, EK.out, key32_at' ks i e7, ex]; rfl
      have g1 : wr.cell? ⟨B, 16 + i, none⟩ = some (.int .u8 (y.toNat : Int)) := by rw [h0.cell, EK.out, key32_at' ks (16 + i) e6, ey]; rfl
      have f3 := h3.frozen
      have f4 := h4.frozen
      have c3 := h3.cell i
      have c4 := h4.cell i
      rw [key16_at _ _ e3] at c3 c4
      simp only [bv] at c3 c4
      have H0 := Lib.hid h0; clear h0
      have H1 := Lib.hid h1; clear h1
      have H2 := Lib.hid h2; clear h2
      have H3 := Lib.hid h3; clear h3
      have H4 := Lib.hid h4; clear h4
      have hw : IntKind.i64.wrap ((16 : Int) + (i : Int)) = (16 : Int) + (i : Int) := by rw [IntKind.wrap_i64]; omega
      have EX := Lib.hid ex; clear ex
      have EY := Lib.hid ey; clear ey
      have HX := Lib.hid hx; clear hx
      have HI := Lib.hid hi; clear hi
      go_wp2_with fail
      go_region
      all_goals go_wp2_with fail
      all_goals
        go_roundw
        case rel =>
          have s3 := H3.out.set i (bv x)
          rw [EX.out, hk_set ks i e3, ← EX.out] at s3
          have s4 := (Si.Blk.far H4.out ⟨B + 3, i, none⟩ (bv x) (by simp)).set i (bv y)
          rw [EY.out, show ks (16 + i) = k2 ks i from rfl, hk_set (k2 ks) i e3] at s4
          refine ⟨i + 1, by omega, by go_num, ?_, ?_, ?_, ?_, ?_, ?_, ?_⟩
          · exact below_drewN (Si.below_set (Si.below_set HB.out (by simp; omega) _) (by simp; omega) _) 1
          · simpa [World.setCell] using HS.out
          · exact Si.Blk.far (Si.Blk.far H0.out ⟨B + 3, i, none⟩ _ (show B + 3 ≠ B by omega)) ⟨B + 4, i, none⟩ _ (show B + 4 ≠ B by omega)
          · exact Si.Blk.far (Si.Blk.far H1.out ⟨B + 3, i, none⟩ _ (show B + 3 ≠ B + 1 by omega)) ⟨B + 4, i, none⟩ _ (show B + 4 ≠ B + 1 by omega)
          · exact Si.Blk.far (Si.Blk.far H2.out ⟨B + 3, i, none⟩ _ (show B + 3 ≠ B + 2 by omega)) ⟨B + 4, i, none⟩ _ (show B + 4 ≠ B + 2 by omega)
          · exact Si.Blk.far s3 ⟨B + 4, i, none⟩ _ (show B + 4 ≠ B + 3 by omega)
          · exact (by have e := s4; rw [show bv (k2 ks i) = bv y from by rw [EY.out]; rfl] at e; exact e)
        case measure => simp [intOf]; omega
end Go.Proofs.Ytioonkckppmnoaa.Se
