/-
  The law's own key of some bytes; what every law of chapter 4 ends with.
-/
import Derived.Test.YtioonkckppmnoaaSeOpen2
set_option linter.unusedVariables false
namespace Go.Proofs.Ytioonkckppmnoaa.Se
open Go.RowKit Go.Proofs.Ytioonkckppmnoaa.Mem

def ksOf (l : List UInt8) (i : Nat) : UInt8 := l.getD i 0
def ksTo (l : List UInt8) (n : Nat) (i : Nat) : UInt8 := if i < n then l.getD i 0 else 0
theorem key32_at (f : Nat → UInt8) (j : Nat) (hj : j < 32) : (key32 f)[j]? = some (bv (f j)) := by
  rw [key32, List.getElem?_toArray]; simp [hj]
theorem key32_congr {f g : Nat → UInt8} (h : ∀ j, j < 32 → f j = g j) : key32 f = key32 g := by
  unfold key32
  congr 1
  apply List.map_congr_left
  intro j hj
  rw [h j (by simpa using hj)]
theorem key32_set (l : List UInt8) (i : Nat) (hi : i < l.length) : (key32 (ksTo l i)).setIfInBounds i (bv l[i]) = key32 (ksTo l (i + 1)) := by
  unfold key32
  rw [List.setIfInBounds_toArray]
  congr 1
  apply List.ext_getElem?
  intro j
  rw [List.getElem?_set, List.getElem?_map, List.getElem?_map]
  by_cases hj : i = j
  · subst hj
    rcases Nat.lt_or_ge i 32 with h | h
    · simp [h, ksTo, hi]
    · simp [Nat.not_lt.2 h]
  · rw [if_neg hj]
    rcases Nat.lt_or_ge j 32 with h | h
    · have e : (j < i) = (j < i + 1) := propext ⟨by omega, by omega⟩
      simp [h, ksTo, e]
    · rw [List.getElem?_eq_none (by simpa using h)]; rfl
theorem ksTo_done (l : List UInt8) (i : Nat) (h : i = 32 ∨ l.length ≤ i) : key32 (ksTo l i) = key32 (ksOf l) := by
  refine key32_congr fun j hj => ?_
  unfold ksTo ksOf
  rcases h with h | h
  · rw [if_pos (by omega)]
  · by_cases hji : j < i
    · rw [if_pos hji]
    · rw [if_neg hji, List.getD_eq_getElem?_getD, List.getElem?_eq_none (by omega)]; rfl
set_option maxRecDepth 100000 in
set_option maxHeartbeats 1600000 in
theorem key_any (A : Option Addr) (n c : Nat) (l : List UInt8) (w : World) (hn : n = l.length) (hr : Rd w w.heap.size A (bvs l)) :
    Calls Try.prog 13 #[.slice A n c] w fun e w' => e = .returned (.agg (key32 (ksOf l))) ∧ Below w.heap.size w w' := by
  have HR := Lib.hid hr; clear hr
  have HN := Lib.hid hn; clear hn
  obtain ⟨B, eB⟩ : ∃ B, B = w.heap.size := ⟨_, rfl⟩
  have EB := Lib.hid eB
  have e0 : key32 (fun _ => 0) = key32 (ksTo l 0) := key32_congr fun j _ => rfl
  have h0 : Blk ((w.alloc (.cells (key32 fun _ => 0) 26)).alloc (.cells (key32 fun _ => 0) 26)) B 26 (key32 fun _ => 0) := eB ▸ (Blk.new w _ _).alloc _
  have h1 : Blk ((w.alloc (.cells (key32 fun _ => 0) 26)).alloc (.cells (key32 fun _ => 0) 26)) (B + 1) 26 (key32 (ksTo l 0)) := Si.Blk.new_of _ _ _ _ _ e0 (by simp [eB])
  have hb : Below B w ((w.alloc (.cells (key32 fun _ => 0) 26)).alloc (.cells (key32 fun _ => 0) 26)) := eB ▸ ((Below.refl w.heap.size w).alloc (Nat.le_refl _) _).alloc (by simp) _
  have hsz : ((w.alloc (.cells (key32 fun _ => 0) 26)).alloc (.cells (key32 fun _ => 0) 26)).heap.size = B + 2 := by simp [eB]
  have H0 := Lib.hid h0; clear h0
  have H1 := Lib.hid h1; clear h1
  have HB := Lib.hid hb; clear hb
  clear e0 hsz
  go_enter Try.func13, Try.ntmps13
  go_wp2_with fail
  rw [← eB]
  clear eB
  go_loopw [4] (fun iv wr => ∃ i : Nat, i ≤ 32 ∧ i ≤ n ∧ iv = .int .i64 (i : Int) ∧ Below B w wr ∧ Blk wr (B + 1) 26 (key32 (ksTo l i)) ∧ Blk wr B 26 (key32 (fun _ => 0))) (fun iv _ => 32 - (intOf iv).toNat)
  case atStart => exact ⟨0, by decide, Nat.zero_le _, rfl, HB.out, H1.out, H0.out⟩
  case round =>
    obtain ⟨i, hi, hin, rfl, hb, hB1, hB0⟩ := hrel
    have HW := Lib.hid hb; clear hb
    by_cases hx : i = 32 ∨ i = n
    · have e := ksTo_done l i (by rcases hx with h | h; exact .inl h; exact .inr (by have := HN.out; omega))
      rw [e] at hB1
      have i1 := info32 (ksOf l)
      have o1 := one32 (ksOf l)
      have z1 := key32_size (ksOf l)
      have z0 := key32_size (fun _ => 0)
      obtain ⟨cs, ecs⟩ : ∃ cs, cs = key32 (ksOf l) := ⟨_, rfl⟩
      rw [← ecs] at hB1 i1 o1 z1
      have hR : wr.rangeAt (B + 1) 0 cs.toList := Si.range_blk hB1
      have hT : wr.there B 0 cs.size := by
        have := Si.there_blk hB0
        rwa [z0, ← z1] at this
      have HRR := Lib.hid hR; clear hR
      have HT := Lib.hid hT; clear hT
      have I1 := Lib.hid i1; clear i1
      have O1 := Lib.hid o1; clear o1
      have EC := Lib.hid ecs; clear ecs
      have t : (decide ((i : Int) < 32) = false) ∨ (decide ((i : Int) < 32) = true ∧ decide (i < n) = false) := by
        rcases hx with h | h
        · exact .inl (by simp; omega)
        · rcases Nat.lt_or_ge i 32 with h2 | h2
          · exact .inr ⟨by simp; omega, by simp; omega⟩
          · exact .inl (by simp; omega)
      clear hB1 hB0 e hi hin hx z1 z0
      rcases t with t | ⟨t, t2⟩ <;> (
        go_wp2_with (first
          | (refine load_cells (by rfl) 26 (.tmp 3) (by rfl) (B + 1) 0 (by rfl) cs _ HRR.out Try.underlying26 (by rfl) I1.out ?_)
          | (refine wpList_store_mid (by rfl) 26 (.tmp 2) (.tmp 21) (by rfl) B 0 cs (by rfl) (by rfl) HT.out I1.out O1.out ?_)
          | fail)
        have hq := run_loadVar_mid (P := Try.prog) (wr.setCells B 0 cs.toList) B 0 26 cs.toList _ (World.rangeAt_setCells_same wr B 0 cs.toList (by rw [Array.length_toList]; exact HT.out)) Try.underlying26 rfl (by rw [Array.length_toList]; exact I1.out)
        refine bodyPost_ret (v := .agg cs) ?_ ?_ ?_
        · exact Si.results_cell (v := .agg cs) 2 26 ⟨B, 0, none⟩ Try.results13 (by rfl) hq
        · rfl
        · exact ⟨by rw [EC.out], EB.out ▸ Si.below_setCells B (Nat.le_refl _) _ _ _ HW.out⟩)
    · have h16 : i < 32 := by omega
      have hlt : i < n := by omega
      have hll : i < l.length := by have := HN.out; omega
      have e1 : (i : Int) < 32 := by omega
      have e2 : (i : Int) < (n : Int) := by omega
      have e3 : (0 : Int) ≤ (i : Int) := by omega
      have hr := HR.out
      rw [← EB.out] at hr
      obtain ⟨b, o, rfl, hbB, hcell⟩ := hr.at_ (bvs_at hll)
      have hc : wr.cell? ⟨b, o + i, none⟩ = some (.int .u8 ((l[i]).toNat : Int)) := (HW.out.cell (p := ⟨b, o + i, none⟩) hbB).trans hcell
      have hy := hB1.cell i
      rw [key32_at _ _ h16] at hy
      simp only [bv] at hy
      have f1 := hB1.frozen
      have HX := Lib.hid hx; clear hx
      have HI := Lib.hid hi; clear hi
      have HI2 := Lib.hid hin; clear hin
      have HB1 := Lib.hid hB1; clear hB1
      have HB0 := Lib.hid hB0; clear hB0
      clear hr hcell
      go_wp2_with fail
      go_roundw
      case rel =>
        refine ⟨i + 1, by omega, by omega, by go_num, ?_, ?_, ?_⟩
        · exact Si.below_set HW.out (by simp) _
        · have := HB1.out.set i (bv l[i])
          rw [key32_set l i hll] at this
          exact this
        · exact Si.Blk.far HB0.out _ _ (by simp)
      case measure => simp [intOf]; omega
end Go.Proofs.Ytioonkckppmnoaa.Se
