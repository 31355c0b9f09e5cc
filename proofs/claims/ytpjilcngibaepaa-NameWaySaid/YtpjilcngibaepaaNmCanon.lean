/-
  Canon of chapter 5, the code's and the document's own.
-/
import Derived.Test.YtpjilcngibaepaaNmKind
import Derived.Deep.LoopGhost
set_option linter.unusedVariables false
namespace Go.Proofs.Ytpjilcngibaepaa.Nm
open Go.RowKit Go.Proofs.Ytpjilcngibaepaa.Mem

def up8 (b : UInt8) : UInt8 := if smallB b then UInt8.ofNat (b.toNat - 32) else b
def low8 (b : UInt8) : UInt8 := if capB b then UInt8.ofNat (b.toNat + 32) else b
theorem smallB_iff (b : UInt8) : smallB b = true ↔ 97 ≤ b.toNat ∧ b.toNat ≤ 122 := by simp [smallB]
theorem capB_iff (b : UInt8) : capB b = true ↔ 65 ≤ b.toNat ∧ b.toNat ≤ 90 := by simp [capB]
theorem up8_small {b : UInt8} (h : smallB b = true) : (up8 b).toNat = b.toNat - 32 := by
  have := (smallB_iff b).1 h
  rw [up8, if_pos h, UInt8.toNat_ofNat']; omega
theorem up8_other {b : UInt8} (h : smallB b = false) : up8 b = b := by rw [up8, if_neg (by simp [h])]
theorem low8_cap {b : UInt8} (h : capB b = true) : (low8 b).toNat = b.toNat + 32 := by
  have := (capB_iff b).1 h
  rw [low8, if_pos h, UInt8.toNat_ofNat']; omega
theorem low8_other {b : UInt8} (h : capB b = false) : low8 b = b := by rw [low8, if_neg (by simp [h])]
def canonL (l : L) : L := l.map up8
theorem up8_up8 (b : UInt8) : up8 (up8 b) = up8 b := by
  cases h : smallB b with
  | false => rw [up8_other h, up8_other h]
  | true =>
    have h1 := up8_small h
    have h2 := (smallB_iff b).1 h
    refine up8_other ?_
    simp [smallB]; omega
theorem up8_low8 (b : UInt8) : up8 (low8 b) = up8 b := by
  cases h : capB b with
  | false => rw [low8_other h]
  | true =>
    have h1 := low8_cap h
    have h2 := (capB_iff b).1 h
    have h3 : smallB (low8 b) = true := by rw [smallB_iff]; omega
    have h4 : smallB b = false := by simp [smallB]; omega
    apply UInt8.toNat_inj.1
    rw [up8_small h3, up8_other h4, h1]; omega

/-- the first k turned -/
def mapK (f : UInt8 → UInt8) (l : L) (k : Nat) : L := (l.take k).map f ++ l.drop k
theorem mapK_zero (f : UInt8 → UInt8) (l : L) : mapK f l 0 = l := by simp [mapK]
theorem mapK_all (f : UInt8 → UInt8) (l : L) : mapK f l l.length = l.map f := by simp [mapK]
theorem mapK_length (f : UInt8 → UInt8) (l : L) (k : Nat) : (mapK f l k).length = l.length := by simp [mapK]; omega
theorem mapK_at (f : UInt8 → UInt8) (l : L) (k : Nat) (h : k < l.length) (h' : k < (mapK f l k).length) : (mapK f l k)[k] = l[k] := by
  simp only [mapK]
  rw [List.getElem_append_right (by simp; omega)]
  simp [Nat.min_eq_left (Nat.le_of_lt h)]
theorem mapK_step (f : UInt8 → UInt8) (l : L) (k : Nat) (h : k < l.length) : (mapK f l k).set k (f l[k]) = mapK f l (k + 1) := by
  simp only [mapK]
  have e : k - (List.map f (l.take k)).length = 0 := by simp; omega
  rw [List.set_append_right _ _ (by simp; omega), e, List.take_succ_eq_append_getElem h, List.map_append, List.drop_eq_getElem_cons h, List.set_cons_zero]
  simp
theorem mapK_same (f : UInt8 → UInt8) (l : L) (k : Nat) (h : k < l.length) (e : f l[k] = l[k]) : mapK f l (k + 1) = mapK f l k := by
  rw [← mapK_step f l k h, e]
  apply List.ext_getElem (by simp)
  intro i h1 h2
  rw [List.getElem_set]
  split
  · rename_i q; subst q; rw [mapK_at f l k h]
  · rfl

theorem fresh_set {w : World} {base b : Nat} {l : L} (h : Fresh w base b l) (i : Nat) (hi : i < l.length) (x : UInt8) : Fresh (w.setCell ⟨b, i, none⟩ (.int .u8 (x.toNat : Int))) base b (l.set i x) := by
  refine ⟨h.1, by simpa using h.2.1, fun j hj => ?_⟩
  have hj' : j < l.length := by simpa using hj
  refine ⟨?_, by rw [World.frozen?_setCell]; exact (h.2.2 j hj').2⟩
  rw [List.getElem_set]
  by_cases q : i = j
  · subst q
    rw [if_pos rfl, World.cell?_setCell_same _ _ _ (h.2.2 i hi).1]; rfl
  · rw [if_neg q, World.cell?_setCell_other _ _ _ _ (by intro e; injection e with _ e _; exact q e)]
    exact (h.2.2 j hj').1
theorem fresh_below_set {w w' : World} {base b : Nat} (h : Below base w w') (hb : base ≤ b) (i : Nat) (u : Value) : Below base w (w'.setCell ⟨b, i, none⟩ u) := h.setCell (by simpa using hb) _

set_option maxHeartbeats 1600000 in
set_option maxRecDepth 100000 in
theorem canon_any (l : L) (w : World) (hs : l.length ≤ 1000000000) : Calls Try.prog 18 #[.string ⟨l.toArray⟩] w fun e w' => e = .returned (.string ⟨(canonL l).toArray⟩) ∧ Below w.heap.size w w' := by
  have hcv := fun (W : World) => Lib.run_convert_string_bytes (P := Try.prog) W 9 36 5 ⟨l.toArray⟩ Try.underlying9 Try.underlying36 Try.underlying5
  have HF := Lib.hid (bytes_fresh w 5 l)
  have HB := Lib.hid (bytes_below w 5 ⟨l.toArray⟩)
  have hst := fun (W : World) (c : Nat) (h : Fresh W w.heap.size w.heap.size (canonL l)) => run_bytes_str (P := Try.prog) W 36 5 Try.underlying36 Try.underlying5 h.rd l.length c (by simp [canonL]) 9 Try.underlying9
  have HST := Lib.hid hst; clear hst
  have HNN := Lib.hid (Nat.le_refl w.heap.size)
  go_enter Try.func18, Try.ntmps18
  go_wp2
  go_loopw [10] (fun iv wr => ∃ k : Nat, k ≤ l.length ∧ iv = .int .i64 (k : Int) ∧ Fresh wr w.heap.size w.heap.size (mapK up8 l k) ∧ Below w.heap.size w wr) (fun iv _ => l.length - (intOf iv).toNat)
  case atStart => exact ⟨0, Nat.zero_le _, rfl, by rw [mapK_zero]; exact HF.out, HB.out⟩
  case round =>
    obtain ⟨k, hk, rfl, hf, hb⟩ := hrel
    have HB1 := Lib.hid hb; clear hb
    by_cases hlt : k < l.length
    · have e1 : (k : Int) < (l.length : Int) := by omega
      have hc := hf.2.2 k (by rw [mapK_length]; exact hlt)
      rw [mapK_at _ _ _ hlt] at hc
      obtain ⟨hc1, hc2⟩ := hc
      have hs1 := fresh_set hf k (by rw [mapK_length]; exact hlt) (up8 l[k])
      rw [mapK_step _ _ _ hlt] at hs1
      have HS1 := Lib.hid hs1; clear hs1
      have HS2 := Lib.hid (fresh_below_set HB1.out HNN.out k (.int .u8 ((up8 l[k]).toNat : Int)))
      have HF1 := Lib.hid hf; clear hf
      have c1 := small_any l[k] wr
      cases hsm : smallB l[k] with
      | true =>
        have h97 := (smallB_iff _).1 hsm
        have E := Lib.hid (show ((l[k].toNat : Int) - 97 + 65) = ((up8 l[k]).toNat : Int) by rw [up8_small hsm]; omega)
        rw [hsm] at c1
        have e2 : (97 : Int) ≤ (l[k].toNat : Int) := by omega
        have e3 : (l[k].toNat : Int) ≤ 122 := by omega
        clear hsm h97
        simp only [bv] at hc1
        go_wp2_with (go_at_call 37; refine Calls.mono c1 ?_; rintro e w1 ⟨rfl, rfl⟩; clear c1)
        go_roundw
        case rel => exact ⟨k + 1, by omega, by go_num, by first | (rw [E.out]; exact HS1.out) | exact HS1.out, by first | (rw [E.out]; exact HS2.out) | exact HS2.out⟩
        case measure => simp [intOf]; omega
      | false =>
        have E := Lib.hid (mapK_same up8 l k hlt (up8_other hsm))
        rw [hsm] at c1
        clear hsm
        simp only [bv] at hc1
        go_wp2_with (go_at_call 37; refine Calls.mono c1 ?_; rintro e w1 ⟨rfl, rfl⟩; clear c1)
        go_roundw
        case rel => exact ⟨k + 1, by omega, by go_num, by rw [E.out]; exact HF1.out, HB1.out⟩
        case measure => simp [intOf]; omega
    · obtain rfl : k = l.length := by omega
      rw [mapK_all] at hf
      have hcs := HST.out wr (grownCap w l.length 0 5) hf
      have HF1 := Lib.hid hf; clear hf
      have e1 : ¬ (l.length : Int) < (l.length : Int) := by omega
      go_wp2
      go_ret
      exact ⟨rfl, HB1.out⟩

set_option maxHeartbeats 1600000 in
set_option maxRecDepth 100000 in
theorem rcanon_any (l : L) (w : World) (hs : l.length ≤ 1000000000) : Calls Try.prog 19 #[.string ⟨l.toArray⟩] w fun e w' => e = .returned (.string ⟨(canonL l).toArray⟩) ∧ Below w.heap.size w w' := by
  have hcv := fun (W : World) => Lib.run_convert_string_bytes (P := Try.prog) W 9 36 5 ⟨l.toArray⟩ Try.underlying9 Try.underlying36 Try.underlying5
  have HF := Lib.hid (bytes_fresh w 5 l)
  have HB := Lib.hid (bytes_below w 5 ⟨l.toArray⟩)
  have hst := fun (W : World) (c : Nat) (h : Fresh W w.heap.size w.heap.size (canonL l)) => run_bytes_str (P := Try.prog) W 36 5 Try.underlying36 Try.underlying5 h.rd l.length c (by simp [canonL]) 9 Try.underlying9
  have HST := Lib.hid hst; clear hst
  have HNN := Lib.hid (Nat.le_refl w.heap.size)
  go_enter Try.func19, Try.ntmps19
  go_wp2
  go_loopw [4] (fun iv wr => ∃ k : Nat, k ≤ l.length ∧ iv = .int .i64 (k : Int) ∧ Fresh wr w.heap.size w.heap.size (mapK up8 l k) ∧ Below w.heap.size w wr) (fun iv _ => l.length - (intOf iv).toNat)
  case atStart => exact ⟨0, Nat.zero_le _, rfl, by rw [mapK_zero]; exact HF.out, HB.out⟩
  case round =>
    obtain ⟨k, hk, rfl, hf, hb⟩ := hrel
    have HB1 := Lib.hid hb; clear hb
    by_cases hlt : k < l.length
    · have e1 : (k : Int) < (l.length : Int) := by omega
      have hc := hf.2.2 k (by rw [mapK_length]; exact hlt)
      rw [mapK_at _ _ _ hlt] at hc
      obtain ⟨hc1, hc2⟩ := hc
      have hs1 := fresh_set hf k (by rw [mapK_length]; exact hlt) (up8 l[k])
      rw [mapK_step _ _ _ hlt] at hs1
      have HS1 := Lib.hid hs1; clear hs1
      have HS2 := Lib.hid (fresh_below_set HB1.out HNN.out k (.int .u8 ((up8 l[k]).toNat : Int)))
      have HF1 := Lib.hid hf; clear hf
      have hb8 := u8_le l[k]
      simp only [bv] at hc1
      by_cases h97 : 97 ≤ l[k].toNat
      · have g1 : decide ((97 : Int) ≤ (l[k].toNat : Int)) = true := by simp; omega
        have e2 : (97 : Int) ≤ (l[k].toNat : Int) := by omega
        by_cases h122 : l[k].toNat ≤ 122
        · have g2 : decide ((l[k].toNat : Int) ≤ 122) = true := by simp; omega
          have E := Lib.hid (show ((l[k].toNat : Int) - 32) = ((up8 l[k]).toNat : Int) by rw [up8_small ((smallB_iff _).2 ⟨h97, h122⟩)]; omega)
          have e3 : (l[k].toNat : Int) ≤ 122 := by omega
          clear h97 h122
          go_wp2
          go_roundw
          case rel => exact ⟨k + 1, by omega, by go_num, by rw [E.out]; exact HS1.out, by rw [E.out]; exact HS2.out⟩
          case measure => simp [intOf]; omega
        · have g2 : decide ((l[k].toNat : Int) ≤ 122) = false := by simp; omega
          have E := Lib.hid (mapK_same up8 l k hlt (up8_other (by simp [smallB]; omega)))
          clear h97 h122
          go_wp2
          go_roundw
          case rel => exact ⟨k + 1, by omega, by go_num, by rw [E.out]; exact HF1.out, HB1.out⟩
          case measure => simp [intOf]; omega
      · have g1 : decide ((97 : Int) ≤ (l[k].toNat : Int)) = false := by simp; omega
        have E := Lib.hid (mapK_same up8 l k hlt (up8_other (by simp [smallB]; omega)))
        clear h97
        go_wp2
        go_roundw
        case rel => exact ⟨k + 1, by omega, by go_num, by rw [E.out]; exact HF1.out, HB1.out⟩
        case measure => simp [intOf]; omega
    · obtain rfl : k = l.length := by omega
      rw [mapK_all] at hf
      have hcs := HST.out wr (grownCap w l.length 0 5) hf
      have HF1 := Lib.hid hf; clear hf
      have e1 : ¬ (l.length : Int) < (l.length : Int) := by omega
      go_wp2
      go_ret
      exact ⟨rfl, HB1.out⟩
end Go.Proofs.Ytpjilcngibaepaa.Nm
