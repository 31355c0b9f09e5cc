/-
  The document's own of chapter 5: labels.
-/
import Derived.Test.YtnalnhplcchdoaaNmRef
set_option linter.unusedVariables false
namespace Go.Proofs.Ytnalnhplcchdoaa.Nm
open Go.RowKit Go.Proofs.Ytnalnhplcchdoaa.Mem
attribute [local go_sem] mk_at List.getElem_cons_zero List.getElem_cons_succ ext_rng

theorem labs_bad {ls : List L} {i : Nat} (hi : i < ls.length) (h : wordL capB (pl ls i) = false) : labsL ls = false := by
  cases e : labsL ls with
  | false => rfl
  | true =>
    have := ((labsL_iff ls).1 e).2.2
    rw [List.all_eq_true] at this
    have := this _ (pl_mem hi)
    rw [h] at this; cases this
theorem labs_all {ls : List L} (h : ∀ i, i < ls.length → wordL capB (pl ls i) = true) (h1 : 1 ≤ ls.length) : labsL ls = decide (ls.length ≤ 4) := by
  have ha : ls.all (wordL capB) = true := by
    rw [List.all_eq_true]
    intro x hx
    obtain ⟨i, hi, rfl⟩ := mem_pl hx
    exact h i hi
  rw [labsL, ha, decide_eq_true h1]; simp

set_option maxHeartbeats 3200000 in
set_option maxRecDepth 100000 in
theorem labels_some (ls : List L) (b o c : Nat) (w : World) (h1 : 1 ≤ ls.length) (hl : ls.length ≤ 8000000000000) (hs : ∀ i, i < ls.length → (pl ls i).length ≤ 1000000000)
    (hc : ∀ i, i < ls.length → w.cell? ⟨b, o + i, none⟩ = some (.string ⟨(pl ls i).toArray⟩)) :
    Calls Try.prog 57 #[.slice (some ⟨b, o, none⟩) ls.length c] w fun e w' => e = .returned (.bool (labsL ls)) ∧ w = w' := by
  obtain ⟨n, en⟩ : ∃ n, n = ls.length := ⟨_, rfl⟩
  rw [← en] at h1 hl hs hc ⊢
  have HS := Lib.hid hs; clear hs
  have HC := Lib.hid hc; clear hc
  have EN := Lib.hid en; clear en
  go_enter Try.func57, Try.ntmps57
  go_wp2
  go_loop [3] (fun iv => ∃ i : Nat, i ≤ n ∧ iv = .int .i64 (i : Int) ∧ ∀ j, j < i → wordL capB (pl ls j) = true) (fun iv => n - (intOf iv).toNat)
  case atStart => exact ⟨0, Nat.zero_le _, rfl, fun j h => absurd h (Nat.not_lt_zero j)⟩
  case round =>
    obtain ⟨i, hi, rfl, hw⟩ := hrel
    have HW := Lib.hid hw; clear hw
    by_cases hlt : i < n
    · have e1 : (i : Int) < (n : Int) := by omega
      have hc := HC.out i hlt
      have hsz := HS.out i hlt
      obtain ⟨l, el⟩ : ∃ l, l = pl ls i := ⟨_, rfl⟩
      rw [← el] at hc hsz
      have EL := Lib.hid el; clear el
      by_cases g1 : l.length < 1
      · have t1 : decide ((l.length : Int) < 1) = true := by simp; omega
        have E := Lib.hid (labs_bad (by rw [← EN.out]; exact hlt) (by rw [← EL.out]; exact word_short g1))
        clear g1
        go_wp2
        go_ret
        exact ⟨by rw [E.out]; rfl, rfl⟩
      · have t1 : decide ((l.length : Int) < 1) = false := by simp; omega
        by_cases g2 : 8 < l.length
        · have t2 : decide (8 < (l.length : Int)) = true := by simp; omega
          have E := Lib.hid (labs_bad (by rw [← EN.out]; exact hlt) (by rw [← EL.out]; exact word_long g2))
          clear g1 g2
          go_wp2
          go_ret
          exact ⟨by rw [E.out]; rfl, rfl⟩
        · have t2 : decide (8 < (l.length : Int)) = false := by simp; omega
          have HA := Lib.hid (fun h => word_all (p := capB) (l := l) h (by omega) (by omega))
          clear g1 g2
          go_wp2
          go_loop [4] (fun kv => ∃ k : Nat, k ≤ l.length ∧ kv = .int .i64 (k : Int) ∧ Fit capB l k) (fun kv => l.length - (intOf kv).toNat)
          case atStart => exact ⟨0, Nat.zero_le _, rfl, fun i _ h => by omega⟩
          case round =>
            obtain ⟨k, hk, rfl, hf⟩ := hrel
            have HF := Lib.hid hf; clear hf
            by_cases hkl : k < l.length
            · have e2 : (k : Int) < (l.length : Int) := by omega
              have hb := u8_le l[k]
              by_cases q1 : l[k].toNat < 65
              · have s1 : decide ((l[k].toNat : Int) < 65) = true := by simp; omega
                have E := Lib.hid (labs_bad (ls := ls) (i := i) (by rw [← EN.out]; exact hlt) (by rw [← EL.out]; exact word_bad hkl (by simp [capB]; omega)))
                clear q1
                go_wp2
                go_ret
                exact ⟨by rw [E.out]; rfl, rfl⟩
              · have s1 : decide ((l[k].toNat : Int) < 65) = false := by simp; omega
                by_cases q2 : 90 < l[k].toNat
                · have s2 : decide (90 < (l[k].toNat : Int)) = true := by simp; omega
                  have E := Lib.hid (labs_bad (ls := ls) (i := i) (by rw [← EN.out]; exact hlt) (by rw [← EL.out]; exact word_bad hkl (by simp [capB]; omega)))
                  clear q1 q2
                  go_wp2
                  go_ret
                  exact ⟨by rw [E.out]; rfl, rfl⟩
                · have s2 : decide (90 < (l[k].toNat : Int)) = false := by simp; omega
                  have HP := Lib.hid (show capB l[k] = true by simp [capB]; omega)
                  clear q1 q2
                  go_wp2
                  go_round
                  case rel => exact ⟨k + 1, by omega, by go_num, fun i hi hik => by
                    by_cases q : i = k
                    · subst q; exact HP.out
                    · exact HF.out i hi (by omega)⟩
                  case measure => simp [intOf]; omega
            · have e2 : ¬ (k : Int) < (l.length : Int) := by omega
              have E := Lib.hid (HA.out (fun i hi => HF.out i hi (by omega)))
              go_wp2
              go_round
              case rel => exact ⟨i + 1, by omega, by go_num, fun j hj => by
                by_cases q : j = i
                · rw [q, ← EL.out]; exact E.out
                · exact HW.out j (by omega)⟩
              case measure => simp [intOf]; omega
    · obtain rfl : i = n := by omega
      have e1 : ¬ (i : Int) < (i : Int) := by omega
      have hE := labs_all (ls := ls) (fun j hj => HW.out j (by rw [EN.out]; exact hj)) (by rw [← EN.out]; exact h1)
      rw [← EN.out] at hE
      have E := Lib.hid hE; clear hE
      have t1 : decide ((1 : Int) ≤ (i : Int)) = true := by simp; omega
      by_cases g : i ≤ 4
      · have t2 : decide ((i : Int) ≤ 4) = true := by simp; omega
        have E2 := Lib.hid (decide_eq_true g)
        clear g
        go_wp2
        go_ret
        exact ⟨by rw [E.out, E2.out]; rfl, rfl⟩
      · have t2 : decide ((i : Int) ≤ 4) = false := by simp; omega
        have E2 := Lib.hid (decide_eq_false g)
        clear g
        go_wp2
        go_ret
        exact ⟨by rw [E.out, E2.out]; rfl, rfl⟩
theorem labels_any (ls : List L) (A : Option Addr) (c B : Nat) (w : World) (h1 : 1 ≤ ls.length) (hl : ls.length ≤ 8000000000000) (hs : ∀ i, i < ls.length → (pl ls i).length ≤ 1000000000) (hr : Rd w B A (strs ls)) :
    Calls Try.prog 57 #[.slice A ls.length c] w fun e w' => e = .returned (.bool (labsL ls)) ∧ w = w' := by
  obtain ⟨b, o, rfl, _, _⟩ := rd_txt hr (i := 0) h1
  refine labels_some ls b o c w h1 hl hs fun i hi => ?_
  obtain ⟨b', o', e, _, hc⟩ := rd_txt hr hi
  injection e with e
  injection e with e1 e2
  subst e1; subst e2
  exact hc
end Go.Proofs.Ytnalnhplcchdoaa.Nm
