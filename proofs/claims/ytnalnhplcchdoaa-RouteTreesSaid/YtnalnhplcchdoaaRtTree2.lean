/-
  Plain mathematics of chapter 7: the way in such a topology.
-/
import Derived.Test.YtnalnhplcchdoaaRtTree
set_option linter.unusedVariables false
namespace Go.Proofs.Ytnalnhplcchdoaa.Rt
open Go.Proofs.Ytnalnhplcchdoaa.Nm

theorem tree_laid {T : Tp} (ht : Tree T) (a b : L) : laidB T a b = false := by
  rw [laidB, decide_eq_false_iff_not, ht.none]; simp
theorem tree_next {T : Tp} (ht : Tree T) {a y : L} (ha : a ∈ T.R) (hy : y ∈ T.R) (hay : a ≠ y) : nextO T a y = some (pl (pathL (ch a) (ch y)) 1) := by
  have ka := ht.real a ha
  have ky := ht.real y hy
  have e := path_between ka ky hay
  have nd := path_nodup a y
  have st := path_steps ka ky 0 (by rw [← e]; simp)
  have hst : stepsL T a y = ((pathL (ch a) (ch y)).drop 1).reverse := by
    rw [stepsL, if_neg (by simp [tree_laid ht]), ← e]; simp
  have hmem : pl (pathL (ch a) (ch y)) 1 ∈ (pathL (ch a) (ch y)).drop 1 := by
    rw [← e, pl_of_cons]
    simp only [List.drop_succ_cons, List.drop_zero]
    exact pl_mem (by simp)
  have hall : ∀ x ∈ (pathL (ch a) (ch y)).drop 1, x ∈ T.R := by
    intro x hx
    rcases path_mem (List.mem_of_mem_drop hx) with g | g
    · exact ht.up a ha x g
    · exact ht.up y hy x g
  rw [nextO, if_neg hay, hst]
  refine find_only (List.mem_reverse.2 hmem) ?_ fun x hx hp => ?_
  · rw [linkL, decide_eq_true_eq, ht.link a _ ha (hall _ hmem)]
    have p0 : pl (pathL (ch a) (ch y)) 0 = a := by rw [← e]; rfl
    rw [p0] at st
    rcases st with g | g | g
    · exact .inl g
    · exact .inr (.inl g)
    · refine .inr (.inr ⟨?_, g.1, g.2⟩)
      intro g2
      have := nodup_pl nd (i := 0) (j := 1) (by rw [← e]; simp) (by rw [← e]; simp) (p0.trans g2)
      omega
  · rw [List.mem_reverse] at hx
    rw [linkL, decide_eq_true_eq, ht.link a _ ha (hall _ hx)] at hp
    exact path_chord ka ky hay hx hp
/-- all of the way, place by place -/
theorem path_from {x y : L} (hx : kindL x ≠ 0) (hy : kindL y ≠ 0) : ∀ i, i < (pathL (ch x) (ch y)).length → pathL (ch (pl (pathL (ch x) (ch y)) i)) (ch y) = (pathL (ch x) (ch y)).drop i := by
  by_cases hxy : x = y
  · subst hxy
    have e : pathL (ch x) (ch x) = [x] := by
      have e0 : ix (ch x) (ch x) = 0 := ix_eq (ch_pos (ne_of_kind hx)) (pl_mem (ch_pos (ne_of_kind hx))) (by omega)
      rw [pathL, e0, ch_cons (ne_of_kind hx)]; rfl
    intro i hi
    rw [e] at hi
    have : i = 0 := by simp at hi; omega
    subst this
    rw [e]
    show pathL (ch x) (ch x) = _
    rw [e]; rfl
  · have e := path_between hx hy hxy
    have nd := path_nodup x y
    intro i
    induction i with
    | zero => intro hi; rw [List.drop_zero, show pl (pathL (ch x) (ch y)) 0 = x by rw [← e]; rfl]
    | succ i ih =>
      intro hi
      have h1 := ih (by omega)
      have hlen : (pathL (ch x) (ch y)).length = (betweenL x y).length + 2 := by rw [← e]; simp
      have hne : pl (pathL (ch x) (ch y)) i ≠ y := by
        intro g
        have hl : pl (pathL (ch x) (ch y)) ((betweenL x y).length + 1) = y := by
          rw [← e, pl_of_cons, pl_append_right (Nat.le_refl _)]; simp [pl]
        have := nodup_pl nd (i := i) (j := (betweenL x y).length + 1) (by omega) (by omega) (g.trans hl.symm)
        omega
      have hk := path_kind hx hy (pl_mem (A := pathL (ch x) (ch y)) (i := i) (by omega))
      have h2 := path_next hk hy hne
      rw [h1, List.drop_drop] at h2
      have h3 : pl ((pathL (ch x) (ch y)).drop i) 1 = pl (pathL (ch x) (ch y)) (i + 1) := by
        simp [pl, List.getD, List.getElem?_drop]
      rw [h3] at h2
      exact h2
theorem tree_step {T : Tp} (ht : Tree T) {x y : L} (hx : x ∈ T.R) (hy : y ∈ T.R) (hxy : x ≠ y) {i : Nat} (hi : i ≤ (betweenL x y).length) : pl (pathL (ch x) (ch y)) i ≠ y ∧ nextO T (pl (pathL (ch x) (ch y)) i) y = some (pl (pathL (ch x) (ch y)) (i + 1)) := by
  have kx := ht.real x hx
  have ky := ht.real y hy
  have e := path_between kx ky hxy
  have nd := path_nodup x y
  have hlen : (pathL (ch x) (ch y)).length = (betweenL x y).length + 2 := by rw [← e]; simp
  have hne : pl (pathL (ch x) (ch y)) i ≠ y := by
    intro g
    have hl : pl (pathL (ch x) (ch y)) ((betweenL x y).length + 1) = y := by
      rw [← e, pl_of_cons, pl_append_right (Nat.le_refl _)]; simp [pl]
    have := nodup_pl nd (i := i) (j := (betweenL x y).length + 1) (by omega) (by omega) (g.trans hl.symm)
    omega
  have hm : pl (pathL (ch x) (ch y)) i ∈ T.R := by
    rcases path_mem (pl_mem (A := pathL (ch x) (ch y)) (i := i) (by omega)) with g | g
    · exact ht.up x hx _ g
    · exact ht.up y hy _ g
  refine ⟨hne, ?_⟩
  rw [tree_next ht hm hy hne, path_from kx ky i (by omega)]
  congr 1
  simp [pl, List.getD, List.getElem?_drop]
theorem tree_go {T : Tp} (ht : Tree T) {x y : L} (hx : x ∈ T.R) (hy : y ∈ T.R) (hxy : x ≠ y) : ∀ k i, i + k = 5 → i ≤ (betweenL x y).length →
    walkF T x y (k + 2) (pl (pathL (ch x) (ch y)) i) ((betweenL x y).take i) = if (betweenL x y).length ≤ 5 then some (betweenL x y) else none := by
  have kx := ht.real x hx
  have ky := ht.real y hy
  have e := path_between kx ky hxy
  have nd := path_nodup x y
  have hlen : (pathL (ch x) (ch y)).length = (betweenL x y).length + 2 := by rw [← e]; simp
  have hp0 : pl (pathL (ch x) (ch y)) 0 = x := by rw [← e]; rfl
  have hpM : ∀ j, j < (betweenL x y).length → pl (pathL (ch x) (ch y)) (j + 1) = pl (betweenL x y) j := by
    intro j hj; rw [← e, pl_of_cons, pl_append_left hj]
  have hpy : pl (pathL (ch x) (ch y)) ((betweenL x y).length + 1) = y := by
    rw [← e, pl_of_cons, pl_append_right (Nat.le_refl _)]; simp [pl]
  intro k
  induction k with
  | zero =>
    intro i hi hil
    have hi5 : i = 5 := by omega
    subst hi5
    obtain ⟨hne, hnx⟩ := tree_step ht hx hy hxy hil
    have hfr : pl (pathL (ch x) (ch y)) (5 + 1) ≠ x := by
      intro g
      have := nodup_pl nd (i := 5 + 1) (j := 0) (by omega) (by omega) (g.trans hp0.symm); omega
    have hnl : pl (pathL (ch x) (ch y)) (5 + 1) ∉ (betweenL x y).take 5 := by
      intro g
      obtain ⟨j, hj, ej⟩ := mem_pl g
      rw [List.length_take] at hj
      rw [pl_take (by omega), ← hpM j (by omega)] at ej
      have := nodup_pl nd (i := j + 1) (j := 5 + 1) (by omega) (by omega) ej; omega
    rw [walkF, if_neg hne, hnx]
    simp only
    rw [if_neg (fun g => g.elim hfr hnl)]
    by_cases hl : (betweenL x y).length = 5
    · have hy1 : pl (pathL (ch x) (ch y)) (5 + 1) = y := by rw [← hl]; exact hpy
      rw [if_pos hy1, if_neg (by simp; omega), walkF, if_pos hy1, if_pos (by omega), List.take_of_length_le (by omega)]
    · have hy1 : pl (pathL (ch x) (ch y)) (5 + 1) ≠ y := by
        intro g
        have := nodup_pl nd (i := 5 + 1) (j := (betweenL x y).length + 1) (by omega) (by omega) (g.trans hpy.symm); omega
      rw [if_neg hy1, if_pos (by simp; omega), if_neg (by omega)]
  | succ k ih =>
    intro i hi hil
    obtain ⟨hne, hnx⟩ := tree_step ht hx hy hxy hil
    have hfr : pl (pathL (ch x) (ch y)) (i + 1) ≠ x := by
      intro g
      have := nodup_pl nd (i := i + 1) (j := 0) (by omega) (by omega) (g.trans hp0.symm); omega
    have hnl : pl (pathL (ch x) (ch y)) (i + 1) ∉ (betweenL x y).take i := by
      intro g
      obtain ⟨j, hj, ej⟩ := mem_pl g
      rw [List.length_take] at hj
      rw [pl_take (by omega), ← hpM j (by omega)] at ej
      have := nodup_pl nd (i := j + 1) (j := i + 1) (by omega) (by omega) ej; omega
    rw [walkF, if_neg hne, hnx]
    simp only
    rw [if_neg (fun g => g.elim hfr hnl)]
    by_cases hl : (betweenL x y).length = i
    · have hy1 : pl (pathL (ch x) (ch y)) (i + 1) = y := by rw [← hl]; exact hpy
      rw [if_pos hy1, if_neg (by simp; omega), walkF, if_pos hy1, if_pos (by omega), List.take_of_length_le (by omega)]
    · have hy1 : pl (pathL (ch x) (ch y)) (i + 1) ≠ y := by
        intro g
        have := nodup_pl nd (i := i + 1) (j := (betweenL x y).length + 1) (by omega) (by omega) (g.trans hpy.symm); omega
      rw [if_neg hy1, if_neg (by simp; omega), hpM i (by omega), ← take_succ_pl (by omega), ← hpM i (by omega)]
      exact ih (i + 1) (by omega) (by omega)
theorem tree_walk {T : Tp} (ht : Tree T) {x y : L} (hx : x ∈ T.R) (hy : y ∈ T.R) : wkB T x y = decide ((betweenL x y).length ≤ 5) ∧ ((betweenL x y).length ≤ 5 → wkL T x y = betweenL x y) := by
  have key : walkO T x y = if (betweenL x y).length ≤ 5 then some (betweenL x y) else none := by
    by_cases hxy : x = y
    · subst hxy
      have e : betweenL x x = [] := by
        have kx := ht.real x hx
        have e0 : ix (ch x) (ch x) = 0 := ix_eq (ch_pos (ne_of_kind kx)) (pl_mem (ch_pos (ne_of_kind kx))) (by omega)
        rw [betweenL, if_neg (by omega), pathL, e0, ch_cons (ne_of_kind kx)]; rfl
      rw [e, walkO, walkF, if_pos rfl]; rfl
    · have h := tree_go ht hx hy hxy 5 0 rfl (Nat.zero_le _)
      rw [List.take_zero, show pl (pathL (ch x) (ch y)) 0 = x by rw [← path_between (ht.real x hx) (ht.real y hy) hxy]; rfl] at h
      exact h
  rw [wkB, wkL, key]
  by_cases h : (betweenL x y).length ≤ 5
  · rw [if_pos h]; exact ⟨by rw [decide_eq_true h]; rfl, fun _ => rfl⟩
  · rw [if_neg h]; exact ⟨by rw [decide_eq_false h]; rfl, fun g => absurd g h⟩
end Go.Proofs.Ytnalnhplcchdoaa.Rt
