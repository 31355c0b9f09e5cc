/-
  Plain mathematics of chapter 7: where each realm is linked with the one above it and back, and tops with one another, the way is what stands between.
-/
import Derived.Test.YtnalnhplcchdoaaRtPlain
set_option linter.unusedVariables false
namespace Go.Proofs.Ytnalnhplcchdoaa.Rt
open Go.Proofs.Ytnalnhplcchdoaa.Nm

/-- neighbours -/
def Adj (p q : L) : Prop := upL p = q ∨ upL q = p ∨ (p ≠ q ∧ upL p = [] ∧ upL q = [])
structure Tree (T : Tp) : Prop where
  none : T.P = []
  real : ∀ r ∈ T.R, kindL r ≠ 0
  up : ∀ r ∈ T.R, ∀ x ∈ ch r, x ∈ T.R
  link : ∀ p q, p ∈ T.R → q ∈ T.R → ((p, q) ∈ T.K ↔ Adj p q)

theorem find_only {l : List L} {p : L → Bool} {z : L} (hz : z ∈ l) (hp : p z = true) (hu : ∀ x ∈ l, p x = true → x = z) : l.find? p = some z := by
  cases h : l.find? p with
  | none => rw [List.find?_eq_none] at h; exact absurd hp (h z hz)
  | some x => rw [hu x (List.mem_of_find?_eq_some h) (List.find?_some h)]
theorem pl_of_cons {a : L} {l : List L} {i : Nat} : pl (a :: l) (i + 1) = pl l i := rfl
theorem ix_cons {a : L} {A B : List L} (h : a ∉ B) : ix (a :: A) B = ix A B + 1 := by
  rw [ix, List.findIdx_cons, decide_eq_false h]; rfl
theorem ix_drop {b : L} {j : Nat} (h : j < (ch b).length) : ix (ch b) ((ch b).drop j) = j := by
  refine ix_eq h ?_ fun k hk hm => ?_
  · rw [pl_lt h]
    exact List.mem_drop_iff_getElem.2 ⟨0, by simpa using h, by simp⟩
  · obtain ⟨i, hi, e⟩ := List.mem_drop_iff_getElem.1 hm
    have := at_inj (a := b) (i := j + i) (j := k) (by omega) (by omega) (by rw [pl_lt (by omega), e])
    omega
theorem ix_skip {a : L} {A B : List L} (h : a ∉ B) : ix B (a :: A) = ix B A := by
  unfold ix
  induction B with
  | nil => rfl
  | cons b t ih =>
    simp only [List.mem_cons, not_or] at h
    rw [List.findIdx_cons, List.findIdx_cons, ih h.2]
    have e : decide (b ∈ a :: A) = decide (b ∈ A) := by
      have hba : b ≠ a := fun g => h.1 g.symm
      simp [hba]
    rw [e]

/-- of what stands on the way only the first one is next to where one is -/
theorem path_chord {a y z : L} (ha : kindL a ≠ 0) (hy : kindL y ≠ 0) (hay : a ≠ y) (hz : z ∈ (pathL (ch a) (ch y)).drop 1) (h : Adj a z) : z = pl (pathL (ch a) (ch y)) 1 := by
  have na := ne_of_kind ha
  have ny := ne_of_kind hy
  have hzk : kindL z ≠ 0 := path_kind ha hy (List.mem_of_mem_drop hz)
  have nz := ne_of_kind hzk
  have nd := path_nodup a y
  obtain ⟨M, eM⟩ := path_ends na ny hay
  have hza : z ≠ a := by
    rintro rfl
    rw [eM] at hz nd
    simp only [List.drop_succ_cons, List.drop_zero] at hz
    exact (List.nodup_cons.1 nd).1 hz
  have hzm := path_mem (List.mem_of_mem_drop hz)
  have pa := ch_pos na
  by_cases hi : ix (ch a) (ch y) = 0
  · have hlt : ix (ch a) (ch y) < (ch a).length := by omega
    obtain ⟨h1, h2⟩ := ix_meet hlt
    have e := path_meet hlt
    rw [hi] at h2 e
    rw [show pl (ch a) 0 = a from ch_zero na] at h2 e
    simp only [List.take_zero, List.nil_append] at e
    rw [e] at hz ⊢
    simp only [List.drop_succ_cons, List.drop_zero, List.mem_reverse] at hz
    obtain ⟨j, hj, ej⟩ := mem_pl hz
    rw [List.length_take] at hj
    rw [pl_take (by omega)] at ej
    have huz : upL z = pl (ch y) (j + 1) := by rw [← ej]; exact up_at y (by omega)
    rcases h with h | h | h
    · exfalso
      rw [← h2, up_at y h1] at h
      rcases Nat.lt_or_ge (ix (ch y) (ch a) + 1) (ch y).length with g | g
      · have := at_inj (a := y) (i := ix (ch y) (ch a) + 1) (j := j) g (by omega) (h.trans ej.symm); omega
      · rw [pl_ge g] at h; exact nz h.symm
    · have h9 : pl (ch y) (j + 1) = pl (ch y) (ix (ch y) (ch a)) := by rw [h2, ← huz]; exact h
      have := at_inj (a := y) (by omega) h1 h9
      rw [pl_of_cons, pl_reverse (j := j) (by rw [List.length_take]; omega), pl_take (by omega), ej]
    · exfalso
      exact at_ne y (i := j + 1) (by omega) (huz.symm.trans h.2.2)
  · have hnot : a ∉ ch y := by
      have := ix_not (A := ch a) (B := ch y) (i := 0) (by omega)
      rwa [show pl (ch a) 0 = a from ch_zero na] at this
    have hab : ∀ x, x ∈ ch y → a ∉ ch x := fun x hx g => hnot (mem_sub hx g)
    have p1 : 2 ≤ (ch a).length → pl (pathL (ch a) (ch y)) 1 = pl (ch a) 1 := by
      intro h2
      rcases Nat.lt_or_ge (ix (ch a) (ch y)) (ch a).length with g | g
      · rw [path_meet g]
        rcases Nat.lt_or_ge 1 (ix (ch a) (ch y)) with q | q
        · rw [pl_append_left (by rw [List.length_take]; omega), pl_take q]
        · have e1 : ix (ch a) (ch y) = 1 := by omega
          rw [pl_append_right (by rw [List.length_take]; omega), List.length_take, e1, Nat.min_eq_left (by omega)]
          rfl
      · have e : ix (ch a) (ch y) = (ch a).length := by have := ix_le (ch a) (ch y); omega
        rw [path_part e, pl_append_left (by omega)]
    rcases h with h | h | h
    · have h1 : upL a = pl (ch a) 1 := by
        have := up_at a (i := 0) (by omega)
        rwa [show pl (ch a) 0 = a from ch_zero na] at this
      have h2 : 2 ≤ (ch a).length := by
        rcases Nat.lt_or_ge 1 (ch a).length with g | g
        · exact g
        · rw [pl_ge g] at h1; rw [h1] at h; exact absurd h.symm nz
      rw [p1 h2, ← h1]; exact h.symm
    · exfalso
      have hza2 : a ∈ ch z := by rw [ch_cons nz, h]; exact List.mem_cons_of_mem _ (mem_self na)
      rcases hzm with g | g
      · exact hza (mem_eq g hza2)
      · exact hab z g hza2
    · have h1 : (ch a).length = 1 := by
        rw [ch_cons na, h.2.1, ch_nil]; rfl
      have e : ix (ch a) (ch y) = (ch a).length := by have := ix_le (ch a) (ch y); omega
      have hzy : z ∈ ch y := by
        rcases hzm with g | g
        · exfalso
          rw [ch_cons na, h.2.1, ch_nil, List.mem_singleton] at g
          exact hza g
        · exact g
      obtain ⟨j, hj, ej⟩ := mem_pl hzy
      have hup := up_at y hj
      rw [ej, h.2.2] at hup
      have hj1 : j + 1 = (ch y).length := by
        rcases Nat.lt_or_ge (j + 1) (ch y).length with g | g
        · exact absurd hup.symm (at_ne y g)
        · omega
      rw [path_part e, pl_append_right (by omega), h1, pl_reverse (j := j) (by omega), ej]

/-- from the next one on the way goes on as it did -/
theorem path_next {a y : L} (ha : kindL a ≠ 0) (hy : kindL y ≠ 0) (hay : a ≠ y) : pathL (ch (pl (pathL (ch a) (ch y)) 1)) (ch y) = (pathL (ch a) (ch y)).drop 1 := by
  have na := ne_of_kind ha
  have ny := ne_of_kind hy
  have pa := ch_pos na
  have py := ch_pos ny
  have y0 : pl (ch y) 0 = y := ch_zero ny
  have low : ∀ j, j < (ch y).length → pathL (ch (pl (ch y) j)) (ch y) = pl (ch y) j :: ((ch y).take j).reverse := by
    intro j hj
    have e0 : ch (pl (ch y) j) = (ch y).drop j := ch_at j y hj
    have hne := at_ne y hj
    have hm : pl (ch y) j ∈ ch y := pl_mem hj
    have i0 : ix (ch (pl (ch y) j)) (ch y) = 0 := ix_eq (ch_pos hne) (by rw [show pl (ch (pl (ch y) j)) 0 = pl (ch y) j from ch_zero hne]; exact hm) (by omega)
    rw [pathL, i0, e0, ix_drop hj]
    rw [List.take_zero, List.nil_append, List.drop_zero, take_pl hj]; rfl
  by_cases hi : ix (ch a) (ch y) = 0
  · have hlt : ix (ch a) (ch y) < (ch a).length := by omega
    obtain ⟨h1, h2⟩ := ix_meet hlt
    have e := path_meet hlt
    rw [hi] at h2 e
    rw [show pl (ch a) 0 = a from ch_zero na] at h2 e
    simp only [List.take_zero, List.nil_append] at e
    obtain ⟨k, ek⟩ : ∃ k, ix (ch y) (ch a) = k + 1 := by
      cases hk : ix (ch y) (ch a) with
      | zero => rw [hk, y0] at h2; exact absurd h2.symm hay
      | succ k => exact ⟨k, rfl⟩
    rw [ek] at e h1
    have e1 : pl (pathL (ch a) (ch y)) 1 = pl (ch y) k := by
      rw [e, pl_of_cons, pl_reverse (j := k) (by rw [List.length_take]; omega), pl_take (by omega)]
    rw [e1, low k (by omega), e]
    simp only [List.drop_succ_cons, List.drop_zero]
    rw [take_succ_pl (by omega)]; simp
  · have hnot : a ∉ ch y := by
      have := ix_not (A := ch a) (B := ch y) (i := 0) (by omega)
      rwa [show pl (ch a) 0 = a from ch_zero na] at this
    by_cases hu : upL a = []
    · have ea : ch a = [a] := by rw [ch_cons na, hu, ch_nil]
      have e : ix (ch a) (ch y) = (ch a).length := by rw [ea] at hi ⊢; have := ix_le [a] (ch y); simp at this ⊢; omega
      have e1 := path_part e
      rw [ea] at e1
      obtain ⟨n, en⟩ : ∃ n, (ch y).length = n + 1 := ⟨(ch y).length - 1, by omega⟩
      have e2 : pl (pathL (ch a) (ch y)) 1 = pl (ch y) n := by
        rw [ea, e1, pl_append_right (by simp), pl_reverse (j := n) (by simp; omega)]
      rw [e2, low n (by omega), ea, e1]
      simp only [List.cons_append, List.nil_append, List.drop_succ_cons, List.drop_zero]
      conv => rhs; rw [← List.take_of_length_le (Nat.le_of_eq en), take_succ_pl (by omega)]
      simp
    · have ea : ch a = a :: ch (upL a) := ch_cons na
      have e1 : pathL (ch a) (ch y) = a :: pathL (ch (upL a)) (ch y) := by
        rw [ea, pathL, ix_cons hnot, ix_skip hnot]; rfl
      have pu := ch_pos hu
      have e2 : pl (pathL (ch (upL a)) (ch y)) 0 = upL a := by
        rw [pathL]
        rcases Nat.eq_zero_or_pos (ix (ch (upL a)) (ch y)) with g | g
        · rw [g, List.take_zero, List.nil_append, List.drop_zero, ch_cons hu]; rfl
        · rw [pl_append_left (by rw [List.length_take]; omega), pl_take g]; exact ch_zero hu
      rw [e1, pl_of_cons, e2]; rfl
end Go.Proofs.Ytnalnhplcchdoaa.Rt
