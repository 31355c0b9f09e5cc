/-
  Plain mathematics of chapter 7: what the loops of RouteTrees make is such a topology.
-/
import Derived.Test.YtnalnhplcchdoaaRtTree2
set_option linter.unusedVariables false
namespace Go.Proofs.Ytnalnhplcchdoaa.Rt
open Go.Proofs.Ytnalnhplcchdoaa.Nm

/-- realms, each with all above it, but for what is in A -/
structure UpC (R A : List L) : Prop where
  real : ∀ r ∈ R, kindL r ≠ 0
  up : ∀ r ∈ R, ∀ x ∈ ch r, x ∈ R ∨ x ∈ A
  len : ∀ r ∈ R, r.length ≤ 60
theorem upc_nil : UpC [] [] := ⟨(fun r h => by cases h), (fun r h => by cases h), (fun r h => by cases h)⟩
/-- one more realm begins -/
theorem upc_more {R A : List L} (h : UpC R []) : UpC R A := ⟨h.real, fun r hr x hx => .inl ((h.up r hr x hx).elim id (fun g => by cases g)), h.len⟩
theorem drop_mem {A : List L} {j : Nat} {x : L} (hj : j < A.length) (h : x ∈ A.drop j) : x = pl A j ∨ x ∈ A.drop (j + 1) := by
  rw [List.drop_eq_getElem_cons hj, List.mem_cons, ← pl_lt hj] at h; exact h
/-- it is there -/
theorem upc_there {R : List L} {a : L} {j : Nat} (h : UpC R ((ch a).drop j)) (hj : j < (ch a).length) (hm : pl (ch a) j ∈ R) : UpC R ((ch a).drop (j + 1)) :=
  ⟨h.real, fun r hr x hx => (h.up r hr x hx).elim .inl fun g => (drop_mem hj g).elim (fun e => .inl (by rw [e]; exact hm)) .inr, h.len⟩
/-- it is laid behind them -/
theorem upc_laid {R : List L} {a : L} {j : Nat} (h : UpC R ((ch a).drop j)) (hj : j < (ch a).length) (ha : kindL a ≠ 0) (hl : a.length ≤ 60) : UpC (R ++ [pl (ch a) j]) ((ch a).drop (j + 1)) := by
  have hm : pl (ch a) j ∈ ch a := pl_mem hj
  refine ⟨fun r hr => ?_, fun r hr x hx => ?_, fun r hr => ?_⟩
  · rcases List.mem_append.1 hr with g | g
    · exact h.real r g
    · rw [List.mem_singleton] at g; rw [g, mem_kind hm]; exact ha
  · rcases List.mem_append.1 hr with g | g
    · rcases h.up r g x hx with q | q
      · exact .inl (List.mem_append_left _ q)
      · rcases drop_mem hj q with e | e
        · exact .inl (by rw [e]; simp)
        · exact .inr e
    · rw [List.mem_singleton] at g
      rw [g, ch_at j a hj] at hx
      rcases drop_mem hj hx with e | e
      · exact .inl (by rw [e]; simp)
      · exact .inr e
  · rcases List.mem_append.1 hr with g | g
    · exact h.len r g
    · rw [List.mem_singleton] at g; rw [g]; exact Nat.le_trans (mem_len hm) hl
theorem upc_end {R : List L} {a : L} {j : Nat} (h : UpC R ((ch a).drop j)) (hj : (ch a).length ≤ j) : UpC R [] := by
  rw [List.drop_eq_nil_of_le hj] at h; exact h

/-- are the realms at i and k linked? -/
def Cond (R : List L) (i k : Nat) : Prop := upL (pl R i) = pl R k ∨ upL (pl R k) = pl R i ∨ (i ≠ k ∧ upL (pl R i) = [] ∧ upL (pl R k) = [])
/-- the links of the places ahead of (i, k) -/
def KC (R : List L) (i k : Nat) (K : List Pr) : Prop := ∀ p, p ∈ K ↔ ∃ i' k', (i' < i ∧ k' < R.length ∨ i' = i ∧ k' < k) ∧ Cond R i' k' ∧ p = (pl R i', pl R k')
theorem kc_zero (R : List L) : KC R 0 0 [] := by
  intro p
  constructor
  · intro h; cases h
  · rintro ⟨i', k', h, _⟩; omega
theorem kc_row {R : List L} {i k : Nat} {K : List Pr} (h : KC R i k K) (hk : k = R.length) : KC R (i + 1) 0 K := by
  intro p
  rw [h p]
  constructor
  · rintro ⟨i', k', h1, h2⟩; exact ⟨i', k', by omega, h2⟩
  · rintro ⟨i', k', h1, h2⟩; exact ⟨i', k', by omega, h2⟩
theorem kc_no {R : List L} {i k : Nat} {K : List Pr} (h : KC R i k K) (hc : ¬ Cond R i k) : KC R i (k + 1) K := by
  intro p
  rw [h p]
  constructor
  · rintro ⟨i', k', h1, h2⟩; exact ⟨i', k', by omega, h2⟩
  · rintro ⟨i', k', h1, h2⟩
    refine ⟨i', k', ?_, h2⟩
    by_cases e : i' = i ∧ k' = k
    · rw [e.1, e.2] at h2; exact absurd h2.1 hc
    · omega
theorem kc_yes {R : List L} {i k : Nat} {K : List Pr} (h : KC R i k K) (hc : Cond R i k) : KC R i (k + 1) (K ++ [(pl R i, pl R k)]) := by
  intro p
  rw [List.mem_append, List.mem_singleton, h p]
  constructor
  · rintro (⟨i', k', h1, h2⟩ | rfl)
    · exact ⟨i', k', by omega, h2⟩
    · exact ⟨i, k, by omega, hc, rfl⟩
  · rintro ⟨i', k', h1, h2⟩
    by_cases e : i' = i ∧ k' = k
    · rw [e.1, e.2] at h2; exact .inr h2.2
    · exact .inl ⟨i', k', by omega, h2⟩
theorem kc_tree {R : List L} {K : List Pr} (hu : UpC R []) (hn : R.Nodup) (hk : KC R R.length 0 K) : Tree ⟨R, K, []⟩ := by
  refine ⟨rfl, hu.real, fun r hr x hx => (hu.up r hr x hx).elim id (fun g => by cases g), fun p q hp hq => ?_⟩
  show (p, q) ∈ K ↔ Adj p q
  rw [hk]
  constructor
  · rintro ⟨i, k, h1, h2, h3⟩
    have e := Prod.mk.inj h3
    rw [e.1, e.2]
    rcases h2 with g | g | ⟨g1, g2, g3⟩
    · exact .inl g
    · exact .inr (.inl g)
    · exact .inr (.inr ⟨fun e => g1 (nodup_pl hn (by omega) (by omega) e), g2, g3⟩)
  · intro ha
    obtain ⟨i, hi, ei⟩ := mem_pl hp
    obtain ⟨k, hk, ek⟩ := mem_pl hq
    refine ⟨i, k, .inl ⟨hi, hk⟩, ?_, by rw [ei, ek]⟩
    rw [Cond, ei, ek]
    rcases ha with g | g | ⟨g1, g2, g3⟩
    · exact .inl g
    · exact .inr (.inl g)
    · exact .inr (.inr ⟨fun e => g1 (by rw [← ei, ← ek, e]), g2, g3⟩)
theorem ist_nodup {T : Tp} (h : isT T = true) : T.R.Nodup := by
  have hr : realmsB T.R = true := by
    cases q : realmsB T.R with
    | true => rfl
    | false =>
      have : isT T = false := by rw [isT, q]; simp
      rw [this] at h; cases h
  rw [realmsB, Bool.and_eq_true, decide_eq_true_eq] at hr
  exact hr.2
end Go.Proofs.Ytnalnhplcchdoaa.Rt
