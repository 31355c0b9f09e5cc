/-
  Plain mathematics of chapter 7: what a topology is, which may be, what is laid down, the next realm, the way.
-/
import Derived.Test.YtnalnhplcchdoaaNmPlain3
namespace Go.Proofs.Ytnalnhplcchdoaa.Rt
open Go.Proofs.Ytnalnhplcchdoaa.Nm

abbrev Pr := L × L
/-- a path: from, to, the realms on the way -/
structure Pa where
  f : L
  t : L
  v : List L
/-- realms, links, paths -/
structure Tp where
  R : List L
  K : List Pr
  P : List Pa
/-- place i of a row of pairs, of paths -/
def kl (K : List Pr) (i : Nat) : Pr := K.getD i ([], [])
def al (P : List Pa) (i : Nat) : Pa := P.getD i ⟨[], [], []⟩
theorem kl_lt {K : List Pr} {i : Nat} (h : i < K.length) : kl K i = K[i] := by simp [kl, h]
theorem al_lt {P : List Pa} {i : Nat} (h : i < P.length) : al P i = P[i] := by simp [al, h]
theorem kl_mem {K : List Pr} {i : Nat} (h : i < K.length) : kl K i ∈ K := by rw [kl_lt h]; exact List.getElem_mem h
theorem mem_kl {K : List Pr} {x : Pr} (h : x ∈ K) : ∃ i, i < K.length ∧ kl K i = x := by
  obtain ⟨i, hi, e⟩ := List.getElem_of_mem h
  exact ⟨i, hi, by rw [kl_lt hi]; exact e⟩
theorem al_mem {P : List Pa} {i : Nat} (h : i < P.length) : al P i ∈ P := by rw [al_lt h]; exact List.getElem_mem h
theorem mem_al {P : List Pa} {x : Pa} (h : x ∈ P) : ∃ i, i < P.length ∧ al P i = x := by
  obtain ⟨i, hi, e⟩ := List.getElem_of_mem h
  exact ⟨i, hi, by rw [al_lt hi]; exact e⟩

/-! ### none twice -/
section
variable {α : Type}
theorem take_succ {l : List α} {i : Nat} (h : i < l.length) : l.take (i + 1) = l.take i ++ [l[i]] := List.take_succ_eq_append_getElem h
theorem nodup_succ {l : List α} {i : Nat} (h : i < l.length) : (l.take (i + 1)).Nodup ↔ (l.take i).Nodup ∧ l[i] ∉ l.take i := by
  rw [take_succ h, List.nodup_append]
  constructor
  · rintro ⟨h1, _, h3⟩
    exact ⟨h1, fun hm => h3 _ hm _ (by simp) rfl⟩
  · rintro ⟨h1, h2⟩
    refine ⟨h1, by simp, fun a ha b hb => ?_⟩
    rw [List.mem_singleton] at hb
    subst hb
    rintro rfl
    exact h2 ha
theorem nodup_take {l : List α} {i : Nat} (h : l.Nodup) : (l.take i).Nodup := h.sublist (List.take_sublist _ _)
theorem all_succ {l : List α} {p : α → Bool} {i : Nat} (h : i < l.length) : (l.take (i + 1)).all p = ((l.take i).all p && p l[i]) := by
  rw [take_succ h, List.all_append, List.all_cons, List.all_nil, Bool.and_true]
theorem all_false {l : List α} {p : α → Bool} {i : Nat} (h : i < l.length) (hp : p l[i] = false) : l.all p = false := by
  cases q : l.all p with
  | false => rfl
  | true => rw [List.all_eq_true] at q; rw [q _ (List.getElem_mem h)] at hp; cases hp
theorem all_take {l : List α} {p : α → Bool} {i : Nat} (h : l.length ≤ i) (hp : (l.take i).all p = true) : l.all p = true := by
  rwa [List.take_of_length_le h] at hp
end

/-! ### which may be -/
def realmsB (R : List L) : Bool := R.all isL && decide R.Nodup
def pairB (R : List L) (p : Pr) : Bool := decide (p.1 ≠ p.2) && (decide (p.1 ∈ R) && decide (p.2 ∈ R))
def pairsB (K : List Pr) (R : List L) : Bool := K.all (pairB R) && decide K.Nodup
def onB (R : List L) (p : Pa) (r : L) : Bool := decide (r ≠ p.f) && (decide (r ≠ p.t) && decide (r ∈ R))
def viaB (R : List L) (p : Pa) : Bool := decide (p.v.length ≤ 4) && (p.v.all (onB R p) && decide p.v.Nodup)
def endsL (P : List Pa) : List Pr := P.map fun p => (p.f, p.t)
def pathsB (P : List Pa) (R : List L) : Bool := P.all (viaB R) && pairsB (endsL P) R
def isT (T : Tp) : Bool := (decide (1 ≤ T.R.length) && decide (T.R.length ≤ 6)) && ((decide (T.K.length ≤ 20) && decide (T.P.length ≤ 8)) && (realmsB T.R && (pairsB T.K T.R && pathsB T.P T.R)))
/-- as the document's own goes -/
def pathB (R : List L) (p : Pa) : Bool := pairB R (p.f, p.t) && viaB R p
theorem paths_eq (P : List Pa) (R : List L) : pathsB P R = (P.all (pathB R) && decide (endsL P).Nodup) := by
  rw [pathsB, pairsB, ← Bool.and_assoc]
  congr 1
  induction P with
  | nil => rfl
  | cons a t ih =>
    simp only [List.all_cons, endsL, List.map_cons, pathB] at ih ⊢
    rw [← ih]
    cases viaB R a <;> cases pairB R (a.f, a.t) <;> simp

/-! ### what is laid down, the next realm, the way -/
def linkL (T : Tp) (a b : L) : Bool := decide ((a, b) ∈ T.K)
def isP (a b : L) (p : Pa) : Bool := decide (p.f = a) && decide (p.t = b)
def laidI (T : Tp) (a b : L) : Nat := T.P.findIdx (isP a b)
def laidB (T : Tp) (a b : L) : Bool := decide (laidI T a b < T.P.length)
def vL (T : Tp) (a b : L) : List L := (al T.P (laidI T a b)).v
def viaL (T : Tp) (a b : L) : List L := if laidB T a b then vL T a b else betweenL a b
/-- the realms that may be next, the best one first -/
def stepsL (T : Tp) (a b : L) : List L := if laidB T a b then [(vL T a b).headD b] else b :: (betweenL a b).reverse
def nextO (T : Tp) (a b : L) : Option L := if a = b then none else (stepsL T a b).find? (linkL T a)
def nxS (T : Tp) (a b : L) : L := (nextO T a b).getD []
def nxB (T : Tp) (a b : L) : Bool := (nextO T a b).isSome
/-- the way, in g steps at most: from the realm at, with l behind it -/
def walkF (T : Tp) (a b : L) : Nat → L → List L → Option (List L)
  | 0, _, _ => none
  | g + 1, x, l => if x = b then some l else
    match nextO T x b with
    | none => none
    | some n => if n = a ∨ n ∈ l then none else
      let m := if n = b then l else l ++ [n]
      if 5 < m.length then none else walkF T a b g n m
def walkO (T : Tp) (a b : L) : Option (List L) := walkF T a b 7 a []
def wkL (T : Tp) (a b : L) : List L := (walkO T a b).getD []
def wkB (T : Tp) (a b : L) : Bool := (walkO T a b).isSome
def allowB (T : Tp) (a b : L) (l : List L) : Bool := l.all fun r => decide (r ∈ viaL T a b)

theorem laid_at {T : Tp} {a b : L} {i : Nat} (hi : i < T.P.length) (h : isP a b (al T.P i) = true) (hn : ∀ k, k < i → isP a b (al T.P k) = false) : laidI T a b = i := by
  rcases Nat.lt_trichotomy (laidI T a b) i with g | g | g
  · have h1 := List.findIdx_getElem (p := isP a b) (xs := T.P) (w := Nat.lt_trans g hi)
    have h2 := hn _ g
    rw [al_lt (Nat.lt_trans g hi)] at h2
    exact absurd (h1.symm.trans h2) (by simp)
  · exact g
  · have h1 := List.not_of_lt_findIdx g
    rw [al_lt hi] at h
    simp [h] at h1
theorem laid_none {T : Tp} {a b : L} (hn : ∀ k, k < T.P.length → isP a b (al T.P k) = false) : laidI T a b = T.P.length := by
  have h1 : laidI T a b ≤ T.P.length := List.findIdx_le_length
  rcases Nat.lt_or_ge (laidI T a b) T.P.length with g | g
  · have h2 := List.findIdx_getElem (p := isP a b) (xs := T.P) (w := g)
    have h3 := hn _ g
    rw [al_lt g] at h3
    exact absurd (h2.symm.trans h3) (by simp)
  · omega
theorem via_len {T : Tp} {a b : L} (h : ∀ p ∈ T.P, p.v.length ≤ 3000) : (viaL T a b).length ≤ 3000 := by
  rw [viaL]
  split
  · rename_i q
    rw [laidB, decide_eq_true_eq] at q
    exact h _ (al_mem q)
  · have := between_len a b; omega
end Go.Proofs.Ytnalnhplcchdoaa.Rt
