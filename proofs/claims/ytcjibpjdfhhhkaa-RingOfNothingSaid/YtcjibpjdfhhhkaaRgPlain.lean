/-
  Plain mathematics of chapter 9: a ring's keys, in order: numbers, the last one, which one a number names.
-/
import Derived.Test.YtcjibpjdfhhhkaaNmPrinc
set_option linter.unusedVariables false
namespace Go.Proofs.Ytcjibpjdfhhhkaa.Rg
open Go.Proofs.Ytcjibpjdfhhhkaa.Nm (princL L)

abbrev Pr := L × L
def prB (p : Pr) : Bool := princL p.1 p.2
/-- a principal's key, and its number -/
structure It where
  p : Pr
  n : Nat
  k : Nat → UInt8
def hit (i : It) (p : Pr) (n : Int) : Bool := decide (i.p = p) && decide ((i.n : Int) = n)
/-- the first one that is p's, of this number -/
def firstI (l : List It) (p : Pr) (n : Int) : Option Nat := l.findIdx? (fun i => hit i p n)
/-- p's last one ahead of place i -/
def lastTo (l : List It) (p : Pr) : Nat → Option Nat
  | 0 => none
  | i + 1 => if (l[i]?).map (·.p) = some p then some i else lastTo l p i
def lastI (l : List It) (p : Pr) : Option Nat := lastTo l p l.length
def numO (l : List It) : Option Nat → Nat
  | none => 0
  | some i => ((l[i]?).map (·.n)).getD 0
/-- the number of p's last key; 0: it has none -/
def lastN (l : List It) (p : Pr) : Nat := numO l (lastI l p)
/-- each one's number is one more than that of the one ahead of it -/
def Num (l : List It) : Prop := ∀ j i, l[j]? = some i → i.n = numO l (lastTo l i.p j) + 1
/-- what Add answers, and leaves -/
def addN (l : List It) (p : Pr) : Nat := if prB p = true then (if l.length < 40 then lastN l p + 1 else 0) else 0
def addE (l : List It) (p : Pr) : Nat := if prB p = true then (if l.length < 40 then 0 else 13) else 1
def addL (l : List It) (p : Pr) (k : Nat → UInt8) : List It := if prB p = true then (if l.length < 40 then l ++ [⟨p, lastN l p + 1, k⟩] else l) else l

theorem lastTo_some {l : List It} {p : Pr} : ∀ {i j : Nat}, lastTo l p i = some j → j < i ∧ ∃ x, l[j]? = some x ∧ x.p = p
  | 0, j, h => by cases h
  | i + 1, j, h => by
    unfold lastTo at h
    split at h
    · rename_i e
      injection h with h
      subst h
      obtain ⟨x, h1, h2⟩ := Option.map_eq_some_iff.1 e
      exact ⟨Nat.lt_succ_self _, x, h1, h2⟩
    · obtain ⟨h1, h2⟩ := lastTo_some h
      exact ⟨Nat.lt_succ_of_lt h1, h2⟩
theorem lastTo_none {l : List It} {p : Pr} : ∀ {i : Nat}, lastTo l p i = none → ∀ j x, j < i → l[j]? = some x → x.p ≠ p
  | 0, _, _, _, hj, _ => absurd hj (Nat.not_lt_zero _)
  | i + 1, h, j, x, hj, hx => by
    unfold lastTo at h
    split at h
    · cases h
    · rename_i e
      by_cases q : j = i
      · subst q
        intro hp
        exact e (by rw [hx, ← hp]; rfl)
      · exact lastTo_none h j x (by omega) hx
theorem lastTo_app {l m : List It} {p : Pr} : ∀ {i : Nat}, i ≤ l.length → lastTo (l ++ m) p i = lastTo l p i
  | 0, _ => rfl
  | i + 1, h => by unfold lastTo; rw [List.getElem?_append_left (by omega), lastTo_app (by omega)]
theorem numO_app {l m : List It} {o : Option Nat} (h : ∀ i, o = some i → i < l.length) : numO (l ++ m) o = numO l o := by
  cases o with
  | none => rfl
  | some i => show (((l ++ m)[i]?).map (·.n)).getD 0 = ((l[i]?).map (·.n)).getD 0; rw [List.getElem?_append_left (h i rfl)]
theorem lastTo_in {l : List It} {p : Pr} {i j : Nat} (h : lastTo l p i = some j) : j < l.length := by
  obtain ⟨_, x, h1, _⟩ := lastTo_some h
  exact (List.getElem?_eq_some_iff.1 h1).1
theorem lastN_snoc (l : List It) (i : It) (p : Pr) : lastN (l ++ [i]) p = if i.p = p then i.n else lastN l p := by
  unfold lastN lastI
  rw [List.length_append, List.length_singleton, lastTo]
  simp only [List.getElem?_append_right (Nat.le_refl _), Nat.sub_self, List.getElem?_cons_zero, Option.map_some, Option.some.injEq]
  by_cases h : i.p = p
  · rw [if_pos h, if_pos h]
    simp [numO]
  · rw [if_neg h, if_neg h, lastTo_app (Nat.le_refl _), numO_app (fun j hj => lastTo_in hj)]
theorem num_nil : Num [] := fun j i h => by simp at h
theorem num_snoc {l : List It} {i : It} (h : Num l) (hi : i.n = lastN l i.p + 1) : Num (l ++ [i]) := fun j x hx => by
  by_cases g : j < l.length
  · rw [List.getElem?_append_left g] at hx
    rw [lastTo_app (by omega), numO_app (fun q hq => lastTo_in hq)]
    exact h j x hx
  · have hj := (List.getElem?_eq_some_iff.1 hx).1
    obtain rfl : j = l.length := by simp at hj; omega
    rw [List.getElem?_append_right (Nat.le_refl _), Nat.sub_self] at hx
    injection hx with hx
    subst hx
    rw [lastTo_app (Nat.le_refl _), numO_app (fun q hq => lastTo_in hq)]
    exact hi
theorem num_to_le {l : List It} (h : Num l) (p : Pr) : ∀ i, numO l (lastTo l p i) ≤ i
  | 0 => Nat.le_refl _
  | i + 1 => by
    unfold lastTo
    split
    · rename_i e
      obtain ⟨x, h1, h2⟩ := Option.map_eq_some_iff.1 e
      have h3 := h i x h1
      have h4 := num_to_le h p i
      rw [h2] at h3
      simp only [numO, h1, Option.map_some, Option.getD_some]
      omega
    · have := num_to_le h p i; omega
theorem last_le {l : List It} (h : Num l) (p : Pr) : lastN l p ≤ l.length := num_to_le h p _
/-- numbers go up -/
theorem num_up {l : List It} (h : Num l) {p : Pr} {j : Nat} {x : It} (hx : l[j]? = some x) (hp : x.p = p) : ∀ i, j < i → x.n ≤ numO l (lastTo l p i)
  | 0, hj => absurd hj (Nat.not_lt_zero _)
  | i + 1, hj => by
    unfold lastTo
    by_cases q : j = i
    · subst q
      rw [if_pos (by rw [hx, ← hp]; rfl)]
      simp [numO, hx]
    · have ih := num_up h hx hp i (by omega)
      split
      · rename_i e
        obtain ⟨y, h1, h2⟩ := Option.map_eq_some_iff.1 e
        have h3 := h i y h1
        rw [h2] at h3
        simp only [numO, h1, Option.map_some, Option.getD_some]
        omega
      · exact ih
theorem hit_iff {x : It} {p : Pr} {n : Int} : hit x p n = true ↔ x.p = p ∧ (x.n : Int) = n := by simp [hit]
theorem first_some {l : List It} {p : Pr} {n : Int} {i : Nat} (h : firstI l p n = some i) : ∃ x, l[i]? = some x ∧ x.p = p ∧ (x.n : Int) = n := by
  obtain ⟨h1, h2, _⟩ := List.findIdx?_eq_some_iff_getElem.1 h
  exact ⟨l[i], List.getElem?_eq_getElem h1, hit_iff.1 h2⟩
theorem first_at {l : List It} {p : Pr} {n : Int} {i : Nat} {x : It} (hx : l[i]? = some x) (hp : x.p = p) (hn : (x.n : Int) = n) (hj : ∀ (j : Nat) (y : It), j < i → l[j]? = some y → ¬ (y.p = p ∧ (y.n : Int) = n)) : firstI l p n = some i := by
  obtain ⟨h1, h2⟩ := List.getElem?_eq_some_iff.1 hx
  refine List.findIdx?_eq_some_iff_getElem.2 ⟨h1, by rw [h2]; exact hit_iff.2 ⟨hp, hn⟩, fun j hji hh => ?_⟩
  exact hj j _ hji (List.getElem?_eq_getElem (by omega)) (hit_iff.1 hh)
theorem first_none {l : List It} {p : Pr} {n : Int} (hj : ∀ (j : Nat) (y : It), l[j]? = some y → ¬ (y.p = p ∧ (y.n : Int) = n)) : firstI l p n = none := by
  refine List.findIdx?_eq_none_iff.2 fun x hx => ?_
  obtain ⟨j, hj1, hj2⟩ := List.getElem_of_mem hx
  have := hj j x (by rw [← hj2]; exact List.getElem?_eq_getElem hj1)
  rw [← hit_iff] at this
  simpa using this
/-- the last one is the one that its number names -/
theorem first_last {l : List It} (h : Num l) (p : Pr) : firstI l p (lastN l p : Int) = lastI l p := by
  cases e : lastI l p with
  | none =>
    refine first_none fun j y hy hh => ?_
    exact lastTo_none e j y (List.getElem?_eq_some_iff.1 hy).1 hy hh.1
  | some i =>
    obtain ⟨h1, x, h2, h3⟩ := lastTo_some e
    have hn : lastN l p = x.n := by rw [lastN, e]; simp [numO, h2]
    refine first_at h2 h3 (by rw [hn]) fun j y hj hy hh => ?_
    have h4 := num_up h hy hh.1 i hj
    have h5 := h i x h2
    rw [h3] at h5
    rw [hn] at hh
    omega
theorem add_num {l : List It} (h : Num l) (p : Pr) (k : Nat → UInt8) : Num (addL l p k) := by
  unfold addL
  split
  · split
    · exact num_snoc h rfl
    · exact h
  · exact h
theorem add_len {l : List It} (p : Pr) (k : Nat → UInt8) (h : l.length ≤ 40) : (addL l p k).length ≤ 40 := by
  unfold addL
  split
  · split
    · simp; omega
    · exact h
  · exact h
end Go.Proofs.Ytcjibpjdfhhhkaa.Rg
