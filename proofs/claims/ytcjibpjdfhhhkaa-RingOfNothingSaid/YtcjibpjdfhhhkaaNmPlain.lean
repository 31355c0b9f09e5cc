/-
  Plain mathematics of chapter 5: labels, realms, what is above one, what stands between two. No program is named.
-/
namespace Go.Proofs.Ytcjibpjdfhhhkaa.Nm
abbrev L := List UInt8

/-! ### letters, labels -/
def capB (b : UInt8) : Bool := decide (65 ≤ b.toNat) && decide (b.toNat ≤ 90)
def smallB (b : UInt8) : Bool := decide (97 ≤ b.toNat) && decide (b.toNat ≤ 122)
def wordB (b : UInt8) : Bool := smallB b || (decide (48 ≤ b.toNat) && decide (b.toNat ≤ 57))
def wordL (p : UInt8 → Bool) (l : L) : Bool := decide (1 ≤ l.length) && (decide (l.length ≤ 8) && l.all p)
theorem wordL_nil (p : UInt8 → Bool) : wordL p [] = false := rfl
theorem wordL_iff (p : UInt8 → Bool) (l : L) : wordL p l = true ↔ 1 ≤ l.length ∧ l.length ≤ 8 ∧ l.all p = true := by simp [wordL]

/-! ### a text cut at a byte -/
def hasC (c : UInt8) (l : L) : Bool := l.any fun x => decide (x = c)
def bef (c : UInt8) : L → L
  | [] => []
  | x :: r => if x = c then [] else x :: bef c r
def aft (c : UInt8) : L → L
  | [] => []
  | x :: r => if x = c then r else aft c r
theorem hasC_iff (c : UInt8) (l : L) : hasC c l = true ↔ c ∈ l := by simp [hasC]
theorem hasC_false (c : UInt8) (l : L) : hasC c l = false ↔ c ∉ l := by rw [← hasC_iff]; simp
theorem bef_none {c : UInt8} {l : L} (h : c ∉ l) : bef c l = l := by
  induction l with
  | nil => rfl
  | cons x r ih =>
    simp only [List.mem_cons, not_or] at h
    rw [bef, if_neg (fun e => h.1 e.symm), ih h.2]
theorem aft_none {c : UInt8} {l : L} (h : c ∉ l) : aft c l = [] := by
  induction l with
  | nil => rfl
  | cons x r ih =>
    simp only [List.mem_cons, not_or] at h
    rw [aft, if_neg (fun e => h.1 e.symm), ih h.2]
theorem bef_not (c : UInt8) (l : L) : c ∉ bef c l := by
  induction l with
  | nil => simp [bef]
  | cons x r ih =>
    rw [bef]; split
    · simp
    · rename_i h; simp only [List.mem_cons, not_or]; exact ⟨fun e => h e.symm, ih⟩
theorem cut_eq {c : UInt8} {l : L} (h : c ∈ l) : l = bef c l ++ c :: aft c l := by
  induction l with
  | nil => simp at h
  | cons x r ih =>
    by_cases e : x = c
    · simp [bef, aft, e]
    · rw [bef, aft, if_neg e, if_neg e]
      have : c ∈ r := (List.mem_cons.1 h).resolve_left fun g => e g.symm
      simpa using ih this
theorem bef_at {c : UInt8} {u v : L} (h : c ∉ u) : bef c (u ++ c :: v) = u := by
  induction u with
  | nil => simp [bef]
  | cons x r ih =>
    simp only [List.mem_cons, not_or] at h
    rw [List.cons_append, bef, if_neg (fun e => h.1 e.symm), ih h.2]
theorem aft_at {c : UInt8} {u v : L} (h : c ∉ u) : aft c (u ++ c :: v) = v := by
  induction u with
  | nil => simp [aft]
  | cons x r ih =>
    simp only [List.mem_cons, not_or] at h
    rw [List.cons_append, aft, if_neg (fun e => h.1 e.symm), ih h.2]
theorem aft_len (c : UInt8) (l : L) : (aft c l).length ≤ l.length := by
  induction l with
  | nil => simp [aft]
  | cons x r ih => rw [aft]; split <;> simp <;> omega
theorem aft_lt {c : UInt8} {l : L} (h : l ≠ []) : (aft c l).length < l.length := by
  cases l with
  | nil => exact absurd rfl h
  | cons x r => rw [aft]; have := aft_len c r; split <;> simp <;> omega
theorem bef_len (c : UInt8) (l : L) : (bef c l).length ≤ l.length := by
  induction l with
  | nil => simp [bef]
  | cons x r ih => rw [bef]; split <;> simp <;> omega
/-- a text cut at the last place of a byte -/
theorem last_cut {c : UInt8} {l : L} (h : c ∈ l) : ∃ u v, l = u ++ c :: v ∧ c ∉ v := by
  refine ⟨(aft c l.reverse).reverse, (bef c l.reverse).reverse, ?_, by simpa using bef_not c l.reverse⟩
  have h' : c ∈ l.reverse := by simpa using h
  have := congrArg List.reverse (cut_eq h')
  simpa using this

/-- what stands between a byte -/
def split (c : UInt8) : L → List L
  | [] => [[]]
  | x :: r => if x = c then [] :: split c r else match split c r with
    | [] => [[x]]
    | a :: t => (x :: a) :: t
theorem split_ne (c : UInt8) (l : L) : split c l ≠ [] := by
  cases l with
  | nil => simp [split]
  | cons x r =>
    rw [split]; split
    · simp
    · split <;> simp
theorem split_len (c : UInt8) (l : L) : 1 ≤ (split c l).length := by
  have := split_ne c l
  cases h : split c l with
  | nil => exact absurd h this
  | cons a t => simp
theorem split_none {c : UInt8} {l : L} (h : c ∉ l) : split c l = [l] := by
  induction l with
  | nil => rfl
  | cons x r ih =>
    simp only [List.mem_cons, not_or] at h
    rw [split, if_neg (fun e => h.1 e.symm), ih h.2]
theorem split_at {c : UInt8} (u v : L) : split c (u ++ c :: v) = split c u ++ split c v := by
  induction u with
  | nil => simp [split]
  | cons x r ih =>
    rw [List.cons_append, split, split]
    split
    · rw [ih]; rfl
    · rw [ih]
      cases h : split c r with
      | nil => exact absurd h (split_ne c r)
      | cons a t => rfl
theorem split_head {c : UInt8} {u v : L} (h : c ∉ u) : split c (u ++ c :: v) = u :: split c v := by rw [split_at, split_none h]; rfl
theorem split_cut (c : UInt8) (l : L) : split c l = if hasC c l then bef c l :: split c (aft c l) else [l] := by
  by_cases h : c ∈ l
  · rw [if_pos ((hasC_iff c l).2 h)]
    conv => lhs; rw [cut_eq h]
    exact split_head (bef_not c l)
  · rw [if_neg (by rw [hasC_iff]; exact h)]; exact split_none h

/-! ### labels -/
def labsL (ls : List L) : Bool := decide (1 ≤ ls.length) && (decide (ls.length ≤ 4) && ls.all (wordL capB))
theorem labsL_iff (ls : List L) : labsL ls = true ↔ 1 ≤ ls.length ∧ ls.length ≤ 4 ∧ ls.all (wordL capB) = true := by simp [labsL]
/-- as many labels as n at most, by cutting -/
def areL (c : UInt8) : Nat → L → Bool
  | 0, _ => false
  | n + 1, l => wordL capB (bef c l) && (if hasC c l then areL c n (aft c l) else true)
theorem areL_eq (c : UInt8) (n : Nat) : ∀ l : L, areL c n l = (decide ((split c l).length ≤ n) && (split c l).all (wordL capB)) := by
  induction n with
  | zero => intro l; have := split_len c l; rw [areL, decide_eq_false (by omega)]; rfl
  | succ n ih =>
    intro l
    rw [areL, ih, split_cut c l]
    by_cases h : c ∈ l
    · rw [(hasC_iff c l).2 h, if_pos rfl, if_pos rfl]
      simp only [List.length_cons, List.all_cons, Nat.add_le_add_iff_right]
      cases wordL capB (bef c l) <;> simp
    · rw [(hasC_false c l).2 h, if_neg (by simp), if_neg (by simp), bef_none h]
      simp
theorem areL_labs (c : UInt8) (l : L) : areL c 4 l = labsL (split c l) := by
  have := split_len c l
  rw [areL_eq, labsL, decide_eq_true this]; rfl

/-! ### realms -/
def slL (l : L) : Bool := decide (l.head? = some 47) && labsL (split 47 l.tail)
def kindL (l : L) : Nat := if slL l then 2 else if labsL (split 46 l) then 1 else 0
theorem dom_head {l : L} (h : labsL (split 46 l) = true) : l.head? ≠ some 47 := by
  intro e
  cases l with
  | nil => simp at e
  | cons x r =>
    simp only [List.head?_cons, Option.some.injEq] at e
    subst e
    have h2 : wordL capB (bef 46 (47 :: r)) = true := by
      have h3 := ((labsL_iff _).1 h).2.2
      rw [split_cut] at h3
      split at h3
      · simp only [List.all_cons, Bool.and_eq_true] at h3; exact h3.1
      · rename_i hn
        rw [bef_none ((hasC_false _ _).1 (by simpa using hn))]
        simpa using h3
    have e2 : bef 46 (47 :: r) = 47 :: bef 46 r := by rw [bef, if_neg (by decide)]
    have h4 := ((wordL_iff _ _).1 h2).2.2
    rw [e2] at h4
    simp [capB] at h4
theorem sl_dom {l : L} (h : labsL (split 46 l) = true) : slL l = false := by
  simp [slL, dom_head h]
theorem kind_dom {l : L} (h : labsL (split 46 l) = true) : kindL l = 1 := by rw [kindL, sl_dom h, h]; rfl
theorem kind_sl {l : L} (h : slL l = true) : kindL l = 2 := by rw [kindL, h]; rfl
/-- the other order of asking -/
theorem kind_order (l : L) : kindL l = if labsL (split 46 l) then 1 else if slL l then 2 else 0 := by
  cases h : labsL (split 46 l) with
  | true => rw [kind_dom h]; rfl
  | false => rw [kindL, h]; rfl
theorem kind_le (l : L) : kindL l ≤ 2 := by rw [kindL]; split <;> (try split) <;> omega
theorem kind_nil : kindL [] = 0 := by decide
theorem kind_one {l : L} (h : kindL l = 1) : labsL (split 46 l) = true := by
  rw [kindL] at h
  split at h
  · omega
  · split at h
    · assumption
    · omega
theorem kind_two {l : L} (h : kindL l = 2) : slL l = true := by
  rw [kindL] at h
  split at h
  · assumption
  · split at h <;> omega

def isL (l : L) : Bool := decide (1 ≤ kindL l)
def upL (l : L) : L := if kindL l = 1 then aft 46 l else if kindL l = 2 then (aft 47 l.reverse).reverse else []
def depL (l : L) : Nat := if kindL l = 1 then (split 46 l).length else if kindL l = 2 then (split 47 l.tail).length else 0
theorem up_none {l : L} (h : kindL l = 0) : upL l = [] := by rw [upL, if_neg (by omega), if_neg (by omega)]
theorem up_nil : upL [] = [] := up_none kind_nil
theorem up_last {u v : L} (h : 47 ∉ v) : (aft 47 (u ++ 47 :: v).reverse).reverse = u := by
  have : (u ++ 47 :: v).reverse = v.reverse ++ 47 :: u.reverse := by simp
  rw [this, aft_at (by simpa using h)]; simp
theorem up_two {l : L} (h : kindL l = 2) : ∃ u v, l = u ++ 47 :: v ∧ 47 ∉ v ∧ upL l = u := by
  have hs := kind_two h
  have hh : l.head? = some 47 := by simp only [slL, Bool.and_eq_true, decide_eq_true_eq] at hs; exact hs.1
  have hm : 47 ∈ l := by cases l with
    | nil => simp at hh
    | cons x r => simp at hh; simp [hh]
  obtain ⟨u, v, e, hv⟩ := last_cut hm
  refine ⟨u, v, e, hv, ?_⟩
  rw [upL, if_neg (by omega), if_pos h]
  conv => lhs; rw [e]
  exact up_last hv
theorem ne_of_kind {l : L} (h : kindL l ≠ 0) : l ≠ [] := fun e => h (by rw [e]; exact kind_nil)
theorem up_lt {l : L} (h : l ≠ []) : (upL l).length < l.length := by
  have := kind_le l
  by_cases h1 : kindL l = 1
  · rw [upL, if_pos h1]; exact aft_lt h
  · by_cases h2 : kindL l = 2
    · obtain ⟨u, v, e, _, eu⟩ := up_two h2
      rw [eu, e]; simp
    · rw [up_none (by omega)]
      cases l with
      | nil => exact absurd rfl h
      | cons x r => simp
theorem dep_le (l : L) : depL l ≤ 4 := by
  rw [depL]
  split
  · rename_i h; exact ((labsL_iff _).1 (kind_one h)).2.1
  · split
    · rename_i h
      have := kind_two h
      simp only [slL, Bool.and_eq_true] at this
      exact ((labsL_iff _).1 this.2).2.1
    · exact Nat.zero_le _
theorem dep_pos {l : L} (h : kindL l ≠ 0) : 1 ≤ depL l := by
  have := kind_le l
  rw [depL]
  split
  · exact split_len _ _
  · rw [if_pos (by omega)]; exact split_len _ _
/-- the realm above is a realm of the same kind, with a label less, or there is none -/
theorem up_kind (l : L) : upL l = [] ∨ (kindL (upL l) = kindL l ∧ depL (upL l) + 1 = depL l) := by
  have hk := kind_le l
  by_cases h1 : kindL l = 1
  · by_cases hm : (46 : UInt8) ∈ l
    · right
      have hl := (labsL_iff _).1 (kind_one h1)
      have e := split_cut 46 l
      rw [if_pos ((hasC_iff _ _).2 hm)] at e
      rw [e] at hl
      simp only [List.length_cons, List.all_cons, Bool.and_eq_true] at hl
      have h2 : labsL (split 46 (aft 46 l)) = true := (labsL_iff _).2 ⟨split_len _ _, by omega, hl.2.2.2⟩
      have eu : upL l = aft 46 l := by rw [upL, if_pos h1]
      have hk2 := kind_dom h2
      rw [eu]
      refine ⟨by rw [hk2, h1], ?_⟩
      rw [depL, if_pos hk2, depL, if_pos h1, e]; rfl
    · left; rw [upL, if_pos h1]; exact aft_none hm
  · by_cases h2 : kindL l = 2
    · obtain ⟨u, v, e, hv, eu⟩ := up_two h2
      have hs := kind_two h2
      simp only [slL, Bool.and_eq_true, decide_eq_true_eq] at hs
      cases u with
      | nil => left; rw [eu]
      | cons x u' =>
        right
        have hx : x = 47 := by rw [e] at hs; simpa using hs.1
        subst hx
        have et : l.tail = u' ++ 47 :: v := by rw [e]; rfl
        have es : split 47 l.tail = split 47 u' ++ [v] := by rw [et, split_at, split_none hv]
        have hl := (labsL_iff _).1 hs.2
        rw [es] at hl
        simp only [List.length_append, List.length_cons, List.length_nil, List.all_append, Bool.and_eq_true] at hl
        have h3 : labsL (split 47 u') = true := (labsL_iff _).2 ⟨split_len _ _, by omega, hl.2.2.1⟩
        have h4 : slL (47 :: u') = true := by simp [slL, h3]
        have h5 := kind_sl h4
        rw [eu]
        refine ⟨by rw [h5, h2], ?_⟩
        rw [depL, if_neg (by omega), if_pos h5, depL, if_neg (by omega), if_pos h2, es]; simp
    · left; exact up_none (by omega)
end Go.Proofs.Ytcjibpjdfhhhkaa.Nm
