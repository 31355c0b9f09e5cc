/-
  The law on rows: many elements laid one behind the other, and what is left of them: plain.
-/
import Derived.Test.YtkkpcnibghndgaaDerGood
import Derived.Test.YtkkpcnibghndgaaRegion2
set_option linter.unusedVariables false
namespace Go.Proofs.Ytkkpcnibghndgaa.DerL
open Go.RowKit Go.Proofs.Ytkkpcnibghndgaa.Mem Go.Proofs.Ytkkpcnibghndgaa.DerP

def nat_ (ns : List Int) (k : Nat) : Int := ns.getD k 0
def row_ (ls : List L) (k : Nat) : L := ls.getD k []
def enI (ns : List Int) : L := (ns.map encI).flatten
def enO (ls : List L) : L := (ls.map (elem 4)).flatten
/-- laid up to k -/
def bI (ns : List Int) (k : Nat) : L := enI (ns.take k)
def bO (base : L) (ls : List L) (k : Nat) : L := base ++ enO (ls.take k)
/-- left from k on -/
def rI (ns : List Int) (tail : L) (k : Nat) : L := enI (ns.drop k) ++ tail
def rO (ls : List L) (k : Nat) : L := enO (ls.drop k)
def okI (ns : List Int) (k : Nat) : Prop := ∀ j, j < k → 0 ≤ nat_ ns j ∧ nat_ ns j ≤ 4611686018427387904
def sumL (ls : List L) (k : Nat) : Nat := ((ls.take k).map (fun l => 1 + l.length)).sum

theorem take_one {α : Type} (l : List α) (k : Nat) (h : k < l.length) : l.take (k + 1) = l.take k ++ [l[k]] := (List.take_append_getElem h).symm
theorem bI_zero (ns : List Int) : bI ns 0 = [] := by simp [bI, enI]
theorem bI_succ (ns : List Int) (k : Nat) (h : k < ns.length) : bI ns (k + 1) = bI ns k ++ encI (nat_ ns k) := by
  simp only [bI, enI, nat_, take_one ns k h, List.getD, List.getElem?_eq_getElem h, List.map_append, List.map_cons, List.map_nil, List.flatten_append, List.flatten_cons, List.flatten_nil, List.append_nil, Option.getD_some]
theorem bI_le (ns : List Int) (k : Nat) : (bI ns k).length ≤ 12 * k := by
  have key : ∀ (l : List Int), (enI l).length ≤ 12 * l.length := by
    intro l
    induction l with
    | nil => simp [enI]
    | cons a r ih =>
      have := enc_small a
      simp only [enI, List.map_cons, List.flatten_cons, List.length_append, List.length_cons] at *
      omega
  have h1 := key (ns.take k)
  have h2 : (ns.take k).length ≤ k := List.length_take_le k ns
  simp only [bI]; omega
theorem bO_zero (b : L) (ls : List L) : bO b ls 0 = b := by simp [bO, enO]
theorem bO_succ (b : L) (ls : List L) (k : Nat) (h : k < ls.length) : bO b ls (k + 1) = bO b ls k ++ elem 4 (row_ ls k) := by
  simp only [bO, enO, row_, take_one ls k h, List.getD, List.getElem?_eq_getElem h, List.map_append, List.map_cons, List.map_nil, List.flatten_append, List.flatten_cons, List.flatten_nil, List.append_nil, Option.getD_some, List.append_assoc]
theorem sumL_zero (ls : List L) : sumL ls 0 = 0 := by simp [sumL]
theorem sumL_succ (ls : List L) (k : Nat) (h : k < ls.length) : sumL ls (k + 1) = sumL ls k + 1 + (row_ ls k).length := by
  simp only [sumL, row_, take_one ls k h, List.getD, List.getElem?_eq_getElem h, List.map_append, List.map_cons, List.map_nil, List.sum_append, List.sum_cons, List.sum_nil, Option.getD_some]
  omega
theorem bO_le (b : L) (ls : List L) (k : Nat) : (bO b ls k).length ≤ b.length + 4 * sumL ls k := by
  have key : ∀ (l : List L), (enO l).length ≤ 4 * ((l.map (fun l => 1 + l.length)).sum) := by
    intro l
    induction l with
    | nil => simp [enO]
    | cons a r ih =>
      have := elem_le 4 a
      simp only [enO, List.map_cons, List.flatten_cons, List.length_append, List.sum_cons] at *
      omega
  have h1 := key (ls.take k)
  simp only [bO, sumL, List.length_append]; omega
theorem rI_step (ns : List Int) (t : L) (k : Nat) (h : k < ns.length) : rI ns t k = encI (nat_ ns k) ++ rI ns t (k + 1) := by
  simp only [rI, enI, nat_, List.getD, List.getElem?_eq_getElem h, Option.getD_some]
  rw [List.drop_eq_getElem_cons h, List.map_cons, List.flatten_cons, List.append_assoc]
theorem rI_end (ns : List Int) (t : L) : rI ns t ns.length = t := by simp [rI, enI]
theorem rO_step (ls : List L) (k : Nat) (h : k < ls.length) : rO ls k = elem 4 (row_ ls k) ++ rO ls (k + 1) := by
  simp only [rO, enO, row_, List.getD, List.getElem?_eq_getElem h, Option.getD_some]
  rw [List.drop_eq_getElem_cons h, List.map_cons, List.flatten_cons]
theorem rO_end (ls : List L) : rO ls ls.length = [] := by simp [rO, enO]
theorem laid_all (ns : List Int) (ls : List L) : bO (bI ns ns.length) ls ls.length = rI ns (rO ls 0) 0 := by
  simp [bO, bI, rI, rO]
theorem rI_le (ns : List Int) (t : L) (k : Nat) : (rI ns t k).length ≤ (rI ns t 0).length := by
  have e : rI ns t 0 = enI (ns.take k) ++ rI ns t k := by
    simp only [rI, List.drop_zero, ← List.append_assoc]
    congr 1
    rw [enI, enI, enI, ← List.flatten_append, ← List.map_append, List.take_append_drop]
  rw [e, List.length_append]; omega
theorem rO_le (ls : List L) (k : Nat) : (rO ls k).length ≤ (rO ls 0).length := by
  have e : rO ls 0 = enO (ls.take k) ++ rO ls k := by
    simp only [rO, List.drop_zero]
    rw [enO, enO, enO, ← List.flatten_append, ← List.map_append, List.take_append_drop]
  rw [e, List.length_append]; omega
theorem okI_zero (ns : List Int) : okI ns 0 := fun j h => by omega
theorem okI_succ {ns : List Int} {k : Nat} (h : okI ns k) (h0 : 0 ≤ nat_ ns k) (h1 : nat_ ns k ≤ 4611686018427387904) : okI ns (k + 1) := fun j hj => by
  by_cases e : j = k
  · subst e; exact ⟨h0, h1⟩
  · exact h j (by omega)
theorem row_le (ls : List L) (k : Nat) (h : k < ls.length) : (row_ ls k).length ≤ sumL ls (k + 1) := by rw [sumL_succ ls k h]; omega
theorem sumL_mono (ls : List L) (k : Nat) : sumL ls k ≤ sumL ls ls.length := by
  have key : ∀ (l : List L) (k : Nat), sumL l k ≤ sumL l l.length := by
    intro l
    induction l with
    | nil => intro k; simp [sumL]
    | cons a r ih =>
      intro k
      cases k with
      | zero => simp [sumL]
      | succ k =>
        have := ih k
        simp only [sumL, List.length_cons, List.take_succ_cons, List.map_cons, List.sum_cons] at *
        omega
  exact key ls k

/-- what a row of the call's own is, nil or not -/
theorem own_any {w : World} {base n : Nat} {t : TypeId} {v : Value} {l : L} (h : w.ownsRow base t 1 v n (bvs l)) : ∃ A cap, v = .slice A l.length cap ∧ Rd w w.heap.size A (bvs l) := by
  have hn : n = l.length := by have := h.1; rw [bvs_length] at this; omega
  subst hn
  rcases h.2 with ⟨rfl, h2⟩ | ⟨g, cap, cur, rfl, _, _, _, _⟩
  · have : l = [] := List.length_eq_zero_iff.1 h2
    subst this
    exact ⟨none, 0, rfl, .inl rfl⟩
  · exact ⟨_, cap, rfl, Rd.of_own h⟩
theorem int_cell {w : World} {B : Nat} {A : Option Addr} {ns : List Int} (h : Rd w B A (ns.map (Value.int .i64))) {k : Nat} (hk : k < ns.length) :
    ∃ b o, A = some ⟨b, o, none⟩ ∧ b < B ∧ w.cell? ⟨b, o + k, none⟩ = some (.int .i64 (nat_ ns k)) := by
  obtain ⟨b, o, h1, h2, h3⟩ := h.at_ (i := k) (u := .int .i64 (nat_ ns k)) (by simp [nat_, List.getD, hk])
  exact ⟨b, o, h1, h2, h3⟩
theorem row_cell {w : World} {B : Nat} {A : Option Addr} {ls : List L} (h : DerW.Rds w B A ls) {k : Nat} (hk : k < ls.length) :
    ∃ b o, A = some ⟨b, o, none⟩ ∧ b < B ∧ ∃ A' c', w.cell? ⟨b, o + k, none⟩ = some (.slice A' (row_ ls k).length c') ∧ Rd w B A' (bvs (row_ ls k)) := by
  obtain ⟨b, o, h1, h2, A', c', h3, h4⟩ := h.at_ (i := k) (l := row_ ls k) (by simp [row_, List.getD, hk])
  exact ⟨b, o, h1, h2, A', c', h3, h4⟩

end Go.Proofs.Ytkkpcnibghndgaa.DerL
