/-
  What the bound of the second form gives: how long texts and rows of texts that came in are.
-/
import Derived.Test.YtnalnhplcchdoaaOpenS
import Derived.Test.YtnalnhplcchdoaaRows
namespace Go.Proofs.Ytnalnhplcchdoaa.Open
open Go.Proofs.Ytnalnhplcchdoaa

theorem bulk_in {H : Type} {d : DataW H} {l : List (DataW H)} (h : d ∈ l) : Rows.uptoBulk d ≤ Rows.uptoBulkAll l := by
  induction l with
  | nil => cases h
  | cons x r ih =>
    rw [Rows.uptoBulkAll]
    rcases List.mem_cons.1 h with e | e
    · rw [e]; omega
    · have := ih e; omega
theorem bulk_row {H : Type} (ls : List (List UInt8)) : ls.length ≤ Rows.uptoBulkAll (dstrs (H := H) ls) ∧ ∀ x ∈ ls, x.length ≤ Rows.uptoBulkAll (dstrs (H := H) ls) := by
  induction ls with
  | nil => exact ⟨Nat.zero_le _, fun x hx => by cases hx⟩
  | cons a t ih =>
    have e : Rows.uptoBulkAll (dstrs (H := H) (a :: t)) = (a.length + 1) + Rows.uptoBulkAll (dstrs (H := H) t) := by
      show Rows.uptoBulkAll (.lit (.string a) :: dstrs t) = _
      rw [Rows.uptoBulkAll, Rows.uptoBulk]
    rw [e]
    refine ⟨by have := ih.1; simp only [List.length_cons]; omega, fun x hx => ?_⟩
    rcases List.mem_cons.1 hx with g | g
    · rw [g]; omega
    · have := ih.2 x g; omega
theorem upto_all {H : Type} {ds : List (DataW H)} (hk : Rows.uptoSmall H ds = true) : Rows.uptoBulkAll ds ≤ 1048576 := of_decide_eq_true hk
theorem upto_text {H : Type} {ds : List (DataW H)} {a : List UInt8} (hk : Rows.uptoSmall H ds = true) (h : .lit (.string a) ∈ ds) : a.length ≤ 1048576 := by
  have h1 := bulk_in h
  have h2 := upto_all hk
  rw [Rows.uptoBulk] at h1
  omega
theorem upto_row {H : Type} {ds : List (DataW H)} {d : DataW H} {ls : List (List UInt8)} (hk : Rows.uptoSmall H ds = true) (h : d ∈ ds) (hd : (d = .nil ∧ ls = []) ∨ ∃ sp, d = .slice (dstrs ls) sp) :
    ls.length ≤ 1048576 ∧ ∀ x ∈ ls, x.length ≤ 1048576 := by
  rcases hd with ⟨_, rfl⟩ | ⟨sp, rfl⟩
  · exact ⟨Nat.zero_le _, fun x hx => by cases hx⟩
  · have h1 := bulk_in h
    have h2 := upto_all hk
    rw [Rows.uptoBulk] at h1
    have h3 := bulk_row (H := H) ls
    exact ⟨by have := h3.1; omega, fun x hx => by have := h3.2 x hx; omega⟩
end Go.Proofs.Ytnalnhplcchdoaa.Open
