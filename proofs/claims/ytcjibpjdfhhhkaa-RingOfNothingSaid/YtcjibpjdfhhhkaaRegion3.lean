/-
  A region that draws its order: operations that make memory, or write what is newer than the region, wherever several of them may come first.
-/
import Derived.Test.YtcjibpjdfhhhkaaRegion
set_option linter.unusedVariables false
namespace Go.Proofs.Ytcjibpjdfhhhkaa.Reg
open Go.RowKit Go.Proofs.Ytcjibpjdfhhhkaa.Mem

section
variable {P : Program} {ops : Array Oper} {Q : Exit → Act → World → Prop} {md : Region.Mode}
/-- number i yields v and leaves w', where S holds, and from there the rest goes on -/
def Eff (P : Program) (md : Region.Mode) (ops : Array Oper) (Q : Exit → Act → World → Prop) (S : World → Prop) (fuel : Nat) (listed : Array Bool) (a : Act) (w : World) (i : Nat) : Prop :=
  ∃ (dst : Option Tmp) (op : Op) (ty : TypeId) (pos : String) (after : Array _) (guard : Option (Nat × Bool)) (v : Value) (w' : World), ops[i]? = some ⟨dst, op, ty, pos, after, guard⟩ ∧ Region.wanted ⟨dst, op, ty, pos, after, guard⟩ (yielded ops a.tmps) = true ∧ (execOp a.eval ⟨dst, op, ty, pos, after, guard⟩).run P w = .ok (.value v) w' ∧ S w' ∧ wpAnyH P md ops Q S fuel (listed.setIfInBounds i true) (a.put dst v) w'
theorem eff_all (is : List Nat) {S : World → Prop} {fuel : Nat} {listed : Array Bool} {a : Act} {w : World} (hr : Region.ready md ops listed = is) (hne : is ≠ []) (h : ∀ j ∈ is, Eff P md ops Q S fuel listed a w j) : wpAnyH P md ops Q S (fuel + 1) listed a w := by
  refine wpAnyH_all hr hne fun j hj => ?_
  obtain ⟨dst, op, ty, pos, after, guard, v, w', hi, hw, hx, hs, hh⟩ := h j hj
  unfold wpOp
  simp only [hi]
  rw [if_pos hw]
  left
  unfold Oper.wp
  rw [hx]
  exact ⟨hs, hh⟩
end
end Go.Proofs.Ytcjibpjdfhhhkaa.Reg
