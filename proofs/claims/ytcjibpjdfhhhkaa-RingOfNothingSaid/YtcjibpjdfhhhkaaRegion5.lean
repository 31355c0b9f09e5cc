/-
  A region that draws its order: calls, wherever several of them may come first.
-/
import Derived.Test.YtcjibpjdfhhhkaaRegion4
set_option linter.unusedVariables false
namespace Go.Proofs.Ytcjibpjdfhhhkaa.Reg
open Go.RowKit Go.Proofs.Ytcjibpjdfhhhkaa.Mem

section
variable {P : Program} {ops : Array Oper} {Q : Exit → Act → World → Prop} {md : Region.Mode}
/-- number i is a call of f, and behind it the rest goes on -/
def Ent (P : Program) (md : Region.Mode) (ops : Array Oper) (Q : Exit → Act → World → Prop) (S : World → Prop) (fuel : Nat) (listed : Array Bool) (a : Act) (w : World) (i : Nat) : Prop :=
  ∃ (dst : Option Tmp) (op : Op) (ty : TypeId) (pos : String) (after : Array _) (guard : Option (Nat × Bool)) (f : FuncId) (args : Array Value), ops[i]? = some ⟨dst, op, ty, pos, after, guard⟩ ∧ Region.wanted ⟨dst, op, ty, pos, after, guard⟩ (yielded ops a.tmps) = true ∧ (execOp a.eval ⟨dst, op, ty, pos, after, guard⟩).run P w = .ok (.enter f args) w ∧
    Calls P f args w fun e w' => ∃ v, e = .returned v ∧ S w' ∧ wpAnyH P md ops Q S fuel (listed.setIfInBounds i true) (a.put dst v) w'
/-- operations that yield a value, and calls: any of them may come first -/
theorem both_all (is : List Nat) {S : World → Prop} {fuel : Nat} {listed : Array Bool} {a : Act} {w : World} (hr : Region.ready md ops listed = is) (hne : is ≠ []) (h : ∀ j ∈ is, Eff P md ops Q S fuel listed a w j ∨ Ent P md ops Q S fuel listed a w j) : wpAnyH P md ops Q S (fuel + 1) listed a w := by
  refine wpAnyH_all hr hne fun j hj => ?_
  rcases h j hj with ⟨dst, op, ty, pos, after, guard, v, w', hi, hw, hx, hs, hh⟩ | ⟨dst, op, ty, pos, after, guard, f, args, hi, hw, hx, hh⟩
  · unfold wpOp
    simp only [hi]
    rw [if_pos hw]
    left
    unfold Oper.wp
    rw [hx]
    exact ⟨hs, hh⟩
  · unfold wpOp
    simp only [hi]
    rw [if_pos hw]
    left
    unfold Oper.wp
    rw [hx]
    refine hh.mono ?_
    rintro e w' ⟨v, rfl, hs, hh⟩
    exact ⟨hs, hh⟩
end
end Go.Proofs.Ytcjibpjdfhhhkaa.Reg
