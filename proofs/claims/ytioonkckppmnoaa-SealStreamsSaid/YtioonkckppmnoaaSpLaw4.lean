/-
  The law that asks the document's own answer for the block.
-/
import Derived.Test.YtioonkckppmnoaaSpRef3
import Derived.Test.YtioonkckppmnoaaSpLaw1
import Derived.Deep.CutBlock
set_option linter.unusedVariables false
namespace Go.Proofs.Ytioonkckppmnoaa.SpL
open Go.RowKit Go.Proofs.Ytioonkckppmnoaa.Mem Go.Proofs.Ytioonkckppmnoaa.Sp

/-- an array's cells stand in block g -/
def Stands (w : World) (g : Nat) (cs : Array Value) : Prop := w.rangeAt g 0 cs.toList
theorem Stands.grown {w w' : World} {g : Nat} {cs : Array Value} {row : Option Nat} (h : Stands w g cs) (hg : g < w.heap.size) (hb : w.grownBy w' row) (hr : row ≠ some g) : Stands w' g cs := fun j v hv =>
  (World.cell?_of_block (a := ⟨g, 0 + j, none⟩) (hb.block g hg (fun e => hr e.symm))).trans (h j v hv)
theorem Stands.below {w w' : World} {g : Nat} {cs : Array Value} (h : Stands w g cs) (hg : g < w.heap.size) (hb : Below w.heap.size w w') : Stands w' g cs := h.grown hg (g_of_below hb none) (by simp)
theorem wpList_load_st {P : Program} {ops : Array Oper} {rest : List Oper} {op : Oper} {a : Act} {w : World} {Q : Exit → Act → World → Prop} (hgd : op.guard = none) (ty : TypeId) (x : Operand) (ho : op.op = .load ty x)
    (g : Nat) (hx : a.eval x = .pointer (some ⟨g, 0, none⟩)) (cs : Array Value) (d : TypeDesc) (hc : Stands w g cs)
    (hu : P.underlying ty = some d) (hd : d.isRow = true) (hi : (P.info? ty).map (·.size) = some cs.size)
    (h : wpList P ops Q rest (a.put op.dst (.agg cs)) w) : wpList P ops Q (op :: rest) a w :=
  wpList_load_mid hgd ty x ho g 0 hx cs.toList d hc hu hd (by rw [Array.length_toList]; exact hi) (by simpa using h)
theorem stands_store {w : World} {z : Array Value} {t : TypeId} {cs : Array Value} (hz : z.size = cs.size) : Stands ((w.alloc (.cells z t)).setCells w.heap.size 0 cs.toList) w.heap.size cs := by
  refine World.rangeAt_setCells_same _ _ _ _ ?_
  have := there_blk (Blk.new w t z)
  rwa [hz, ← Array.length_toList] at this

theorem setCells_size (b : Nat) : ∀ (vs : List Value) (o : Nat) (w : World), (w.setCells b o vs).heap.size = w.heap.size
  | [], _, _ => rfl
  | v :: r, o, w => by rw [World.setCells, setCells_size b r]; simp [World.setCell]
theorem size27 (K : Nat → Wd) : (cells27 K).size = 27 := by simp [cells27]
theorem info27 (K : Nat → Wd) : (Try.prog.info? 49).map (·.size) = some (cells27 K).size := by rw [size27]; kernel_rfl
theorem one27 (K : Nat → Wd) : (cells27 K).all (·.oneCell') = true := by simp [cells27, Value.oneCell']

end Go.Proofs.Ytioonkckppmnoaa.SpL
