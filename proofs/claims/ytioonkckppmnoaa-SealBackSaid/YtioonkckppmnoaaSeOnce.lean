/-
  A Box is made; its two halves are made once.
-/
import Derived.Test.YtioonkckppmnoaaSeMem
set_option linter.unusedVariables false
namespace Go.Proofs.Ytioonkckppmnoaa.Se
open Go.RowKit Go.Proofs.Ytioonkckppmnoaa.Mem

/-- a key's bytes as a value -/
def key32 (ks : Nat → UInt8) : Array Value := ((List.range 32).map (fun i => bv (ks i))).toArray
theorem load_cells {P : Program} {ops : Array Oper} {rest : List Oper} {op : Oper} {a : Act} {w : World} {Q : Exit → Act → World → Prop} (hgd : op.guard = none) (ty : TypeId) (x : Operand) (ho : op.op = .load ty x)
    (g o : Nat) (hx : a.eval x = .pointer (some ⟨g, o, none⟩)) (cs : Array Value) (d : TypeDesc) (hc : w.rangeAt g o cs.toList)
    (hu : P.underlying ty = some d) (hd : d.isRow = true) (hi : (P.info? ty).map (·.size) = some cs.size)
    (h : wpList P ops Q rest (a.put op.dst (.agg cs)) w) : wpList P ops Q (op :: rest) a w :=
  wpList_load_mid hgd ty x ho g o hx cs.toList d hc hu hd (by rw [Array.length_toList]; exact hi) (by simpa using h)
theorem key32_size (ks : Nat → UInt8) : (key32 ks).size = 32 := by simp [key32]
theorem info32 (ks : Nat → UInt8) : (Try.prog.info? 26).map (·.size) = some (key32 ks).size := by rw [key32_size]; kernel_rfl
theorem one32 (ks : Nat → UInt8) : (key32 ks).all (·.oneCell') = true := by simp [key32, bv, Value.oneCell']
theorem XB.range1 {w : World} {b : Nat} {ks dg : Nat → UInt8} {d s : Int} {p : Option Addr} {a o r : Nat} (h : XB w b ks d s p dg a o r) : w.rangeAt b 0 (Sp.key16 ks).toList := fun j v hv => by
  rw [Sp.key16, List.toList_toArray, List.getElem?_map] at hv
  rcases Nat.lt_or_ge j 16 with g | g
  · rw [Nat.zero_add, h.ck j (by omega)]; simpa [g] using hv
  · rw [List.getElem?_eq_none (by simpa using g)] at hv; cases hv
theorem XB.range2 {w : World} {b : Nat} {ks dg : Nat → UInt8} {d s : Int} {p : Option Addr} {a o r : Nat} (h : XB w b ks d s p dg a o r) : w.rangeAt b 16 (Sp.key16 (k2 ks)).toList := fun j v hv => by
  rw [Sp.key16, List.toList_toArray, List.getElem?_map] at hv
  rcases Nat.lt_or_ge j 16 with g | g
  · rw [h.ck (16 + j) (by omega)]; simpa [g, k2] using hv
  · rw [List.getElem?_eq_none (by simpa using g)] at hv; cases hv
theorem XB.rangeD {w : World} {b : Nat} {ks dg : Nat → UInt8} {d s : Int} {p : Option Addr} {a o r : Nat} (h : XB w b ks d s p dg a o r) : w.rangeAt b 36 (Sp.key16 dg).toList := fun j v hv => by
  rw [Sp.key16, List.toList_toArray, List.getElem?_map] at hv
  rcases Nat.lt_or_ge j 16 with g | g
  · rw [h.cg j (by omega)]; simpa [g] using hv
  · rw [List.getElem?_eq_none (by simpa using g)] at hv; cases hv
theorem XB.thereD {w : World} {b : Nat} {ks dg : Nat → UInt8} {d s : Int} {p : Option Addr} {a o r : Nat} (h : XB w b ks d s p dg a o r) : w.there b 36 16 := fun j hj => ⟨by rw [h.cg j hj]; rfl, h.fz _⟩
theorem key16_size (f : Nat → UInt8) : (Sp.key16 f).size = 16 := by simp [Sp.key16]
theorem info16 (f : Nat → UInt8) : (Try.prog.info? 46).map (·.size) = some (Sp.key16 f).size := by rw [key16_size]; kernel_rfl
theorem one16 (f : Nat → UInt8) : (Sp.key16 f).all (·.oneCell') = true := by simp [Sp.key16, bv, Value.oneCell']
theorem g_setCells {a w : World} {b : Nat} : ∀ (vs : List Value) (o : Nat) (w : World), a.grownBy w (some b) → a.grownBy (w.setCells b o vs) (some b)
  | [], _, _, h => h
  | v :: r, o, w, h => g_setCells (w := w) r (o + 1) _ (g_set h (.inl rfl) v)
theorem Key.far {w : World} {g : Nat} {ks : Nat → UInt8} {m : Bool} (h : Sp.Key w g ks m) (p : Addr) (u : Value) (hp : p.block ≠ g) : Sp.Key (w.setCell p u) g ks m := by
  cases m with
  | false => exact Si.Blk.far h p u hp
  | true => exact Si.Blk.far h p u hp
theorem Key.fars {g b : Nat} {ks : Nat → UInt8} {m : Bool} (hb : b ≠ g) : ∀ (vs : List Value) (o : Nat) (w : World), Sp.Key w g ks m → Sp.Key (w.setCells b o vs) g ks m
  | [], _, _, h => h
  | v :: r, o, w, h => Key.fars hb r (o + 1) _ (Key.far h _ v hb)
end Go.Proofs.Ytioonkckppmnoaa.Se
