/-
  What may be turned: some blocks; a slice that is read and lies in none of them; a Box in memory.
-/
import Derived.Test.YtioonkckppmnoaaSePlain
import Derived.Test.YtioonkckppmnoaaSpStream
import Derived.Test.YtioonkckppmnoaaSiKnown
import Derived.Deep.MidRow
set_option linter.unusedVariables false
namespace Go.Proofs.Ytioonkckppmnoaa.Se
open Go.RowKit Go.Proofs.Ytioonkckppmnoaa.Mem

section
variable {S T S' : Nat → Prop} {a w w' c : World} {A : Option Addr} {xs : List Value} {g b : Nat} {t : TypeId} {cs : Array Value}
/-- the slice at A has the values xs, and lies in no block of S -/
def RdA (S : Nat → Prop) (w : World) (A : Option Addr) (xs : List Value) : Prop :=
  xs = [] ∨ ∃ b o, A = some ⟨b, o, none⟩ ∧ b < w.heap.size ∧ ¬ S b ∧ ∀ i u, xs[i]? = some u → w.cell? ⟨b, o + i, none⟩ = some u
theorem RdA.rd (h : RdA S w A xs) : Rd w w.heap.size A xs := by
  rcases h with h | ⟨b, o, h1, h2, _, h3⟩
  · exact .inl h
  · exact .inr ⟨b, o, h1, h2, h3⟩
theorem RdA.of_rd {B : Nat} (h : Rd w B A xs) (hB : B ≤ w.heap.size) (hs : ∀ i, S i → B ≤ i) : RdA S w A xs := by
  rcases h with h | ⟨b, o, h1, h2, h3⟩
  · exact .inl h
  · exact .inr ⟨b, o, h1, by omega, fun x => by have := hs b x; omega, h3⟩
end

/-! ### a Box -/
def xcells (ks : Nat → UInt8) (d s : Int) (p : Option Addr) (dg : Nat → UInt8) (a o r : Nat) : Array Value :=
  ((List.range 32).map (fun i => bv (ks i)) ++ (([.int .u32 d, .int .i32 s, .int .u32 0, .pointer p] : List Value) ++ ((List.range 16).map (fun j => bv (dg j)) ++ ([.int .i64 (a : Int), .int .i64 (o : Int), .int .i64 (r : Int)] : List Value)))).toArray
def XB (w : World) (b : Nat) (ks : Nat → UInt8) (d s : Int) (p : Option Addr) (dg : Nat → UInt8) (a o r : Nat) : Prop := Blk w b 70 (xcells ks d s p dg a o r)
section
variable {w w' : World} {b : Nat} {ks dg : Nat → UInt8} {d s : Int} {p : Option Addr} {a o r : Nat}
theorem xcells_key (i : Nat) (h : i < 32) : (xcells ks d s p dg a o r)[i]? = some (bv (ks i)) := by
  rw [xcells, List.getElem?_toArray, List.getElem?_append_left (by simpa using h)]
  simp [h]
theorem xcells_mid (i : Nat) (h : i < 4) : (xcells ks d s p dg a o r)[32 + i]? = ([.int .u32 d, .int .i32 s, .int .u32 0, .pointer p] : List Value)[i]? := by
  rw [xcells, List.getElem?_toArray, List.getElem?_append_right (by simp), List.getElem?_append_left (by simpa using h)]
  simp
theorem xcells_dg (i : Nat) (h : i < 16) : (xcells ks d s p dg a o r)[36 + i]? = some (bv (dg i)) := by
  rw [xcells, List.getElem?_toArray, List.getElem?_append_right (by simp; omega), List.getElem?_append_right (by simp; omega), List.getElem?_append_left (by simp; omega)]
  have e : 36 + i - (List.map (fun i => bv (ks i)) (List.range 32)).length - ([.int .u32 d, .int .i32 s, .int .u32 0, .pointer p] : List Value).length = i := by simp; omega
  rw [e]
  simp [h]
theorem xcells_ct (i : Nat) (h : i < 3) : (xcells ks d s p dg a o r)[52 + i]? = ([.int .i64 (a : Int), .int .i64 (o : Int), .int .i64 (r : Int)] : List Value)[i]? := by
  rw [xcells, List.getElem?_toArray, List.getElem?_append_right (by simp; omega), List.getElem?_append_right (by simp; omega), List.getElem?_append_right (by simp; omega)]
  have e : 52 + i - (List.map (fun i => bv (ks i)) (List.range 32)).length - ([.int .u32 d, .int .i32 s, .int .u32 0, .pointer p] : List Value).length - (List.map (fun j => bv (dg j)) (List.range 16)).length = i := by simp; omega
  rw [e]
theorem XB.cell (h : XB w b ks d s p dg a o r) (i : Nat) : w.cell? ⟨b, i, none⟩ = (xcells ks d s p dg a o r)[i]? := Blk.cell h i
theorem XB.ck (h : XB w b ks d s p dg a o r) (i : Nat) (hi : i < 32) : w.cell? ⟨b, i, none⟩ = some (bv (ks i)) := (h.cell i).trans (xcells_key i hi)
theorem XB.cd (h : XB w b ks d s p dg a o r) : w.cell? ⟨b, 32, none⟩ = some (.int .u32 d) := (h.cell 32).trans (xcells_mid 0 (by decide))
theorem XB.cs (h : XB w b ks d s p dg a o r) : w.cell? ⟨b, 33, none⟩ = some (.int .i32 s) := (h.cell 33).trans (xcells_mid 1 (by decide))
theorem XB.cp (h : XB w b ks d s p dg a o r) : w.cell? ⟨b, 35, none⟩ = some (.pointer p) := (h.cell 35).trans (xcells_mid 3 (by decide))
theorem XB.cg (h : XB w b ks d s p dg a o r) (i : Nat) (hi : i < 16) : w.cell? ⟨b, 36 + i, none⟩ = some (bv (dg i)) := (h.cell _).trans (xcells_dg i hi)
theorem XB.ca (h : XB w b ks d s p dg a o r) : w.cell? ⟨b, 52, none⟩ = some (.int .i64 (a : Int)) := (h.cell 52).trans (xcells_ct 0 (by decide))
theorem XB.co (h : XB w b ks d s p dg a o r) : w.cell? ⟨b, 53, none⟩ = some (.int .i64 (o : Int)) := (h.cell 53).trans (xcells_ct 1 (by decide))
theorem XB.cr (h : XB w b ks d s p dg a o r) : w.cell? ⟨b, 54, none⟩ = some (.int .i64 (r : Int)) := (h.cell 54).trans (xcells_ct 2 (by decide))
theorem XB.fz (h : XB w b ks d s p dg a o r) (i : Nat) : w.frozen? ⟨b, i, none⟩ = false := Blk.frozen h i
theorem XB.lt (h : XB w b ks d s p dg a o r) : b < w.heap.size := Blk.lt h
theorem xset_d (d' : Int) : (xcells ks d s p dg a o r).setIfInBounds 32 (.int .u32 d') = xcells ks d' s p dg a o r := by simp [xcells]
theorem xset_s (s' : Int) : (xcells ks d s p dg a o r).setIfInBounds 33 (.int .i32 s') = xcells ks d s' p dg a o r := by simp [xcells]
theorem xset_p (p' : Option Addr) : (xcells ks d s p dg a o r).setIfInBounds 35 (.pointer p') = xcells ks d s p' dg a o r := by simp [xcells]
theorem xset_a (a' : Nat) : (xcells ks d s p dg a o r).setIfInBounds 52 (.int .i64 (a' : Int)) = xcells ks d s p dg a' o r := by simp [xcells]
theorem xset_o (o' : Nat) : (xcells ks d s p dg a o r).setIfInBounds 53 (.int .i64 (o' : Int)) = xcells ks d s p dg a o' r := by simp [xcells]
theorem xset_r (r' : Nat) : (xcells ks d s p dg a o r).setIfInBounds 54 (.int .i64 (r' : Int)) = xcells ks d s p dg a o r' := by simp [xcells]
theorem XB.set_d (h : XB w b ks d s p dg a o r) (d' : Int) : XB (w.setCell ⟨b, 32, none⟩ (.int .u32 d')) b ks d' s p dg a o r := by
  have := Blk.set h 32 (.int .u32 d'); rwa [xset_d] at this
theorem XB.set_s (h : XB w b ks d s p dg a o r) (s' : Int) : XB (w.setCell ⟨b, 33, none⟩ (.int .i32 s')) b ks d s' p dg a o r := by
  have := Blk.set h 33 (.int .i32 s'); rwa [xset_s] at this
theorem XB.set_p (h : XB w b ks d s p dg a o r) (p' : Option Addr) : XB (w.setCell ⟨b, 35, none⟩ (.pointer p')) b ks d s p' dg a o r := by
  have := Blk.set h 35 (.pointer p'); rwa [xset_p] at this
theorem XB.set_a (h : XB w b ks d s p dg a o r) (a' : Nat) : XB (w.setCell ⟨b, 52, none⟩ (.int .i64 (a' : Int))) b ks d s p dg a' o r := by
  have := Blk.set h 52 (.int .i64 (a' : Int)); rwa [xset_a] at this
theorem XB.set_o (h : XB w b ks d s p dg a o r) (o' : Nat) : XB (w.setCell ⟨b, 53, none⟩ (.int .i64 (o' : Int))) b ks d s p dg a o' r := by
  have := Blk.set h 53 (.int .i64 (o' : Int)); rwa [xset_o] at this
theorem XB.set_r (h : XB w b ks d s p dg a o r) (r' : Nat) : XB (w.setCell ⟨b, 54, none⟩ (.int .i64 (r' : Int))) b ks d s p dg a o r' := by
  have := Blk.set h 54 (.int .i64 (r' : Int)); rwa [xset_r] at this
theorem XB.drew (h : XB w b ks d s p dg a o r) : XB w.drew b ks d s p dg a o r := h
end
def setAll (cs : Array Value) : Nat → List Value → Array Value
  | _, [] => cs
  | o, v :: l => setAll (cs.setIfInBounds o v) (o + 1) l
theorem Blk.setCells {g : Nat} {t : TypeId} : ∀ (vs : List Value) (o : Nat) (w : World) (cs : Array Value), Blk w g t cs → Blk (w.setCells g o vs) g t (setAll cs o vs)
  | [], _, _, _, h => h
  | v :: l, o, w, cs, h => Blk.setCells l (o + 1) _ _ (h.set o v)
theorem xset_dg (ks : Nat → UInt8) (d s : Int) (p : Option Addr) (dg dg' : Nat → UInt8) (a o r : Nat) : setAll (xcells ks d s p dg a o r) 36 (Si.key16 dg').toList = xcells ks d s p dg' a o r := by kernel_rfl
theorem XB.set_dg {w : World} {b : Nat} {ks dg : Nat → UInt8} {d s : Int} {p : Option Addr} {a o r : Nat} (h : XB w b ks d s p dg a o r) (dg' : Nat → UInt8) : XB (w.setCells b 36 (Si.key16 dg').toList) b ks d s p dg' a o r := by
  have := Blk.setCells (Si.key16 dg').toList 36 _ _ h
  rwa [xset_dg] at this

abbrev zeroK : Nat → UInt8 := fun _ => 0
end Go.Proofs.Ytioonkckppmnoaa.Se
