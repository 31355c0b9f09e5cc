/-
  The key as cells; the law's own key of some bytes; the state at the beginning.
-/
import Derived.Test.YtcjibpjdfhhhkaaSiByte
import Derived.Deep.RegionHeld3
import Derived.Deep.MidRow
set_option linter.unusedVariables false
namespace Go.Proofs.Ytcjibpjdfhhhkaa.Si
open Go.RowKit Go.Proofs.Ytcjibpjdfhhhkaa.Mem

theorem Blk.new_of (w : World) (g : Nat) (t : TypeId) (cs cs' : Array Value) (e : cs = cs') (hg : w.heap.size = g) : Blk (w.alloc (.cells cs t)) g t cs' := hg ▸ e ▸ Blk.new w t cs
theorem below_set {B : Nat} {a w : World} (h : Below B a w) {p : Addr} (hp : B ≤ p.block) (u : Value) : Below B a (w.setCell p u) :=
  ⟨h.os, h.tape, h.output, by simpa [World.setCell] using h.size, fun i hi => (Below.heap_setCell w p u i (by omega)).trans (h.block i hi)⟩
theorem results_cell {P : Program} {fn : Func} {tmps : Array Value} {w : World} {v : Value} (t : Nat) (ty : TypeId) (a : Addr) (hres : fn.results = #[.cell t ty]) (ht : tmps.getD t undef = .pointer (some a)) (hl : (loadVar ty a).run P w = .ok v w) :
    (results fn tmps).run P w = .ok v w := by
  have ht' : tmps[t]?.getD undef = .pointer (some a) := by simpa using ht
  simp [results, hres, ht', asAddr, hl]
theorem load_blk {P : Program} {w : World} {g : Nat} {t ty : TypeId} {cs : Array Value} {d : TypeDesc} (h : Blk w g t cs) (hu : P.underlying ty = some d) (hd : d.isRow = true) (hi : (P.info? ty).map (·.size) = some cs.size) :
    (loadVar ty ⟨g, 0, none⟩).run P w = .ok (.agg cs) w := by
  have hc : w.rangeAt g 0 cs.toList := fun j v hv => by rw [Nat.zero_add, h.cell]; simpa using hv
  have := run_loadVar_mid (P := P) w g 0 ty cs.toList d hc hu hd (by simpa using hi)
  simpa using this
/-- a key's bytes as a value -/
def key16 (ks : Nat → UInt8) : Array Value := ((List.range 16).map (fun i => bv (ks i))).toArray
theorem Blk.far {w : World} {g : Nat} {t : TypeId} {cs : Array Value} (h : Blk w g t cs) (p : Addr) (u : Value) (hp : p.block ≠ g) : Blk (w.setCell p u) g t cs :=
  (Below.heap_setCell w p u g (fun e => hp e.symm)).trans h
theorem range_blk {w : World} {g : Nat} {t : TypeId} {cs : Array Value} (h : Blk w g t cs) : w.rangeAt g 0 cs.toList := fun j v hv => by
  rw [Nat.zero_add, h.cell]; simpa using hv
theorem there_blk {w : World} {g : Nat} {t : TypeId} {cs : Array Value} (h : Blk w g t cs) : w.there g 0 cs.size := fun j hj => by
  rw [Nat.zero_add]
  exact ⟨by rw [h.cell, Array.getElem?_eq_getElem hj]; rfl, h.frozen j⟩
theorem below_setCells {B : Nat} {a : World} (b : Nat) (hb : B ≤ b) : ∀ (vs : List Value) (o : Nat) (w : World), Below B a w → Below B a (w.setCells b o vs)
  | [], _, _, h => h
  | v :: r, o, w, h => below_setCells b hb r (o + 1) _ (below_set h hb v)

def ksOf (l : List UInt8) (i : Nat) : UInt8 := l.getD i 0
def ksTo (l : List UInt8) (n : Nat) (i : Nat) : UInt8 := if i < n then l.getD i 0 else 0
theorem key16_at (f : Nat → UInt8) (j : Nat) (hj : j < 16) : (key16 f)[j]? = some (bv (f j)) := by
  rw [key16, List.getElem?_toArray]; simp [hj]
theorem key16_congr {f g : Nat → UInt8} (h : ∀ j, j < 16 → f j = g j) : key16 f = key16 g := by
  unfold key16
  congr 1
  apply List.map_congr_left
  intro j hj
  rw [h j (by simpa using hj)]
theorem key16_set (l : List UInt8) (i : Nat) (hi : i < l.length) : (key16 (ksTo l i)).setIfInBounds i (bv l[i]) = key16 (ksTo l (i + 1)) := by
  unfold key16
  rw [List.setIfInBounds_toArray]
  congr 1
  apply List.ext_getElem?
  intro j
  rw [List.getElem?_set, List.getElem?_map, List.getElem?_map]
  by_cases hj : i = j
  · subst hj
    rcases Nat.lt_or_ge i 16 with h | h
    · simp [h, ksTo, hi]
    · simp [Nat.not_lt.2 h]
  · rw [if_neg hj]
    rcases Nat.lt_or_ge j 16 with h | h
    · have e : (j < i) = (j < i + 1) := propext ⟨by omega, by omega⟩
      simp [h, ksTo, e]
    · rw [List.getElem?_eq_none (by simpa using h)]; rfl
theorem ksTo_done (l : List UInt8) (i : Nat) (h : i = 16 ∨ l.length ≤ i) : key16 (ksTo l i) = key16 (ksOf l) := by
  refine key16_congr fun j hj => ?_
  unfold ksTo ksOf
  rcases h with h | h
  · rw [if_pos (by omega)]
  · by_cases hji : j < i
    · rw [if_pos hji]
    · rw [if_neg hji, List.getD_eq_getElem?_getD, List.getElem?_eq_none (by omega)]; rfl
theorem set16_cells (f : Nat → UInt8) : (((((((((((((((((key16 fun _ => 0).setIfInBounds 0 (bv (f 0))).setIfInBounds 1 (bv (f 1))).setIfInBounds 2 (bv (f 2))).setIfInBounds 3 (bv (f 3))).setIfInBounds 4 (bv (f 4))).setIfInBounds 5 (bv (f 5))).setIfInBounds 6 (bv (f 6))).setIfInBounds 7 (bv (f 7))).setIfInBounds 8 (bv (f 8))).setIfInBounds 9 (bv (f 9))).setIfInBounds 10 (bv (f 10))).setIfInBounds 11 (bv (f 11))).setIfInBounds 12 (bv (f 12))).setIfInBounds 13 (bv (f 13))).setIfInBounds 14 (bv (f 14))).setIfInBounds 15 (bv (f 15))) = key16 f := by kernel_rfl
theorem set16 {w : World} {B : Nat} {t : TypeId} (h : Blk w B t (key16 fun _ => 0)) (f : Nat → UInt8) : Blk ((((((((((((((((w.setCell ⟨B, 0, none⟩ (.int .u8 ((f 0).toNat : Int))).setCell ⟨B, 1, none⟩ (.int .u8 ((f 1).toNat : Int))).setCell ⟨B, 2, none⟩ (.int .u8 ((f 2).toNat : Int))).setCell ⟨B, 3, none⟩ (.int .u8 ((f 3).toNat : Int))).setCell ⟨B, 4, none⟩ (.int .u8 ((f 4).toNat : Int))).setCell ⟨B, 5, none⟩ (.int .u8 ((f 5).toNat : Int))).setCell ⟨B, 6, none⟩ (.int .u8 ((f 6).toNat : Int))).setCell ⟨B, 7, none⟩ (.int .u8 ((f 7).toNat : Int))).setCell ⟨B, 8, none⟩ (.int .u8 ((f 8).toNat : Int))).setCell ⟨B, 9, none⟩ (.int .u8 ((f 9).toNat : Int))).setCell ⟨B, 10, none⟩ (.int .u8 ((f 10).toNat : Int))).setCell ⟨B, 11, none⟩ (.int .u8 ((f 11).toNat : Int))).setCell ⟨B, 12, none⟩ (.int .u8 ((f 12).toNat : Int))).setCell ⟨B, 13, none⟩ (.int .u8 ((f 13).toNat : Int))).setCell ⟨B, 14, none⟩ (.int .u8 ((f 14).toNat : Int))).setCell ⟨B, 15, none⟩ (.int .u8 ((f 15).toNat : Int))) B t (key16 f) := by
  have h1 := (Blk.set (Blk.set (Blk.set (Blk.set (Blk.set (Blk.set (Blk.set (Blk.set (Blk.set (Blk.set (Blk.set (Blk.set (Blk.set (Blk.set (Blk.set (Blk.set h 0 (bv (f 0))) 1 (bv (f 1))) 2 (bv (f 2))) 3 (bv (f 3))) 4 (bv (f 4))) 5 (bv (f 5))) 6 (bv (f 6))) 7 (bv (f 7))) 8 (bv (f 8))) 9 (bv (f 9))) 10 (bv (f 10))) 11 (bv (f 11))) 12 (bv (f 12))) 13 (bv (f 13))) 14 (bv (f 14))) 15 (bv (f 15)))
  rw [set16_cells f] at h1
  exact h1
end Go.Proofs.Ytcjibpjdfhhhkaa.Si
