/-
  A Cursor at an element that was laid: it is taken as it was. Rows of three. What is kept of a block of the call's own.
-/
import Derived.Test.YtkkpcnibghndgaaDerLaw3
set_option linter.unusedVariables false
namespace Go.Proofs.Ytkkpcnibghndgaa.DerL
open Go.RowKit Go.Proofs.Ytkkpcnibghndgaa.Mem Go.Proofs.Ytkkpcnibghndgaa.DerP

theorem fresh_grown {w w' : World} {base b g : Nat} {l : L} (h : Fresh w base b l) (hg : w.grownBy w' (some g)) (hne : b ≠ g) : Fresh w' base b l := by
  have e := hg.block b h.2.1 (fun e => hne (by injection e))
  refine ⟨h.1, Nat.lt_of_lt_of_le h.2.1 hg.size, fun i hi => ?_⟩
  obtain ⟨h1, h2⟩ := h.2.2 i hi
  exact ⟨(World.cell?_of_block (w := w) (a := ⟨b, i, none⟩) e).trans h1, (World.frozen?_of_block (w := w) (a := ⟨b, i, none⟩) e).trans h2⟩
theorem fresh_below {w w' : World} {base b : Nat} {l : L} (h : Fresh w base b l) (hb : Below w.heap.size w w') : Fresh w' base b l := by
  have e := hb.block b h.2.1
  refine ⟨h.1, Nat.lt_of_lt_of_le h.2.1 hb.size, fun i hi => ?_⟩
  obtain ⟨h1, h2⟩ := h.2.2 i hi
  exact ⟨(World.cell?_of_block (w := w) (a := ⟨b, i, none⟩) e).trans h1, (World.frozen?_of_block (w := w) (a := ⟨b, i, none⟩) e).trans h2⟩

theorem body_elem (t : UInt8) (p r : L) (h : p.length ≤ 65535) : bodyC t (some (elem t p ++ r)) = some p ∧ nextC t (some (elem t p ++ r)) = some r := body_some (split_elem t p r h)
theorem elem_le (t : UInt8) (p : L) : (elem t p).length ≤ p.length + 4 := by
  have h2 := length_szL p.length
  have h3 : (szL p.length).length ≤ 3 := by rw [h2]; split <;> (try split) <;> omega
  rw [length_elem]; omega

theorem octets_good (g : Nat) (p r : L) (w : World) (hp : p.length ≤ 65535) (hr : r.length ≤ 30000) (h : DerC.Cur w g (some (elem 4 p ++ r))) :
    Calls Try.prog 26 #[.pointer (some ⟨g, 0, none⟩)] w fun e w' =>
      (∃ b cap, e = .returned (.slice (some ⟨b, 0, none⟩) p.length cap) ∧ p.length ≤ cap ∧ Fresh w' w.heap.size b p) ∧ DerC.Cur w' g (some r) ∧ w.grownBy w' (some g) := by
  obtain ⟨e1, e2⟩ := body_elem 4 p r hp
  have hl := elem_le 4 p
  have := DerC.octets_any g _ w h (by simp only [Option.getD_some, List.length_append]; omega)
  rw [e1, e2] at this
  exact this
theorem text_good (g : Nat) (p r : L) (w : World) (hp : p.length ≤ 65535) (hr : r.length ≤ 30000) (h : DerC.Cur w g (some (elem 27 p ++ r))) :
    Calls Try.prog 28 #[.pointer (some ⟨g, 0, none⟩)] w fun e w' =>
      e = .returned (.string ⟨p.toArray⟩) ∧ DerC.Cur w' g (some r) ∧ w.grownBy w' (some g) := by
  obtain ⟨e1, e2⟩ := body_elem 27 p r hp
  have hl := elem_le 27 p
  have := DerC.text_any g _ w h (by simp only [Option.getD_some, List.length_append]; omega)
  rw [e1, e2] at this
  exact this
theorem into_good (t : UInt8) (g : Nat) (p r : L) (w : World) (hp : p.length ≤ 65535) (hr : r.length ≤ 30000) (h : DerC.Cur w g (some (elem t p ++ r))) :
    Calls Try.prog 30 #[.pointer (some ⟨g, 0, none⟩), .int .u8 t.toNat] w fun e w' =>
      (∃ g', e = .returned (.pointer (some ⟨g', 0, none⟩)) ∧ w.heap.size ≤ g' ∧ DerC.Cur w' g' (some p)) ∧ DerC.Cur w' g (some r) ∧ w.grownBy w' (some g) := by
  obtain ⟨e1, e2⟩ := body_elem t p r hp
  have hl := elem_le t p
  have := DerC.into_any t g _ w h (by simp only [Option.getD_some, List.length_append]; omega)
  rw [e1, e2] at this
  exact this

/-- a row just built of three byte slices -/
theorem rds_three (w : World) (t : TypeId) (B : Nat) (A1 A2 A3 : Option Addr) (l1 l2 l3 : L) (n1 n2 n3 c1 c2 c3 : Nat) (hn1 : n1 = l1.length) (hn2 : n2 = l2.length) (hn3 : n3 = l3.length)
    (h1 : Rd w B A1 (bvs l1)) (h2 : Rd w B A2 (bvs l2)) (h3 : Rd w B A3 (bvs l3)) (hB : B ≤ w.heap.size) :
    DerW.Rds (w.alloc (.cells #[.slice A1 n1 c1, .slice A2 n2 c2, .slice A3 n3 c3] t)) (w.heap.size + 1) (some ⟨w.heap.size, 0, none⟩) [l1, l2, l3] := by
  subst hn1 hn2 hn3
  refine .inr ⟨w.heap.size, 0, rfl, by omega, fun i l hi => ?_⟩
  match i, hi with
  | 0, hi => injection hi with hi; subst hi; exact ⟨A1, c1, (Blk.new w t _).cell 0, (h1.alloc hB _).more (by omega)⟩
  | 1, hi => injection hi with hi; subst hi; exact ⟨A2, c2, (Blk.new w t _).cell 1, (h2.alloc hB _).more (by omega)⟩
  | 2, hi => injection hi with hi; subst hi; exact ⟨A3, c3, (Blk.new w t _).cell 2, (h3.alloc hB _).more (by omega)⟩
  | i + 3, hi => rw [List.getElem?_eq_none (by simp)] at hi; cases hi

end Go.Proofs.Ytkkpcnibghndgaa.DerL
