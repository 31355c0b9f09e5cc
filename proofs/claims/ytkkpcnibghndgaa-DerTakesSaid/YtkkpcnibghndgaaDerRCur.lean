/-
  The document's own Cursor of chapter 1: a struct of bytes and a bool; what 'take' does to it.
-/
import Derived.Test.YtkkpcnibghndgaaDerRef3
set_option linter.unusedVariables false
namespace Go.Proofs.Ytkkpcnibghndgaa.DerR
open Go.RowKit Go.Proofs.Ytkkpcnibghndgaa.Mem Go.Proofs.Ytkkpcnibghndgaa.DerP

/-- the address of a slice cut at k -/
def cutA (A : Option Addr) (c k : Nat) : Option Addr := if c = k then A else A.map (·.add k)
theorem run_cut_from {P : Program} {t e : TypeId} (ht : P.underlying t = some (.slice e)) (hz : ∀ w : World, (sizeOf e).run P w = .ok 1 w) (A : Option Addr) (n c k : Nat) (K : Int) (hK : K = (k : Int)) (hk : k ≤ n) (w : World) :
    (Instr.slice t (.slice A n c) (some (.int .i64 K)) none none).run P w = .ok (.slice (cutA A c k) (n - k) (c - k)) w := by
  subst hK
  simp [Instr.slice, run_underlying ht, Instr.sliceBounds, run_sliceBound, hz, cutA, Result.andThen, (by omega : (k : Int) ≤ (n : Int))]
theorem run_cut_mid {P : Program} {t e : TypeId} (ht : P.underlying t = some (.slice e)) (hz : ∀ w : World, (sizeOf e).run P w = .ok 1 w) (A : Option Addr) (n c k m : Nat) (K M : Int) (hK : K = (k : Int)) (hM : M = (k : Int) + (m : Int)) (hm : k + m ≤ c) (w : World) :
    (Instr.slice t (.slice A n c) (some (.int .i64 K)) (some (.int .i64 M)) none).run P w = .ok (.slice (cutA A c k) m (c - k)) w := by
  subst hK hM
  have he : P.elem t = e := by simp [Program.elem, ht]
  have ht' : P.underlying t = some (.slice (P.elem t)) := by rw [he]; exact ht
  rw [run_slice_lh w t A n c ht' .i64 .i64 (k : Int) ((k : Int) + (m : Int)) (by omega) (by omega) (by omega), he, hz]
  simp only [Result.andThen, sliced, Nat.mul_one, cutA, Int.toNat_natCast]
  have e2 : ((k : Int) + (m : Int)).toNat - k = m := by omega
  rw [e2]
theorem rd_cut {w : World} {B : Nat} {A : Option Addr} {l : L} {c : Nat} (h : Rd w B A (bvs l)) (k : Nat) (hl : l.length ≤ c) : Rd w B (cutA A c k) (bvs (l.drop k)) := by
  unfold cutA
  by_cases hc : c = k
  · rw [if_pos hc, List.drop_of_length_le (by omega)]
    exact .inl rfl
  · rw [if_neg hc]
    rcases h with h | ⟨b, o, h1, h2, h3⟩
    · have : l = [] := List.map_eq_nil_iff.1 h
      subst this
      exact .inl (by simp [bvs])
    · subst h1
      refine .inr ⟨b, o + k, by simp [addr_add], h2, fun i u hu => ?_⟩
      rw [Nat.add_assoc]
      refine h3 (k + i) u ?_
      rw [← hu]
      simp [bvs, List.getElem?_map, List.getElem?_drop]
theorem rd_take {w : World} {B : Nat} {A : Option Addr} {l : L} (h : Rd w B A (bvs l)) (m : Nat) : Rd w B A (bvs (l.take m)) := by
  rcases h with h | ⟨b, o, h1, h2, h3⟩
  · have : l = [] := List.map_eq_nil_iff.1 h
    subst this
    exact .inl (by simp [bvs])
  · refine .inr ⟨b, o, h1, h2, fun i u hu => h3 i u ?_⟩
    by_cases hi : i < m
    · rw [← hu]; simp only [bvs, List.getElem?_map, List.getElem?_take, if_pos hi]
    · rw [List.getElem?_eq_none (by rw [bvs_length, List.length_take]; omega)] at hu; cases hu

/-- what the Cursor's fields say of its state, bytes below block B -/
def RS (w : World) (B : Nat) (A : Option Addr) (n cap : Nat) (e : Bool) : Option L → Prop
  | none => e = true
  | some l => e = false ∧ n = l.length ∧ n ≤ cap ∧ Rd w B A (bvs l)
def RC (w : World) (B g : Nat) (c : Option L) : Prop := ∃ A n cap e, Blk w g 35 #[.slice A n cap, .bool e] ∧ RS w B A n cap e c
theorem RC.keep {w w' : World} {B g : Nat} {c : Option L} (h : RC w B g c) {row : Option Nat} (hg : w.grownBy w' row) (hne : row ≠ some g) (hB : B ≤ w.heap.size) (hr : ∀ k, row = some k → B ≤ k) : RC w' B g c := by
  obtain ⟨A, n, cap, e, h1, h2⟩ := h
  refine ⟨A, n, cap, e, h1.grown hg hne, ?_⟩
  cases c with
  | none => exact h2
  | some l => exact ⟨h2.1, h2.2.1, h2.2.2.1, h2.2.2.2.grown hg hB hr⟩
/-- what 'take' hands back -/
def Took (w : World) (B g : Nat) (t : UInt8) (c : Option L) (e : Ending) (w' : World) : Prop :=
  (∃ A' cap', e = .returned (.slice A' ((bodyC t c).getD []).length cap') ∧ ((bodyC t c).getD []).length ≤ cap' ∧ Rd w' B A' (bvs ((bodyC t c).getD []))) ∧ RC w' B g (nextC t c) ∧ w.grownBy w' (some g)

/-- an error: E is set -/
theorem took_err {w : World} {B g : Nat} {t : UInt8} {c : Option L} {A : Option Addr} {n cap : Nat} {e : Bool} (hb : Blk w g 35 #[.slice A n cap, .bool e]) (h : bodyC t c = none) {w0 : World} (hg : w0.grownBy w (some g)) :
    Took w0 B g t c (.returned (.slice none 0 0)) (w.setCell ⟨g, 1, none⟩ (.bool true)) := by
  have hn := body_next t c h
  unfold Took
  rw [h, hn]
  exact ⟨⟨none, 0, rfl, Nat.le_refl _, .inl rfl⟩, ⟨A, n, cap, true, hb.set 1 (.bool true), rfl⟩, g_set hg (.inl rfl) _⟩

set_option maxRecDepth 100000 in
set_option maxHeartbeats 1000000 in
theorem rtake_none (t : UInt8) (B g : Nat) (w : World) (h : RC w B g none) :
    Calls Try.prog 42 #[.pointer (some ⟨g, 0, none⟩), .int .u8 t.toNat] w (Took w B g t none) := by
  obtain ⟨A, n, cap, e, hb, he⟩ := h
  obtain rfl : e = true := he
  have h0 : w.cell? ⟨g, 0, none⟩ = some (.slice A n cap) := hb.cell 0
  have h1 : w.cell? ⟨g, 1, none⟩ = some (.bool true) := hb.cell 1
  have f1 := hb.frozen 1
  have HB := Lib.hid hb
  clear hb
  go_enter Try.func42, Try.ntmps42
  go_wp2
  go_ret
  exact took_err HB.out rfl (World.grownBy.refl _ _)

set_option maxRecDepth 100000 in
set_option maxHeartbeats 1000000 in
theorem rtake_short (t : UInt8) (B g : Nat) (A : Option Addr) (cap : Nat) (l : L) (w : World) (hb : Blk w g 35 #[.slice A l.length cap, .bool false]) (hl : l.length < 2) :
    Calls Try.prog 42 #[.pointer (some ⟨g, 0, none⟩), .int .u8 t.toNat] w (Took w B g t (some l)) := by
  have h0 : w.cell? ⟨g, 0, none⟩ = some (.slice A l.length cap) := hb.cell 0
  have h1 : w.cell? ⟨g, 1, none⟩ = some (.bool false) := hb.cell 1
  have f1 := hb.frozen 1
  have HB := Lib.hid hb
  have g1 : decide ((l.length : Int) < 2) = true := by simp only [decide_eq_true_eq]; omega
  have E := Lib.hid (show bodyC t (some l) = none by
    refine (body_none ?_).1
    rcases l with _ | ⟨a, _ | ⟨b, r⟩⟩
    · rfl
    · simp [splitL, lenR]
    · simp at hl; omega)
  clear hb hl
  go_enter Try.func42, Try.ntmps42
  go_wp2
  go_ret
  exact took_err HB.out E.out (World.grownBy.refl _ _)

end Go.Proofs.Ytkkpcnibghndgaa.DerR
