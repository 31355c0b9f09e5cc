/-
  The opening of a slice of acts (structs of a number and a byte).
-/
import Derived.Test.YtkkpcnibghndgaaOpen
import Derived.Test.YtkkpcnibghndgaaDerLaw11
set_option linter.unusedVariables false
namespace Go.Proofs.Ytkkpcnibghndgaa.Open
open Go.ChangeShapes Go.WideShapes Go.ChangeAt Go.RowKit Go.Deep Go.Proofs.Ytkkpcnibghndgaa.Mem Go.Proofs.Ytkkpcnibghndgaa.DerP

section
variable {H : Type} {enc : TypeId × Value → H} {P : Program} {W : World}
theorem open_acts {t e : TypeId} {f0 f1 : Field} {v : Value} {d : DataW H} {ps : List MemPlace} (ht : P.underlying t = some (.slice e)) (he : P.underlying e = some (.struct #[f0, f1])) (ce : P.cellsOf e = 2) (o0 : f0.offset = 0) (o1 : f1.offset = 1)
    (h0 : P.underlying f0.type = some (.int .i64)) (h1 : P.underlying f1.type = some (.int .u8)) (c0 : P.cellsOf f0.type = 1) (c1 : P.cellsOf f1.type = 1)
    (hv : ∃ A n c, v = .slice A n c) (h : DataW.Trod enc P W 0 (fun _ => true) true t v d ps) : ∃ A ac c, v = .slice A (List.length ac) c ∧ DerL.Acs W W.heap.size A ac ∧ ac.length ≤ c ∧ c ≤ maxLen := by
  obtain ⟨A, n, c, rfl⟩ := hv
  obtain ⟨fuel, hf⟩ := h
  rcases open_slice ht hf with ⟨hcs, _⟩ | ⟨a, len, cap, m, k, D, Pl, hcs, _, hl, hm, hmm, _, hx⟩
  · injection hcs with hcs
    exact ⟨none, [], 0, hcs, .inl rfl, Nat.le_refl _, Nat.zero_le _⟩
  · injection hcs with hcs
    simp only [if_true] at hmm
    subst hmm
    rw [ce] at hx
    obtain ⟨ac, hll, hls⟩ := list_of_fn (n := len) (p := fun i (q : Int × UInt8) => W.cell? (a.add (i * 2)) = some (.int .i64 q.1) ∧ W.cell? ((a.add (i * 2)).add 1) = some (.int .u8 (q.2.toNat : Int))) (fun i hi => by
      obtain ⟨cs', e1, e2⟩ := hx i (by omega)
      obtain ⟨_, hlen, hcell⟩ := World.cells?_some e1
      obtain ⟨y0, y1, n', _, _, t0, t1⟩ := trod_struct2 he e2
      rw [o0, c0] at t0
      rw [o1, c1] at t1
      match cs', hlen with
      | [u0, u1], _ =>
        obtain ⟨n0, q0, _, _⟩ := DataW.trod_int h0 t0
        obtain ⟨n1, q1, _, w1⟩ := DataW.trod_int h1 t1
        obtain ⟨b, rfl⟩ := u8_of_wf w1
        have r0 : u0 = .int .i64 n0 := by simpa using q0
        have r1 : u1 = .int .u8 (b.toNat : Int) := by simpa using q1
        subst r0 r1
        have s0 := hcell 0 (by omega)
        have s1 := hcell 1 (by omega)
        refine ⟨(n0, b), ?_, s1⟩
        rw [show (a.add (i * 2)).add 0 = a.add (i * 2) by simp [Addr.add]] at s0
        exact s0)
    refine ⟨some a, ac, _, by rw [hll]; exact hcs, ?_, by omega, hm⟩
    cases hls0 : ac with
    | nil => exact .inl rfl
    | cons l0 r =>
      have z := (hls 0 l0 (by rw [hls0]; rfl)).1
      rw [Nat.zero_mul, show a.add 0 = a by simp [Addr.add]] at z
      obtain ⟨b, o, rfl⟩ := addr_none z
      refine .inr ⟨b, o, rfl, World.block_lt_of_cell? W _ z, fun i q hi => ?_⟩
      rw [← hls0] at hi
      have := hls i q hi
      rwa [addr_add, addr_add] at this
end
end Go.Proofs.Ytkkpcnibghndgaa.Open
