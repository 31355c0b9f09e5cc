/-
  The statement of RingNumbers: the walk's contract carried to the row: for every input the call answers true, and each argument reads as it did.
-/
import Derived.Deep.Slices
import Derived.Test.YtcjibpjdfhhhkaaRows
import Derived.WalkKit
import Derived.ProofKit
import Derived.OpenShut
import Derived.ShutString
import Derived.ChangeOld
import Derived.Below
import Derived.SizedLaws
import Derived.Deep.LoopGhost
import Derived.Deep.CutBlock
import Derived.DeepKeys
import Derived.Laws.StructEq
import Derived.Test.YtcjibpjdfhhhkaaZRingNumbers1
import Derived.Test.YtcjibpjdfhhhkaaZRingNumbers2
import Derived.Test.YtcjibpjdfhhhkaaZRingNumbers3
import Derived.Test.YtcjibpjdfhhhkaaZRingNumbers4
import Derived.Test.YtcjibpjdfhhhkaaZRingNumbers5
import Derived.Test.YtcjibpjdfhhhkaaZRingNumbers6
import Derived.Test.YtcjibpjdfhhhkaaZRingNumbers7
import Derived.Test.YtcjibpjdfhhhkaaZRingNumbers8
section
namespace Go.Proofs.Ytcjibpjdfhhhkaa.Open
open Go.ChangeShapes Go.WideShapes Go.ChangeAt Go.RowKit Go.Deep Go.Proofs.Ytcjibpjdfhhhkaa.Mem

section
variable {H : Type} {enc : TypeId × Value → H} {P : Program} {W : World}
theorem open_i64s {t e : TypeId} {v : Value} {d : DataW H} {ps : List MemPlace} (ht : P.underlying t = some (.slice e)) (he : P.underlying e = some (.int .i64)) (hc : P.cellsOf e = 1)
    (hv : ∃ A n c, v = .slice A n c) (h : DataW.Trod enc P W 0 (fun _ => true) true t v d ps) : ∃ A zs c, v = .slice A (List.length zs) c ∧ Rd W W.heap.size A (zs.map (Value.int .i64)) ∧ (∀ z ∈ zs, (Lit.int .i64 z).wf = true) ∧ zs.length ≤ c ∧ c ≤ maxLen := by
  obtain ⟨A, n, c, rfl⟩ := hv
  obtain ⟨fuel, hf⟩ := h
  rcases open_ints ht he hc hf with ⟨hcs, _⟩ | ⟨x, l, c, zs, hcs, _, hl, hm, hz, _, hcell, hwz⟩
  · injection hcs with hcs
    exact ⟨none, [], 0, hcs, .inl rfl, by simp, Nat.le_refl _, Nat.zero_le _⟩
  · injection hcs with hcs
    simp only [if_true] at hz
    refine ⟨some x, zs.take l, c, by rw [List.length_take, Nat.min_eq_left (by omega)]; exact hcs, rd_of_cells fun i u hu => ?_, fun z hz' => hwz z (List.mem_of_mem_take hz'), by rw [List.length_take]; omega, hm⟩
    have hi : i < l := by
      rcases Nat.lt_or_ge i l with g | g
      · exact g
      · rw [List.getElem?_eq_none (by simp; omega)] at hu; cases hu
    have hz2 : i < zs.length := by omega
    rw [hcell i hz2]
    simp only [List.getElem?_map, List.getElem?_take, if_pos hi, List.getElem?_eq_getElem hz2, Option.map_some] at hu
    rw [← hu, List.getD, List.getElem?_eq_getElem hz2, Option.getD_some]
end
end Go.Proofs.Ytcjibpjdfhhhkaa.Open
end

section
namespace Go.Proofs.Ytcjibpjdfhhhkaa.ringNumbers
open Go.ChangeShapes Go.WideShapes Go.ChangeAt Go.RowKit Go.Proofs.Ytcjibpjdfhhhkaa
open Go.ChangeMaps (open_string shut_string)

theorem own : ownKnob Try.prog.godebug = none := by kernel_rfl
theorem laidOut : laidOutB Try.prog = true := by kernel_rfl

set_option maxRecDepth 100000 in
theorem lifted (os : Os) (started : os.Started) (H : Type) (enc : TypeId × Value → H) :
    ReturnsInHanded {} Try.checked os 6 .any (Rows.ringNumbersSpec.pre6 enc Try.prog Try.f6 Rows.ringNumbersRow.domain false) (Rows.ringNumbersSpec.post enc Try.prog Try.f6 false true false false) := by
  refine returnsInHanded_of_change (C := Try.checked) own started (by kernel_rfl) Try.func6
    (ChangeSpec.witness6 (enc := enc) (C := Try.checked) false ⟨#[], #[.slice none 0 0], []⟩ 8 (by kernel_rfl) (by kernel_rfl) (by kernel_rfl) (by kernel_rfl)) ?_
  intro W base args ds gs before hval0 hW hcnd _
  have hval : ∀ (j : Nat) t v, Try.f6.params[j]? = some t → args[j]? = some v → Value.okWide Try.prog W .any base t v := hval0
  have hW' := hW
  obtain ⟨p, q, hA0, hV, rfl, hfz, hnd⟩ := hW
  have hA : DataW.TrodAll enc Try.prog W 0 (fun _ => true) true Try.f6.params.toList args.toList ds p := hA0
  rw [Try.params6] at hA hval
  obtain ⟨v0, vs0, d0, ds0, p0, q0, hargs, rfl, rfl, h0, r0⟩ := trodAll_cons hA
  obtain ⟨rfl, rfl, rfl⟩ := trodAll_nil r0
  obtain rfl : args = #[v0] := by cases args; simp_all
  obtain ⟨rfl, rfl⟩ := trodVars_none hV
  have k0 := h0
  have lt0 : ∀ x ∈ p0, x.block < W.heap.size := by obtain ⟨m, hm⟩ := k0; exact DataW.trod_lt m _ _ _ hm
  obtain ⟨A0, l0, c0, rfl, w0, z0, x0, y0⟩ := Open.open_i64s Try.underlying51 Try.underlying3 (by kernel_rfl) (okWide_slice Try.underlying51 (hval 0 51 v0 rfl rfl)) h0
  clear hA0 hval0
  refine (Rg.numbers A0 l0 c0 W w0).mono fun e W' ⟨he, bel⟩ => ?_
  subst he
  exact ⟨_, rfl, _, _, _, [], _, [], hW', trodAll_mk1 (shut_bool Try.underlying4 _), (trodAll_cons_mk (Below.trod laidOut (by kernel_rfl) (of_decide_eq_true (by kernel_rfl)) k0 bel lt0) trodAll_mk0), rfl, bel.frame _, fun h => by cases h⟩

theorem over : Rows.ringNumbersRow.holds Try.pinned (OpenSpec.ofChange Rows.ringNumbersSpec) :=
  OpenClaim.holds_of_wide 6 Try.f6 rfl rfl rfl rfl rfl rfl rfl ⟨rfl, rfl, rfl, rfl, rfl⟩ rfl rfl rfl rfl rfl (by kernel_rfl) Try.func6 (by kernel_rfl)
    (of_decide_eq_true (by kernel_rfl)) (by unfold Func.isWrapper; first | (rw [if_pos (by decide +kernel)]; kernel_rfl) | (rw [if_neg (by decide +kernel)]; exact ⟨rfl, rfl⟩))
    (fun os started H enc _ => lifted os started H enc)

theorem proved : Rows.RingNumbersSaid := over
end Go.Proofs.Ytcjibpjdfhhhkaa.ringNumbers
end
