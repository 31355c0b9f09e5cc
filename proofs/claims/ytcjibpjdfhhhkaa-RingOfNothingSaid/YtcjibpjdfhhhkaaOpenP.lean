/-
  Principals that came in, opened; with the reach.
-/
import Derived.Test.YtcjibpjdfhhhkaaOpenB
import Derived.SizedLaws
import Derived.Test.YtcjibpjdfhhhkaaRgPlain
import Derived.Test.YtcjibpjdfhhhkaaRows
import Derived.Lib.SmallJoins
import Derived.Deep.Strs
import Derived.ChangeSame
set_option linter.unusedVariables false
namespace Go.Proofs.Ytcjibpjdfhhhkaa.OpenP
open Go.Joins Go.ChangeShapes Go.WideShapes Go.ChangeAt Go.RowKit Go.Deep Go.Proofs.Ytcjibpjdfhhhkaa Go.Proofs.Ytcjibpjdfhhhkaa.Open Go.Proofs.Ytcjibpjdfhhhkaa.Mem Go.Proofs.Ytcjibpjdfhhhkaa.Rg

theorem cut {α : Type} (cs : List α) (o c : Nat) : cs.drop o = (cs.drop o).take c ++ cs.drop (o + c) := by
  rw [← List.drop_drop]; exact (List.take_append_drop c _).symm
section
variable {H : Type} {enc : TypeId × Value → H} {W : World}
theorem c_str : Try.prog.cellsOf 9 = 1 := by kernel_rfl
theorem c_int : Try.prog.cellsOf 3 = 1 := by kernel_rfl
theorem c_u8 : Try.prog.cellsOf 5 = 1 := by kernel_rfl
theorem c_pr : Try.prog.cellsOf 25 = 2 := by kernel_rfl
theorem in_str {n : Nat} {cs : List Value} {x : DataW H × List MemPlace} (h : DataW.trod enc Try.prog W 0 (fun _ => true) true n 9 cs = some x) (hw : ∀ n ∈ DataW.weights Try.prog 9 x.1, n ≤ reachBytes) : ∃ l : List UInt8, cs = [.string ⟨l.toArray⟩] ∧ l.length ≤ reachBytes := by
  obtain ⟨s, hs, hx, hz⟩ := DataW.trod_string Try.underlying9 h
  exact ⟨s.data.toList, by rw [hs, ← Mem.bytes_eta s], hw _ (by rw [hx]; simp [DataW.weights])⟩
theorem in_int {n : Nat} {cs : List Value} {x : DataW H × List MemPlace} (h : DataW.trod enc Try.prog W 0 (fun _ => true) true n 3 cs = some x) : ∃ i : Int, cs = [.int .i64 i] ∧ (Lit.int .i64 i).wf = true := by
  obtain ⟨i, h1, _, h2⟩ := DataW.trod_int Try.underlying3 h
  exact ⟨i, h1, h2⟩
theorem in_pr {n : Nat} {cs : List Value} {x : DataW H × List MemPlace} (h : DataW.trod enc Try.prog W 0 (fun _ => true) true n 25 cs = some x) (hw : ∀ n ∈ DataW.weights Try.prog 25 x.1, n ≤ reachBytes) : ∃ p : Pr, cs = [.string ⟨p.1.toArray⟩, .string ⟨p.2.toArray⟩] ∧ p.1.length ≤ reachBytes ∧ p.2.length ≤ reachBytes := by
  obtain ⟨y0, y1, m, hx, hl, h0, h1⟩ := trod_struct2 Try.underlying25 h
  simp only [c_str] at h0 h1
  have fw := fun (j : Nat) (t : TypeId) (d : DataW H) (ht : [9, 9][j]? = some t) (hd : [y0.1, y1.1][j]? = some d) (n : Nat) (hn : n ∈ d.weights Try.prog t) => hw n (by rw [hx]; simp only [DataW.weights, Try.underlying25]; exact DataW.weights_mem_each ht hd n hn)
  obtain ⟨l0, e0, b0⟩ := in_str h0 (fw 0 _ _ rfl rfl)
  obtain ⟨l1, e1, b1⟩ := in_str h1 (fw 1 _ _ rfl rfl)
  rw [c_pr] at hl
  refine ⟨(l0, l1), ?_, b0, b1⟩
  have k0 := cut cs 0 1
  have k1 := cut cs 1 1
  rw [e0] at k0
  rw [show 0 + 1 = 1 from rfl, k1, e1, List.drop_of_length_le (show cs.length ≤ 1 + 1 by omega)] at k0
  exact k0
theorem fn_list {α : Type} {n : Nat} {p : Nat → α → Prop} (h : ∀ i, i < n → ∃ a, p i a) : ∃ l : List α, l.length = n ∧ ∀ i (hi : i < l.length), p i l[i] := by
  induction n with
  | zero => exact ⟨[], rfl, fun i hi => by simp at hi⟩
  | succ n ih =>
    obtain ⟨l, hl, hp⟩ := ih fun i hi => h i (by omega)
    obtain ⟨a, ha⟩ := h n (by omega)
    refine ⟨l ++ [a], by simp [hl], fun i hi => ?_⟩
    rw [List.length_append, List.length_singleton] at hi
    by_cases g : i < l.length
    · rw [List.getElem_append_left g]; exact hp i g
    · obtain rfl : i = l.length := by omega
      rw [List.getElem_append_right (Nat.le_refl _)]
      simp only [Nat.sub_self, List.getElem_cons_zero]
      rw [hl]; exact ha
theorem c_key : Try.prog.cellsOf 30 = 32 := by kernel_rfl
theorem in_key {n : Nat} {cs : List Value} {x : DataW H × List MemPlace} (h : DataW.trod enc Try.prog W 0 (fun _ => true) true n 30 cs = some x) : ∃ k : Nat → UInt8, cs = (List.range 32).map (fun i => bv (k i)) := by
  obtain ⟨xs, m, _, hx, hl, hxl, hxs⟩ := DataW.trod_array Try.underlying30 h
  rw [c_key] at hl
  have each : ∀ i, i < 32 → ∃ b : UInt8, cs[i]? = some (bv b) := by
    intro i hi
    have g := hxs i (by omega)
    rw [c_u8, Nat.mul_one, List.getElem?_eq_getElem (by omega)] at g
    obtain ⟨v, h1, _, h2⟩ := DataW.trod_int Try.underlying5 g
    obtain ⟨b, rfl⟩ := u8_of_wf h2
    refine ⟨b, ?_⟩
    have e := congrArg (fun l : List Value => l[0]?) h1
    simp only [List.getElem?_cons_zero] at e
    rw [List.getElem?_take_of_lt (by omega), List.getElem?_drop, Nat.add_zero] at e
    exact e
  obtain ⟨k, hk, hp⟩ := fn_list each
  refine ⟨fun i => k.getD i 0, List.ext_getElem? fun i => ?_⟩
  by_cases hi : i < 32
  · rw [hp i (by omega)]
    simp [hi, List.getD, List.getElem?_eq_getElem (show i < k.length by omega)]
  · rw [List.getElem?_eq_none (by omega), List.getElem?_eq_none (by simp; omega)]
theorem open_st {P : Program} {t : TypeId} {fs : Array Field} (ht : P.underlying t = some (.struct fs)) {r : Reach} {b0 : Nat} {v : Value} {d : DataW H} {ps : List MemPlace} (hv : Value.okWide P W r b0 t v) (h : DataW.Trod enc P W 0 (fun _ => true) true t v d ps) :
    ∃ cs : Array Value, ∃ n : Nat, v = Value.agg cs ∧ DataW.trod enc P W 0 (fun _ => true) true n t cs.toList = some (d, ps) := by
  obtain ⟨cs, hcs, _⟩ := okWide_struct ht hv
  obtain ⟨n, hf⟩ := h
  rw [hcs] at hf
  exact ⟨cs, n, hcs, hf⟩
end
end Go.Proofs.Ytcjibpjdfhhhkaa.OpenP
