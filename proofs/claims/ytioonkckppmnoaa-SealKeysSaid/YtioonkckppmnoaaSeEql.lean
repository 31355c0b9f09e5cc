/-
  Two keys are compared.
-/
import Derived.Test.YtioonkckppmnoaaSeRes
import Derived.DeepKeys
import Derived.Laws.StructEq
set_option linter.unusedVariables false
namespace Go.Proofs.Ytioonkckppmnoaa.SeL
open Go.RowKit Go.Proofs.Ytioonkckppmnoaa.Mem Go.Proofs.Ytioonkckppmnoaa.Se

theorem mapM_all {α β : Type} (g : α → Option β) (h : α → β) : ∀ l : List α, (∀ i ∈ l, g i = some (h i)) → l.mapM g = some (l.map h)
  | [], _ => rfl
  | a :: l, hh => by
    rw [List.mapM_cons, hh a (by simp), mapM_all g h l (fun i hi => hh i (by simp [hi]))]
    rfl
theorem flat_one {α β : Type} (g : α → β) : ∀ l : List α, (l.map fun i => [g i]).flatten = l.map g
  | [] => rfl
  | a :: l => by rw [List.map_cons, List.flatten_cons, flat_one g l, List.map_cons]; rfl
def lits (f : Nat → UInt8) : List Lit := (List.range 32).map fun i => Lit.int .u8 ((f i).toNat : Int)
theorem lits_of (f : Nat → UInt8) : Try.prog.keyLits 5 26 (key32 f).toList = some (lits f) := by
  have hu26 := Try.underlying26
  have hu5 := Try.underlying5
  have c26 : Try.prog.cellsOf 26 = 32 := by kernel_rfl
  have c5 : Try.prog.cellsOf 5 = 1 := by kernel_rfl
  have one : ∀ b : UInt8, Try.prog.keyLits 4 5 [bv b] = some [Lit.int .u8 (b.toNat : Int)] := fun b => by
    have hw : (Lit.int .u8 (b.toNat : Int)).wf = true := by
      have := b.toNat_lt
      simp [Lit.wf, IntKind.min, IntKind.max, IntKind.signed, IntKind.bits]
      omega
    unfold Program.keyLits bv
    simp only [hu5, hw, and_self, if_true]
  unfold Program.keyLits
  simp only [hu26]
  have hl : (key32 f).toList.length = Try.prog.cellsOf 26 := by rw [c26, Array.length_toList, key32_size]
  rw [if_pos hl]
  have hm := mapM_all (fun i => Try.prog.keyLits 4 5 (((key32 f).toList.drop (i * Try.prog.cellsOf 5)).take (Try.prog.cellsOf 5))) (fun i => [Lit.int .u8 ((f i).toNat : Int)]) (List.range 32) (fun i hi => by
    have h32 : i < 32 := List.mem_range.1 hi
    have hlt : i < (key32 f).toList.length := by rw [Array.length_toList, key32_size]; exact h32
    rw [c5, Nat.mul_one, List.drop_eq_getElem_cons hlt, List.take_succ_cons, List.take_zero]
    have e : (key32 f).toList[i] = bv (f i) := by simp [key32]
    rw [e]
    exact one (f i))
  rw [hm]
  show some ((List.range 32).map fun i => [Lit.int .u8 ((f i).toNat : Int)]).flatten = _
  rw [flat_one]; rfl
theorem eql_keys (f g : Nat → UInt8) (w : World) : ∃ r : Bool, (Op.equalIn 10000 26 (.agg (key32 f)) (.agg (key32 g))).run Try.prog w = .ok r w ∧ (r = true ↔ lits f = lits g) := by
  have h := run_equalIn_deep (P := Try.prog) 9998 2 26 (by kernel_rfl)
  exact h w 5 5 (.agg (key32 f)) (.agg (key32 g)) (lits f) (lits g) (by kernel_rfl) (by kernel_rfl) (lits_of f) (lits_of g)
theorem lits_eq {f g : Nat → UInt8} (h : lits f = lits g) (i : Nat) (hi : i < 32) : f i = g i := by
  have e := congrArg (fun l : List Lit => l[i]?) h
  simp only [lits, List.getElem?_map, List.getElem?_range hi, Option.map_some, Option.some.injEq, Lit.int.injEq, true_and] at e
  exact UInt8.toNat_inj.1 (by omega)
theorem lits_congr {f g : Nat → UInt8} (h : ∀ i, i < 32 → f i = g i) : lits f = lits g := by
  unfold lits
  apply List.map_congr_left
  intro i hi
  rw [h i (List.mem_range.1 hi)]
theorem kw_congr {f g : Nat → UInt8} (h : ∀ i, i < 32 → f i = g i) : Sp.kw f = Sp.kw g := by
  have hk : ∀ i, i < 4 → Sp.kword f i = Sp.kword g i := fun i hi => by
    unfold Sp.kword
    rw [h (4 * i) (by omega), h (4 * i + 1) (by omega), h (4 * i + 2) (by omega), h (4 * i + 3) (by omega)]
  have hs : ∀ i, Sp.sch f i = Sp.sch g i := fun i => by
    induction i with
    | zero => unfold Sp.sch; rw [hk 0 (by decide), hk 1 (by decide), hk 2 (by decide), hk 3 (by decide)]
    | succ i ih => unfold Sp.sch; rw [ih]
  funext i
  unfold Sp.kw
  rw [hs i]
theorem sum_congr {f g : Nat → UInt8} (h : ∀ i, i < 32 → f i = g i) (l : List UInt8) : Si.sumOf (k2 f) l = Si.sumOf (k2 g) l := by
  have ha : Si.kA (k2 f) = Si.kA (k2 g) := by
    unfold Si.kA
    congr 2
    apply List.map_congr_left
    intro i hi
    have := List.mem_range.1 hi
    exact h (16 + i) (by omega)
  have hb : Si.kB (k2 f) = Si.kB (k2 g) := by
    unfold Si.kB
    congr 2
    apply List.map_congr_left
    intro i hi
    have := List.mem_range.1 hi
    exact h (16 + (8 + i)) (by omega)
  have hs : Si.start (k2 f) = Si.start (k2 g) := by unfold Si.start; rw [ha, hb]
  unfold Si.sumOf Si.stOf
  rw [hs]
theorem seal_congr {f g : Nat → UInt8} (h : ∀ i, i < 32 → f i = g i) (u n : Nat) (p : List UInt8) : sealL f u n p = sealL g u n p := by
  have hm : mixL f u n p = mixL g u n p := by unfold mixL strmL; rw [kw_congr h]
  have ha : aheadL f u n p = aheadL g u n p := by unfold aheadL; rw [hm]
  unfold sealL tagL
  rw [ha, sum_congr h]
end Go.Proofs.Ytioonkckppmnoaa.SeL
