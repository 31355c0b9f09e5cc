/-
  The statement of MsgKinds: the walk's contract carried to the row: where what it reads is of bulk at most 1048576 the call answers true, and each argument reads as it did.
-/
import Derived.Deep.LoopGhost
import Derived.Deep.RegionHeld3
import Derived.ProofKit
import Derived.OpenShut
import Derived.ShutString
import Derived.ChangeOld
import Derived.Deep.Matrix
import Derived.Deep.Slices
import Derived.Test.YteeabfplnaknfaaGreatRows
import Derived.Lib.SmallJoins
import Derived.Deep.Strs
import Derived.ChangeSame
import Derived.WalkKit
import Derived.Below
import Derived.SizedLaws
import Derived.JoinedCond
import Derived.Deep.CondSized
import Derived.Test.YteeabfplnaknfaaGreatZMsgKinds1
import Derived.Test.YteeabfplnaknfaaGreatZMsgKinds2
import Derived.Test.YteeabfplnaknfaaGreatZMsgKinds3
import Derived.Test.YteeabfplnaknfaaGreatZMsgKinds4
import Derived.Test.YteeabfplnaknfaaGreatZMsgKinds5
import Derived.Test.YteeabfplnaknfaaGreatZMsgKinds6
import Derived.Test.YteeabfplnaknfaaGreatZMsgKinds7
import Derived.Test.YteeabfplnaknfaaGreatZMsgKinds8
import Derived.Test.YteeabfplnaknfaaGreatZMsgKinds9
import Derived.Test.YteeabfplnaknfaaGreatZMsgKinds10
import Derived.Test.YteeabfplnaknfaaGreatZMsgKinds11
import Derived.Test.YteeabfplnaknfaaGreatZMsgKinds12
import Derived.Test.YteeabfplnaknfaaGreatZMsgKinds13
import Derived.Test.YteeabfplnaknfaaGreatZMsgKinds14
import Derived.Test.YteeabfplnaknfaaGreatZMsgKinds15
section
set_option linter.unusedVariables false
set_option linter.unusedSimpArgs false
namespace Go.Proofs.YteeabfplnaknfaaGreat.Mc
open Go.RowKit Go.Proofs.YteeabfplnaknfaaGreat.Mem Go.Proofs.YteeabfplnaknfaaGreat.DerP Go.Proofs.YteeabfplnaknfaaGreat.Ms

theorem stored_at (w : World) (t : TypeId) (lit cs : Array Value) (hs : lit.size = cs.size) : Blk ((w.alloc (.cells lit t)).setCells w.heap.size 0 cs.toList) w.heap.size t cs ∧ Below w.heap.size w ((w.alloc (.cells lit t)).setCells w.heap.size 0 cs.toList) :=
  ⟨blk_cells (Blk.new w t lit) hs, below_g ((Below.refl w.heap.size w).alloc (Nat.le_refl _) _) (put_cells _ _ _) (by simp) (Nat.le_refl _)⟩
theorem store_new {P : Program} {ops : Array Oper} {rest : List Oper} {op : Oper} {a : Act} {w w0 : World} {Q : Exit → Act → World → Prop} {lit : Array Value} (hgd : op.guard = none) (ty : TypeId) (x y : Operand) (ho : op.op = .store ty x y) (t : TypeId) (hw : w = w0.alloc (.cells lit t))
    (cells : Array Value) (hx : a.eval x = .pointer (some ⟨w0.heap.size, 0, none⟩)) (hy : a.eval y = .agg cells) (hs : lit.size = cells.size)
    (hi : (P.info? ty).map (·.size) = some cells.size) (h1 : cells.all (·.oneCell') = true)
    (h : ∀ V, Blk V w0.heap.size t cells → Below w0.heap.size w0 V → wpList P ops Q rest (a.put op.dst undef) V) : wpList P ops Q (op :: rest) a w := by
  subst hw
  have hV := stored_at w0 t lit cells hs
  exact wpList_store_mid hgd ty x y ho w0.heap.size 0 cells hx hy (there_blk (Blk.new w0 t lit) _ (by omega)) hi h1 (h _ hV.1 hV.2)
end Go.Proofs.YteeabfplnaknfaaGreat.Mc
end

section
namespace Go.Proofs.YteeabfplnaknfaaGreat.Open
open Go.ChangeShapes Go.WideShapes Go.ChangeAt Go.RowKit Go.Deep Go.Proofs.YteeabfplnaknfaaGreat.Mem

theorem u8_of_wf {n : Int} (h : (Lit.int .u8 n).wf = true) : ∃ b : UInt8, n = (b.toNat : Int) := by
  have hx : 0 ≤ n ∧ n ≤ 255 := by simpa [Lit.wf, IntKind.min, IntKind.max, IntKind.signed, IntKind.bits] using h
  refine ⟨UInt8.ofNat n.toNat, ?_⟩
  have : (UInt8.ofNat n.toNat).toNat = n.toNat := by simp; omega
  rw [this]; omega
section
variable {H : Type} {enc : TypeId × Value → H} {P : Program} {W : World}

end

end Go.Proofs.YteeabfplnaknfaaGreat.Open
end

section
set_option linter.unusedVariables false
namespace Go.Proofs.YteeabfplnaknfaaGreat.Open
open Go.Joins Go.ChangeShapes Go.WideShapes Go.ChangeAt Go.RowKit Go.Deep Go.Proofs.YteeabfplnaknfaaGreat Go.Proofs.YteeabfplnaknfaaGreat.Mem Go.Proofs.YteeabfplnaknfaaGreat.Ms Go.Proofs.YteeabfplnaknfaaGreat.Mc

theorem cut {α : Type} (cs : List α) (o c : Nat) : cs.drop o = (cs.drop o).take c ++ cs.drop (o + c) := by
  rw [← List.drop_drop]; exact (List.take_append_drop c _).symm
section
variable {H : Type} {enc : TypeId × Value → H} {W : World}
theorem c_str : Tryz.prog.cellsOf 9 = 1 := by kernel_rfl
theorem c_int : Tryz.prog.cellsOf 3 = 1 := by kernel_rfl
theorem c_u8 : Tryz.prog.cellsOf 5 = 1 := by kernel_rfl
theorem c_pr : Tryz.prog.cellsOf 23 = 2 := by kernel_rfl
def Lp (p : Pr) : Prop := p.1.length ≤ maxLen ∧ p.2.length ≤ maxLen
theorem in_str {n : Nat} {cs : List Value} {x : DataW H × List MemPlace} (h : DataW.trod enc Tryz.prog W 0 (fun _ => true) true n 9 cs = some x) : ∃ l : List UInt8, cs = [.string ⟨l.toArray⟩] ∧ l.length ≤ maxLen ∧ l.length ≤ Rows.uptoBulk x.1 := by
  obtain ⟨s, hs, hx, hz⟩ := DataW.trod_string Tryz.underlying9 h
  refine ⟨s.data.toList, by rw [hs, ← Mem.bytes_eta s], by rw [Array.length_toList]; exact hz, ?_⟩
  rw [hx]; show _ ≤ Rows.uptoBulk (.lit (.string s.data.toList)); rw [Rows.uptoBulk]; omega
theorem in_int {n : Nat} {cs : List Value} {x : DataW H × List MemPlace} (h : DataW.trod enc Tryz.prog W 0 (fun _ => true) true n 3 cs = some x) : ∃ i : Int, cs = [.int .i64 i] ∧ (Lit.int .i64 i).wf = true := by
  obtain ⟨i, h1, _, h2⟩ := DataW.trod_int Tryz.underlying3 h
  exact ⟨i, h1, h2⟩
theorem in_pr {n : Nat} {cs : List Value} {x : DataW H × List MemPlace} (h : DataW.trod enc Tryz.prog W 0 (fun _ => true) true n 23 cs = some x) : ∃ p : Pr, cs = prC p ∧ Lp p ∧ p.1.length ≤ Rows.uptoBulk x.1 ∧ p.2.length ≤ Rows.uptoBulk x.1 := by
  obtain ⟨y0, y1, m, hx, hl, h0, h1⟩ := trod_struct2 Tryz.underlying23 h
  simp only [c_str] at h0 h1
  obtain ⟨l0, e0, b0, u0⟩ := in_str h0
  obtain ⟨l1, e1, b1, u1⟩ := in_str h1
  rw [c_pr] at hl
  refine ⟨(l0, l1), ?_, ⟨b0, b1⟩, ?_⟩
  · have k0 := cut cs 0 1
    have k1 := cut cs 1 1
    rw [e0] at k0
    rw [show 0 + 1 = 1 from rfl, k1, e1, List.drop_of_length_le (show cs.length ≤ 1 + 1 by omega)] at k0
    exact k0
  · rw [hx]
    show _ ≤ Rows.uptoBulk (.agg [y0.1, y1.1]) ∧ _ ≤ Rows.uptoBulk (.agg [y0.1, y1.1])
    rw [Rows.uptoBulk, Rows.uptoBulkAll, Rows.uptoBulkAll, Rows.uptoBulkAll]
    constructor <;> (simp only; omega)
theorem fn_list {α : Type} {n : Nat} {p : Nat → α → Prop} (h : ∀ i, i < n → ∃ a, p i a) : ∃ l : List α, l.length = n ∧ ∀ i (hi : i < l.length), p i l[i] := by
  induction n with
  | zero => exact ⟨[], rfl, fun i hi => by simp at hi⟩
  | succ n ih =>
    obtain ⟨l, hl, hp⟩ := ih fun i hi => h i (by omega)
    obtain ⟨a, ha⟩ := h n (by omega)
    refine ⟨l ++ [a], by simp [hl], fun i hi => ?_⟩
    rw [List.length_append, List.length_singleton] at hi
    by_cases g : i < l.length
    · rw [List.getElem_append_left g]; exact hp i g
    · obtain rfl : i = l.length := by omega
      rw [List.getElem_append_right (Nat.le_refl _)]
      simp only [Nat.sub_self, List.getElem_cons_zero]
      rw [hl]; exact ha
theorem bulk_in {d : DataW H} {l : List (DataW H)} (h : d ∈ l) : Rows.uptoBulk d ≤ Rows.uptoBulkAll l := by
  induction l with
  | nil => cases h
  | cons x r ih =>
    rw [Rows.uptoBulkAll]
    rcases List.mem_cons.1 h with e | e
    · rw [e]; omega
    · have := ih e; omega
theorem bulk_agg {d : DataW H} {l : List (DataW H)} (h : d ∈ l) : Rows.uptoBulk d ≤ Rows.uptoBulk (.agg l) := by
  have := bulk_in h
  rw [Rows.uptoBulk]; omega
theorem c_key : Tryz.prog.cellsOf 53 = 32 := by kernel_rfl
theorem in_key {n : Nat} {cs : List Value} {x : DataW H × List MemPlace} (h : DataW.trod enc Tryz.prog W 0 (fun _ => true) true n 53 cs = some x) : ∃ k : List UInt8, k.length = 32 ∧ cs = bvs k := by
  obtain ⟨xs, m, _, hx, hl, hxl, hxs⟩ := DataW.trod_array Tryz.underlying53 h
  rw [c_key] at hl
  have each : ∀ i, i < 32 → ∃ b : UInt8, cs[i]? = some (bv b) := by
    intro i hi
    have g := hxs i (by omega)
    rw [c_u8, Nat.mul_one, List.getElem?_eq_getElem (by omega)] at g
    obtain ⟨v, h1, _, h2⟩ := DataW.trod_int Tryz.underlying5 g
    obtain ⟨b, rfl⟩ := u8_of_wf h2
    refine ⟨b, ?_⟩
    have e := congrArg (fun l : List Value => l[0]?) h1
    simp only [List.getElem?_cons_zero] at e
    rw [List.getElem?_take_of_lt (by omega), List.getElem?_drop, Nat.add_zero] at e
    exact e
  obtain ⟨k, hk, hp⟩ := fn_list each
  refine ⟨k, hk, List.ext_getElem? fun i => ?_⟩
  by_cases hi : i < k.length
  · rw [hp i hi, bvs_at hi]
  · rw [List.getElem?_eq_none (by omega), List.getElem?_eq_none (by rw [bvs_length]; omega)]
theorem c_an : Tryz.prog.cellsOf 57 = 4 := by kernel_rfl
theorem in_an {n : Nat} {cs : List Value} {x : DataW H × List MemPlace} (h : DataW.trod enc Tryz.prog W 0 (fun _ => true) true n 57 cs = some x) : ∃ (a : An), cs = anC a ∧ Lp a.c ∧ a.c.1.length ≤ Rows.uptoBulk x.1 ∧ a.c.2.length ≤ Rows.uptoBulk x.1 := by
  obtain ⟨xs, m, _, hx, hl, hxl, hf⟩ := DataW.trod_struct Tryz.underlying57 h
  rw [c_an] at hl
  match xs, hxl with
  | [y0_, y1_, y2_], _ =>
    have h0 : DataW.trod enc Tryz.prog W 0 (fun _ => true) true m 23 ((cs.drop 0).take (Tryz.prog.cellsOf 23)) = some y0_ := hf 0 _ rfl
    rw [c_pr] at h0
    obtain ⟨l0, e0, b0, u0, w0⟩ := in_pr h0
    have h1 : DataW.trod enc Tryz.prog W 0 (fun _ => true) true m 3 ((cs.drop 2).take (Tryz.prog.cellsOf 3)) = some y1_ := hf 1 _ rfl
    rw [c_int] at h1
    obtain ⟨l1, e1, b1⟩ := in_int h1
    have h2 : DataW.trod enc Tryz.prog W 0 (fun _ => true) true m 3 ((cs.drop 3).take (Tryz.prog.cellsOf 3)) = some y2_ := hf 2 _ rfl
    rw [c_int] at h2
    obtain ⟨l2, e2, b2⟩ := in_int h2
    have k0 := cut cs 0 2
    rw [e0] at k0
    have k1 := cut cs 2 1
    rw [e1] at k1
    have k2 := cut cs 3 1
    rw [e2] at k2
    have k : cs = cs.drop 0 := rfl
    rw [k0, show 0 + 2 = 2 from rfl] at k
    rw [k1, show 2 + 1 = 3 from rfl] at k
    rw [k2, show 3 + 1 = 4 from rfl] at k
    rw [show cs.drop 4 = [] from List.drop_of_length_le (by omega)] at k
    clear hf h h0 k0 e0 h1 k1 e1 h2 k2 e2
    have g := bulk_agg (d := y0_.1) (l := [y0_.1, y1_.1, y2_.1]) (by simp)
    rw [hx]
    exact ⟨⟨l0, l1, l2⟩, k, b0, Nat.le_trans u0 g, Nat.le_trans w0 g⟩
theorem c_pt : Tryz.prog.cellsOf 55 = 37 := by kernel_rfl
theorem in_pt {n : Nat} {cs : List Value} {x : DataW H × List MemPlace} (h : DataW.trod enc Tryz.prog W 0 (fun _ => true) true n 55 cs = some x) : ∃ (p : Pt), p.ss.length = 32 ∧ cs = ptC p ∧ Lp p.c ∧ p.tr.length ≤ maxLen ∧ p.c.1.length ≤ Rows.uptoBulk x.1 ∧ p.c.2.length ≤ Rows.uptoBulk x.1 ∧ p.tr.length ≤ Rows.uptoBulk x.1 := by
  obtain ⟨xs, m, _, hx, hl, hxl, hf⟩ := DataW.trod_struct Tryz.underlying55 h
  rw [c_pt] at hl
  match xs, hxl with
  | [y0_, y1_, y2_, y3_, y4_], _ =>
    have h0 : DataW.trod enc Tryz.prog W 0 (fun _ => true) true m 23 ((cs.drop 0).take (Tryz.prog.cellsOf 23)) = some y0_ := hf 0 _ rfl
    rw [c_pr] at h0
    obtain ⟨l0, e0, b0, u0, w0⟩ := in_pr h0
    have h1 : DataW.trod enc Tryz.prog W 0 (fun _ => true) true m 53 ((cs.drop 2).take (Tryz.prog.cellsOf 53)) = some y1_ := hf 1 _ rfl
    rw [c_key] at h1
    obtain ⟨l1, hk1, e1⟩ := in_key h1
    have h2 : DataW.trod enc Tryz.prog W 0 (fun _ => true) true m 9 ((cs.drop 34).take (Tryz.prog.cellsOf 9)) = some y2_ := hf 2 _ rfl
    rw [c_str] at h2
    obtain ⟨l2, e2, b2, u2⟩ := in_str h2
    have h3 : DataW.trod enc Tryz.prog W 0 (fun _ => true) true m 3 ((cs.drop 35).take (Tryz.prog.cellsOf 3)) = some y3_ := hf 3 _ rfl
    rw [c_int] at h3
    obtain ⟨l3, e3, b3⟩ := in_int h3
    have h4 : DataW.trod enc Tryz.prog W 0 (fun _ => true) true m 3 ((cs.drop 36).take (Tryz.prog.cellsOf 3)) = some y4_ := hf 4 _ rfl
    rw [c_int] at h4
    obtain ⟨l4, e4, b4⟩ := in_int h4
    have k0 := cut cs 0 2
    rw [e0] at k0
    have k1 := cut cs 2 32
    rw [e1] at k1
    have k2 := cut cs 34 1
    rw [e2] at k2
    have k3 := cut cs 35 1
    rw [e3] at k3
    have k4 := cut cs 36 1
    rw [e4] at k4
    have k : cs = cs.drop 0 := rfl
    rw [k0, show 0 + 2 = 2 from rfl] at k
    rw [k1, show 2 + 32 = 34 from rfl] at k
    rw [k2, show 34 + 1 = 35 from rfl] at k
    rw [k3, show 35 + 1 = 36 from rfl] at k
    rw [k4, show 36 + 1 = 37 from rfl] at k
    rw [show cs.drop 37 = [] from List.drop_of_length_le (by omega)] at k
    clear hf h h0 k0 e0 h1 k1 e1 h2 k2 e2 h3 k3 e3 h4 k4 e4
    have g := bulk_agg (d := y0_.1) (l := [y0_.1, y1_.1, y2_.1, y3_.1, y4_.1]) (by simp)
    have g2 := bulk_agg (d := y2_.1) (l := [y0_.1, y1_.1, y2_.1, y3_.1, y4_.1]) (by simp)
    rw [hx]
    exact ⟨⟨l0, l1, l2, l3, l4⟩, hk1, k, b0, b2, Nat.le_trans u0 g, Nat.le_trans w0 g, Nat.le_trans u2 g2⟩
theorem c_rp : Tryz.prog.cellsOf 59 = 37 := by kernel_rfl
theorem in_rp {n : Nat} {cs : List Value} {x : DataW H × List MemPlace} (h : DataW.trod enc Tryz.prog W 0 (fun _ => true) true n 59 cs = some x) : ∃ (p : Rp), p.ss.length = 32 ∧ cs = rpC p ∧ Lp p.s ∧ p.s.1.length ≤ Rows.uptoBulk x.1 ∧ p.s.2.length ≤ Rows.uptoBulk x.1 := by
  obtain ⟨xs, m, _, hx, hl, hxl, hf⟩ := DataW.trod_struct Tryz.underlying59 h
  rw [c_rp] at hl
  match xs, hxl with
  | [y0_, y1_, y2_, y3_, y4_], _ =>
    have h0 : DataW.trod enc Tryz.prog W 0 (fun _ => true) true m 53 ((cs.drop 0).take (Tryz.prog.cellsOf 53)) = some y0_ := hf 0 _ rfl
    rw [c_key] at h0
    obtain ⟨l0, hk0, e0⟩ := in_key h0
    have h1 : DataW.trod enc Tryz.prog W 0 (fun _ => true) true m 23 ((cs.drop 32).take (Tryz.prog.cellsOf 23)) = some y1_ := hf 1 _ rfl
    rw [c_pr] at h1
    obtain ⟨l1, e1, b1, u1, w1⟩ := in_pr h1
    have h2 : DataW.trod enc Tryz.prog W 0 (fun _ => true) true m 3 ((cs.drop 34).take (Tryz.prog.cellsOf 3)) = some y2_ := hf 2 _ rfl
    rw [c_int] at h2
    obtain ⟨l2, e2, b2⟩ := in_int h2
    have h3 : DataW.trod enc Tryz.prog W 0 (fun _ => true) true m 3 ((cs.drop 35).take (Tryz.prog.cellsOf 3)) = some y3_ := hf 3 _ rfl
    rw [c_int] at h3
    obtain ⟨l3, e3, b3⟩ := in_int h3
    have h4 : DataW.trod enc Tryz.prog W 0 (fun _ => true) true m 3 ((cs.drop 36).take (Tryz.prog.cellsOf 3)) = some y4_ := hf 4 _ rfl
    rw [c_int] at h4
    obtain ⟨l4, e4, b4⟩ := in_int h4
    have k0 := cut cs 0 32
    rw [e0] at k0
    have k1 := cut cs 32 2
    rw [e1] at k1
    have k2 := cut cs 34 1
    rw [e2] at k2
    have k3 := cut cs 35 1
    rw [e3] at k3
    have k4 := cut cs 36 1
    rw [e4] at k4
    have k : cs = cs.drop 0 := rfl
    rw [k0, show 0 + 32 = 32 from rfl] at k
    rw [k1, show 32 + 2 = 34 from rfl] at k
    rw [k2, show 34 + 1 = 35 from rfl] at k
    rw [k3, show 35 + 1 = 36 from rfl] at k
    rw [k4, show 36 + 1 = 37 from rfl] at k
    rw [show cs.drop 37 = [] from List.drop_of_length_le (by omega)] at k
    clear hf h h0 k0 e0 h1 k1 e1 h2 k2 e2 h3 k3 e3 h4 k4 e4
    have g := bulk_agg (d := y1_.1) (l := [y0_.1, y1_.1, y2_.1, y3_.1, y4_.1]) (by simp)
    rw [hx]
    exact ⟨⟨l0, l1, l2, l3, l4⟩, hk0, k, b1, Nat.le_trans u1 g, Nat.le_trans w1 g⟩
theorem open_st {P : Program} {t : TypeId} {fs : Array Field} (ht : P.underlying t = some (.struct fs)) {r : Reach} {b0 : Nat} {v : Value} {d : DataW H} {ps : List MemPlace} (hv : Value.okWide P W r b0 t v) (h : DataW.Trod enc P W 0 (fun _ => true) true t v d ps) :
    ∃ cs : Array Value, ∃ n : Nat, v = Value.agg cs ∧ DataW.trod enc P W 0 (fun _ => true) true n t cs.toList = some (d, ps) := by
  obtain ⟨cs, hcs, _⟩ := okWide_struct ht hv
  obtain ⟨n, hf⟩ := h
  rw [hcs] at hf
  exact ⟨cs, n, hcs, hf⟩
theorem upto_of {ds : List (DataW H)} {d : DataW H} {n : Nat} (hk : Rows.uptoSmall H ds = true) (h : d ∈ ds) (hn : n ≤ Rows.uptoBulk d) : n ≤ 1048576 := by
  have h1 := bulk_in h
  have h2 : Rows.uptoBulkAll ds ≤ 1048576 := of_decide_eq_true hk
  omega
end
end Go.Proofs.YteeabfplnaknfaaGreat.Open
end

section
set_option linter.unusedVariables false
set_option linter.unusedSimpArgs false
namespace Go.Proofs.YteeabfplnaknfaaGreat.Mc
open Go.RowKit Go.Proofs.YteeabfplnaknfaaGreat.Mem Go.Proofs.YteeabfplnaknfaaGreat.DerP Go.Proofs.YteeabfplnaknfaaGreat.Ms

theorem blk_at (w : World) (g : Nat) (t : TypeId) (cs : Array Value) (hg : w.heap.size = g) : Blk (w.alloc (.cells cs t)) g t cs := hg ▸ Blk.new w t cs
theorem head_ne {t u : UInt8} {p q : L} (h : elem t p = elem u q) : t = u := by simp only [elem, List.cons.injEq] at h; exact h.1
theorem pt_not_an (a : An) : ptD (anE a) = none := by
  cases h : ptD (anE a) with
  | none => rfl
  | some p => exact absurd (head_ne (lim_iff.1 (pt_ok h).1).2.2) (by decide)
theorem an_not_rp (r : Rp) : anD (rpE r) = none := by
  cases h : anD (rpE r) with
  | none => rfl
  | some p => exact absurd (head_ne (lim_iff.1 (an_iff.1 h)).2.2) (by decide)
theorem rp_not_pt (p : Pt) : rpD (ptE p) = none := by
  cases h : rpD (ptE p) with
  | none => rfl
  | some r => exact absurd (head_ne (lim_iff.1 (rp_ok h).1).2.2) (by decide)
theorem mg_not {t : UInt8} {l : L} (h1 : t ≠ 106 ∧ t ≠ 108 ∧ t ≠ 107 ∧ t ≠ 110 ∧ t ≠ 126) : mgD (elem t l) = none := by
  cases h : mgD (elem t l) with
  | none => rfl
  | some m =>
    obtain ⟨u, p, e, _, h2⟩ := mg_elem (mg_iff.1 h)
    have := head_ne e
    subst this
    rcases h2 with rfl | rfl | rfl | rfl | rfl <;> simp at h1
theorem pt_pos (p : Pt) : 0 < (ptE p).length := by rw [ptE, elem]; simp
theorem an_pos (p : An) : 0 < (anE p).length := by rw [anE, elem]; simp
theorem rp_pos (p : Rp) : 0 < (rpE p).length := by rw [rpE, elem]; simp
set_option maxHeartbeats 12800000 in
set_option maxRecDepth 10000 in
theorem kinds_ (p : Pt) (an : An) (r : Rp) (w : World) (hp : p.ss.length = 32) (hr : r.ss.length = 32) (m1 : pSm p.c) (m2 : pSm an.c) (m3 : pSm r.s) (m4 : p.tr.length ≤ 1000000000) :
    Calls Tryz.prog 7 #[.agg (ptC p).toArray, .agg (anC an).toArray, .agg (rpC r).toArray] w fun e w' => e = .returned (.bool true) ∧ Below w.heap.size w w' := by
  have HPI := Lib.hid (show (Tryz.prog.info? 55).map (·.size) = some (ptC p).toArray.size by rw [pt_size hp]; kernel_rfl)
  have HAI := Lib.hid (show (Tryz.prog.info? 57).map (·.size) = some (anC an).toArray.size by rw [show (anC an).toArray.size = 4 from rfl]; kernel_rfl)
  have HRI := Lib.hid (show (Tryz.prog.info? 59).map (·.size) = some (rpC r).toArray.size by rw [rp_size hr]; kernel_rfl)
  have HB3 := Lib.hid (show Below w.heap.size w (((w.alloc (.cells (ptC p).toArray 55)).alloc (.cells (anC an).toArray 57)).alloc (.cells (rpC r).toArray 59)) from (((Below.refl w.heap.size w).alloc (Nat.le_refl _) _).alloc (by simp) _).alloc (by simp; omega) _)
  have HXb := Lib.hid (((Blk.new w 55 (ptC p).toArray).alloc (.cells (anC an).toArray 57)).alloc (.cells (rpC r).toArray 59))
  have HYb := Lib.hid (show Blk (((w.alloc (.cells (ptC p).toArray 55)).alloc (.cells (anC an).toArray 57)).alloc (.cells (rpC r).toArray 59)) (w.heap.size + 1) 57 (anC an).toArray from (blk_at _ _ _ _ (by simp)).alloc _)
  have HZb := Lib.hid (show Blk (((w.alloc (.cells (ptC p).toArray 55)).alloc (.cells (anC an).toArray 57)).alloc (.cells (rpC r).toArray 59)) (w.heap.size + 1 + 1) 59 (rpC r).toArray from blk_at _ _ _ _ (by simp))
  have TR := Lib.hid (fun (w' : World) (h : Blk w' w.heap.size 55 (ptC p).toArray) => (pt_cells hp h).2.2.1)
  have IP := Lib.hid (fun w1 => rispart_any p w1 hp m1 m4)
  have IA := Lib.hid (fun w1 => (show Calls Tryz.prog 30 #[.agg (anC an).toArray] w1 _ from risauthn_any an w1 m2))
  have IR := Lib.hid (fun w1 => risrep_any r w1 hr m3)
  have EP := Lib.hid (fun w1 => encpart_any p w1 hp m1 m4)
  have EA := Lib.hid (fun w1 => (show Calls Tryz.prog 19 #[.agg (anC an).toArray] w1 _ from encauthn_any an w1 m2))
  have ER := Lib.hid (fun w1 => encrep_any r w1 hr m3)
  have hP0 : p.ss.length = 32 := hp
  have hlp := fun h => pt_len hp (p := p) h
  have hla := fun h => an_len (a := an) h
  have hlr := fun h => rp_len hr (p := r) h
  obtain ⟨cp, ecp⟩ : ∃ c : Array Value, c = (ptC p).toArray := ⟨_, rfl⟩
  obtain ⟨ca, eca⟩ : ∃ c : Array Value, c = (anC an).toArray := ⟨_, rfl⟩
  obtain ⟨cr, ecr⟩ : ∃ c : Array Value, c = (rpC r).toArray := ⟨_, rfl⟩
  rw [← ecp] at HPI HXb HYb HZb HB3 TR IP EP ⊢
  rw [← eca] at HAI HXb HYb HZb HB3 IA EA ⊢
  rw [← ecr] at HRI HXb HYb HZb HB3 IR ER ⊢
  clear ecp eca ecr m1 m2 m3 m4 hp hr hP0
  obtain ⟨W3, eW3⟩ : ∃ W, W = ((w.alloc (.cells cp 55)).alloc (.cells ca 57)).alloc (.cells cr 59) := ⟨_, rfl⟩
  clear eW3 W3
  have HX := HXb; have HY := HYb; have HZ := HZb; have HG := HB3; clear HXb HYb HZb HB3
  have ktr := TR.out _ HX.out; clear TR
  obtain ⟨s, es⟩ : ∃ s, s = p.tr := ⟨_, rfl⟩
  rw [← es] at ktr
  by_cases h0 : 300 < s.length
  · have t0 : decide ((300 : Int) < (s.length : Int)) = true := decide_eq_true (by omega)
    clear IP IA IR EP EA ER hlp hla hlr es h0
    go_enter Tryz.func7, Tryz.ntmps7
    go_wp2
    go_ret
    exact ⟨rfl, HG.out⟩
  have t0 : decide ((300 : Int) < (s.length : Int)) = false := decide_eq_false (by omega)
  clear h0 es
  cases qp : ptB p with
  | false =>
    rw [qp] at IP
    clear qp IA IR EP EA ER hlp hla hlr
    go_enter Tryz.func7, Tryz.ntmps7
    go_upto_region 1 with fail
    generalize (((w.alloc (.cells cp 55)).alloc (.cells ca 57)).alloc (.cells cr 59)) = W at HX HY HZ HG ktr ⊢
    go_wp2_with (first
      | (refine load_g (by rfl) 55 (.tmp 3) (by rfl) (w.heap.size) 0 (by rfl) cp _ (range_blk HX.out) Tryz.underlying55 (by rfl) HPI.out ?_)
      | (go_at_call 29; refine Calls.mono (IP.out _) ?_; rintro e wx ⟨rfl, hb⟩; clear IP; replace HX := Lib.hid (HX.out.below hb); replace HY := Lib.hid (HY.out.below hb); replace HZ := Lib.hid (HZ.out.below hb); replace HG := Lib.hid (HG.out.trans (hb.mono HG.out.size)); clear hb)
      | fail)
    go_ret
    exact ⟨rfl, HG.out⟩
  | true =>
  rw [qp] at IP
  cases qa : anB an with
  | false =>
    rw [qa] at IA
    clear qp qa IR EP EA ER hlp hla hlr
    go_enter Tryz.func7, Tryz.ntmps7
    go_upto_region 1 with fail
    generalize (((w.alloc (.cells cp 55)).alloc (.cells ca 57)).alloc (.cells cr 59)) = W at HX HY HZ HG ktr ⊢
    go_wp2_with (first
      | (refine load_g (by rfl) 55 (.tmp 3) (by rfl) (w.heap.size) 0 (by rfl) cp _ (range_blk HX.out) Tryz.underlying55 (by rfl) HPI.out ?_)
      | (go_at_call 29; refine Calls.mono (IP.out _) ?_; rintro e wx ⟨rfl, hb⟩; clear IP; replace HX := Lib.hid (HX.out.below hb); replace HY := Lib.hid (HY.out.below hb); replace HZ := Lib.hid (HZ.out.below hb); replace HG := Lib.hid (HG.out.trans (hb.mono HG.out.size)); clear hb)
      | (refine load_g (by rfl) 57 (.tmp 4) (by rfl) (w.heap.size + 1) 0 (by rfl) ca _ (range_blk HY.out) Tryz.underlying57 (by rfl) HAI.out ?_)
      | (go_at_call 30; refine Calls.mono (IA.out _) ?_; rintro e wx ⟨rfl, hb⟩; clear IA; replace HX := Lib.hid (HX.out.below hb); replace HY := Lib.hid (HY.out.below hb); replace HZ := Lib.hid (HZ.out.below hb); replace HG := Lib.hid (HG.out.trans (hb.mono HG.out.size)); clear hb)
      | fail)
    go_ret
    exact ⟨rfl, HG.out⟩
  | true =>
  rw [qa] at IA
  cases qr : rpB r with
  | false =>
    rw [qr] at IR
    clear qp qa qr EP EA ER hlp hla hlr
    go_enter Tryz.func7, Tryz.ntmps7
    go_upto_region 1 with fail
    generalize (((w.alloc (.cells cp 55)).alloc (.cells ca 57)).alloc (.cells cr 59)) = W at HX HY HZ HG ktr ⊢
    go_wp2_with (first
      | (refine load_g (by rfl) 55 (.tmp 3) (by rfl) (w.heap.size) 0 (by rfl) cp _ (range_blk HX.out) Tryz.underlying55 (by rfl) HPI.out ?_)
      | (go_at_call 29; refine Calls.mono (IP.out _) ?_; rintro e wx ⟨rfl, hb⟩; clear IP; replace HX := Lib.hid (HX.out.below hb); replace HY := Lib.hid (HY.out.below hb); replace HZ := Lib.hid (HZ.out.below hb); replace HG := Lib.hid (HG.out.trans (hb.mono HG.out.size)); clear hb)
      | (refine load_g (by rfl) 57 (.tmp 4) (by rfl) (w.heap.size + 1) 0 (by rfl) ca _ (range_blk HY.out) Tryz.underlying57 (by rfl) HAI.out ?_)
      | (go_at_call 30; refine Calls.mono (IA.out _) ?_; rintro e wx ⟨rfl, hb⟩; clear IA; replace HX := Lib.hid (HX.out.below hb); replace HY := Lib.hid (HY.out.below hb); replace HZ := Lib.hid (HZ.out.below hb); replace HG := Lib.hid (HG.out.trans (hb.mono HG.out.size)); clear hb)
      | (refine load_g (by rfl) 59 (.tmp 5) (by rfl) (w.heap.size + 1 + 1) 0 (by rfl) cr _ (range_blk HZ.out) Tryz.underlying59 (by rfl) HRI.out ?_)
      | (go_at_call 31; refine Calls.mono (IR.out _) ?_; rintro e wx ⟨rfl, hb⟩; clear IR; replace HX := Lib.hid (HX.out.below hb); replace HY := Lib.hid (HY.out.below hb); replace HZ := Lib.hid (HZ.out.below hb); replace HG := Lib.hid (HG.out.trans (hb.mono HG.out.size)); clear hb)
      | fail)
    go_ret
    exact ⟨rfl, HG.out⟩
  | true =>
  rw [qr] at IR
  have hop : ptO p = some (ptE p) := lim_iff.2 ⟨qp, hlp qp, rfl⟩
  have hoa : anO an = some (anE an) := lim_iff.2 ⟨qa, hla qa, rfl⟩
  have hor : rpO r = some (rpE r) := lim_iff.2 ⟨qr, hlr qr, rfl⟩
  rw [hop] at EP; rw [hoa] at EA; rw [hor] at ER
  clear hop hoa hor hlp hla hlr qp qa qr
  have d1 : ptD (anE an) = none := pt_not_an an
  have d2 : anD (rpE r) = none := an_not_rp r
  have d3 : rpD (ptE p) = none := rp_not_pt p
  have d4 : mgD (ptE p) = none := mg_not (by decide)
  have d5 : mgD (anE an) = none := mg_not (by decide)
  have d6 : mgD (rpE r) = none := mg_not (by decide)
  have n1 := pt_pos p; have n2 := an_pos an; have n3 := rp_pos r
  obtain ⟨x, ex⟩ : ∃ l, l = ptE p := ⟨_, rfl⟩
  obtain ⟨y, ey⟩ : ∃ l, l = anE an := ⟨_, rfl⟩
  obtain ⟨z, ez⟩ : ∃ l, l = rpE r := ⟨_, rfl⟩
  rw [← ex] at EP d3 d4 n1; rw [← ey] at EA d1 d5 n2; rw [← ez] at ER d2 d6 n3
  clear ex ey ez
  have DP := Lib.hid (fun A c w1 (h : Rd w1 w1.heap.size A (bvs y)) => decpart_any A y c w1 h)
  rw [show ptG y = pt0 by rw [ptG, d1]; rfl, show ptI y = 2 by rw [ptI, d1]; rfl] at DP
  have DA := Lib.hid (fun A c w1 (h : Rd w1 w1.heap.size A (bvs z)) => decauthn_any A z c w1 h)
  rw [show anG z = an0 by rw [anG, d2]; rfl, show anI z = 2 by rw [anI, d2]; rfl] at DA
  have DR := Lib.hid (fun A c w1 (h : Rd w1 w1.heap.size A (bvs x)) => decrep_any A x c w1 h)
  rw [show rpG x = rp0 by rw [rpG, d3]; rfl, show rpI x = 2 by rw [rpI, d3]; rfl] at DR
  have DX := Lib.hid (fun A c w1 (h : Rd w1 w1.heap.size A (bvs x)) => dec_any A x c w1 h)
  rw [show mgG x = mg0 by rw [mgG, d4]; rfl, show mgI x = 2 by rw [mgI, d4]; rfl] at DX
  have DY := Lib.hid (fun A c w1 (h : Rd w1 w1.heap.size A (bvs y)) => dec_any A y c w1 h)
  rw [show mgG y = mg0 by rw [mgG, d5]; rfl, show mgI y = 2 by rw [mgI, d5]; rfl] at DY
  have DZ := Lib.hid (fun A c w1 (h : Rd w1 w1.heap.size A (bvs z)) => dec_any A z c w1 h)
  rw [show mgG z = mg0 by rw [mgG, d6]; rfl, show mgI z = 2 by rw [mgI, d6]; rfl] at DZ
  clear d1 d2 d3 d4 d5 d6
  have g1 : decide ((0 : Int) < (x.length : Int)) = true := decide_eq_true (by omega)
  have g2 : decide ((0 : Int) < (y.length : Int)) = true := decide_eq_true (by omega)
  have g3 : decide ((0 : Int) < (z.length : Int)) = true := decide_eq_true (by omega)
  have P0I := Lib.hid (show (Tryz.prog.info? 55).map (·.size) = some (ptC pt0).toArray.size by kernel_rfl)
  have P0O := Lib.hid (show (ptC pt0).toArray.all (·.oneCell') = true by kernel_rfl)
  have P0S := Lib.hid (show (ptC pt0).toArray.size = 37 by kernel_rfl)
  obtain ⟨cp0, ecp0⟩ : ∃ c : Array Value, c = (ptC pt0).toArray := ⟨_, rfl⟩
  rw [← ecp0] at P0I P0O P0S DP
  clear ecp0
  have A0I := Lib.hid (show (Tryz.prog.info? 57).map (·.size) = some (anC an0).toArray.size by kernel_rfl)
  have A0O := Lib.hid (show (anC an0).toArray.all (·.oneCell') = true by kernel_rfl)
  have A0S := Lib.hid (show (anC an0).toArray.size = 4 by kernel_rfl)
  obtain ⟨ca0, eca0⟩ : ∃ c : Array Value, c = (anC an0).toArray := ⟨_, rfl⟩
  rw [← eca0] at A0I A0O A0S DA
  clear eca0
  have R0I := Lib.hid (show (Tryz.prog.info? 59).map (·.size) = some (rpC rp0).toArray.size by kernel_rfl)
  have R0O := Lib.hid (show (rpC rp0).toArray.all (·.oneCell') = true by kernel_rfl)
  have R0S := Lib.hid (show (rpC rp0).toArray.size = 37 by kernel_rfl)
  obtain ⟨cr0, ecr0⟩ : ∃ c : Array Value, c = (rpC rp0).toArray := ⟨_, rfl⟩
  rw [← ecr0] at R0I R0O R0S DR
  clear ecr0
  go_enter Tryz.func7, Tryz.ntmps7
  go_upto_region 1 with fail
  generalize (((w.alloc (.cells cp 55)).alloc (.cells ca 57)).alloc (.cells cr 59)) = W at HX HY HZ HG ktr ⊢
  go_wp2_with (first
    | (refine load_g (by rfl) 55 (.tmp 3) (by rfl) (w.heap.size) 0 (by rfl) cp _ (range_blk HX.out) Tryz.underlying55 (by rfl) HPI.out ?_)
    | (go_at_call 29; refine Calls.mono (IP.out _) ?_; rintro e wx ⟨rfl, hb⟩; clear IP; replace HX := Lib.hid (HX.out.below hb); replace HY := Lib.hid (HY.out.below hb); replace HZ := Lib.hid (HZ.out.below hb); replace HG := Lib.hid (HG.out.trans (hb.mono HG.out.size)); clear hb)
    | (refine load_g (by rfl) 57 (.tmp 4) (by rfl) (w.heap.size + 1) 0 (by rfl) ca _ (range_blk HY.out) Tryz.underlying57 (by rfl) HAI.out ?_)
    | (go_at_call 30; refine Calls.mono (IA.out _) ?_; rintro e wx ⟨rfl, hb⟩; clear IA; replace HX := Lib.hid (HX.out.below hb); replace HY := Lib.hid (HY.out.below hb); replace HZ := Lib.hid (HZ.out.below hb); replace HG := Lib.hid (HG.out.trans (hb.mono HG.out.size)); clear hb)
    | (refine load_g (by rfl) 59 (.tmp 5) (by rfl) (w.heap.size + 1 + 1) 0 (by rfl) cr _ (range_blk HZ.out) Tryz.underlying59 (by rfl) HRI.out ?_)
    | (go_at_call 31; refine Calls.mono (IR.out _) ?_; rintro e wx ⟨rfl, hb⟩; clear IR; replace HX := Lib.hid (HX.out.below hb); replace HY := Lib.hid (HY.out.below hb); replace HZ := Lib.hid (HZ.out.below hb); replace HG := Lib.hid (HG.out.trans (hb.mono HG.out.size)); clear hb)
    | (refine load_g (by rfl) 55 (.tmp 3) (by rfl) (w.heap.size) 0 (by rfl) cp _ (range_blk HX.out) Tryz.underlying55 (by rfl) HPI.out ?_)
    | (go_at_call 17; refine Calls.mono (EP.out _) ?_; rintro e wx ⟨⟨v, i, rfl, hn, hsm⟩, hb⟩; obtain ⟨rfl, gx, cx, rfl, hgx, hcx, hrx⟩ := hsm x rfl; clear EP hn hsm hgx hcx; replace HX := Lib.hid (HX.out.below hb); replace HY := Lib.hid (HY.out.below hb); replace HZ := Lib.hid (HZ.out.below hb); replace HG := Lib.hid (HG.out.trans (hb.mono HG.out.size)); clear hb; have Rx := Lib.hid hrx; clear hrx)
    | (refine load_g (by rfl) 57 (.tmp 4) (by rfl) (w.heap.size + 1) 0 (by rfl) ca _ (range_blk HY.out) Tryz.underlying57 (by rfl) HAI.out ?_)
    | (go_at_call 19; refine Calls.mono (EA.out _) ?_; rintro e wx ⟨⟨v, i, rfl, hn, hsm⟩, hb⟩; obtain ⟨rfl, gy, cy, rfl, hgy, hcy, hry⟩ := hsm y rfl; clear EA hn hsm hgy hcy; replace HX := Lib.hid (HX.out.below hb); replace HY := Lib.hid (HY.out.below hb); replace HZ := Lib.hid (HZ.out.below hb); replace Rx := Lib.hid (rd_on Rx.out hb); replace HG := Lib.hid (HG.out.trans (hb.mono HG.out.size)); clear hb; have Ry := Lib.hid hry; clear hry)
    | (refine load_g (by rfl) 59 (.tmp 5) (by rfl) (w.heap.size + 1 + 1) 0 (by rfl) cr _ (range_blk HZ.out) Tryz.underlying59 (by rfl) HRI.out ?_)
    | (go_at_call 21; refine Calls.mono (ER.out _) ?_; rintro e wx ⟨⟨v, i, rfl, hn, hsm⟩, hb⟩; obtain ⟨rfl, gz, cz, rfl, hgz, hcz, hrz⟩ := hsm z rfl; clear ER hn hsm hgz hcz; replace HX := Lib.hid (HX.out.below hb); replace HY := Lib.hid (HY.out.below hb); replace HZ := Lib.hid (HZ.out.below hb); replace Rx := Lib.hid (rd_on Rx.out hb); replace Ry := Lib.hid (rd_on Ry.out hb); replace HG := Lib.hid (HG.out.trans (hb.mono HG.out.size)); clear hb; have Rz := Lib.hid hrz; clear hrz)
    | (go_at_call 23; refine Calls.mono (DP.out _ _ _ Ry.out) ?_; rintro e wx ⟨rfl, hb⟩; clear DP; replace HX := Lib.hid (HX.out.below hb); replace HY := Lib.hid (HY.out.below hb); replace HZ := Lib.hid (HZ.out.below hb); replace Rx := Lib.hid (rd_on Rx.out hb); replace Ry := Lib.hid (rd_on Ry.out hb); replace Rz := Lib.hid (rd_on Rz.out hb); replace HG := Lib.hid (HG.out.trans (hb.mono HG.out.size)); clear hb)
    | (refine store_new (by rfl) 55 (.tmp 13) (.tmp 62) (by rfl) 55 rfl cp0 (by rfl) (by rfl) (by rw [P0S.out]; rfl) P0I.out P0O.out ?_; rintro V1 hV hb; clear hV; replace HX := Lib.hid (HX.out.below hb); replace HY := Lib.hid (HY.out.below hb); replace HZ := Lib.hid (HZ.out.below hb); replace Rx := Lib.hid (rd_on Rx.out hb); replace Ry := Lib.hid (rd_on Ry.out hb); replace Rz := Lib.hid (rd_on Rz.out hb); replace HG := Lib.hid (HG.out.trans (hb.mono HG.out.size)); clear hb)
    | (go_at_call 25; refine Calls.mono (DA.out _ _ _ Rz.out) ?_; rintro e wx ⟨rfl, hb⟩; clear DA; replace HX := Lib.hid (HX.out.below hb); replace HY := Lib.hid (HY.out.below hb); replace HZ := Lib.hid (HZ.out.below hb); replace Rx := Lib.hid (rd_on Rx.out hb); replace Ry := Lib.hid (rd_on Ry.out hb); replace Rz := Lib.hid (rd_on Rz.out hb); replace HG := Lib.hid (HG.out.trans (hb.mono HG.out.size)); clear hb)
    | (refine store_new (by rfl) 57 (.tmp 15) (.tmp 67) (by rfl) 57 rfl ca0 (by rfl) (by rfl) (by rw [A0S.out]; rfl) A0I.out A0O.out ?_; rintro V2 hV hb; clear hV; replace HX := Lib.hid (HX.out.below hb); replace HY := Lib.hid (HY.out.below hb); replace HZ := Lib.hid (HZ.out.below hb); replace Rx := Lib.hid (rd_on Rx.out hb); replace Ry := Lib.hid (rd_on Ry.out hb); replace Rz := Lib.hid (rd_on Rz.out hb); replace HG := Lib.hid (HG.out.trans (hb.mono HG.out.size)); clear hb)
    | (go_at_call 27; refine Calls.mono (DR.out _ _ _ Rx.out) ?_; rintro e wx ⟨rfl, hb⟩; clear DR; replace HX := Lib.hid (HX.out.below hb); replace HY := Lib.hid (HY.out.below hb); replace HZ := Lib.hid (HZ.out.below hb); replace Rx := Lib.hid (rd_on Rx.out hb); replace Ry := Lib.hid (rd_on Ry.out hb); replace Rz := Lib.hid (rd_on Rz.out hb); replace HG := Lib.hid (HG.out.trans (hb.mono HG.out.size)); clear hb)
    | (refine store_new (by rfl) 59 (.tmp 17) (.tmp 72) (by rfl) 59 rfl cr0 (by rfl) (by rfl) (by rw [R0S.out]; rfl) R0I.out R0O.out ?_; rintro V3 hV hb; clear hV; replace HX := Lib.hid (HX.out.below hb); replace HY := Lib.hid (HY.out.below hb); replace HZ := Lib.hid (HZ.out.below hb); replace Rx := Lib.hid (rd_on Rx.out hb); replace Ry := Lib.hid (rd_on Ry.out hb); replace Rz := Lib.hid (rd_on Rz.out hb); replace HG := Lib.hid (HG.out.trans (hb.mono HG.out.size)); clear hb)
    | (go_at_call 11; refine Calls.mono (DX.out _ _ _ Rx.out) ?_; rintro e wx ⟨dm, rfl, ho, hb⟩; clear DX; have MxS := Lib.hid ho.size; have MxO := Lib.hid ho.one; have MxI := Lib.hid (mg_info.trans (congrArg some MxS.out.symm)); clear ho; replace HX := Lib.hid (HX.out.below hb); replace HY := Lib.hid (HY.out.below hb); replace HZ := Lib.hid (HZ.out.below hb); replace Rx := Lib.hid (rd_on Rx.out hb); replace Ry := Lib.hid (rd_on Ry.out hb); replace Rz := Lib.hid (rd_on Rz.out hb); replace HG := Lib.hid (HG.out.trans (hb.mono HG.out.size)); clear hb)
    | (refine store_new (by rfl) 39 (.tmp 19) (.tmp 77) (by rfl) 39 rfl dm (by rfl) (by rfl) (by rw [MxS.out]; rfl) MxI.out MxO.out ?_; rintro V4 hV hb; clear hV; replace HX := Lib.hid (HX.out.below hb); replace HY := Lib.hid (HY.out.below hb); replace HZ := Lib.hid (HZ.out.below hb); replace Rx := Lib.hid (rd_on Rx.out hb); replace Ry := Lib.hid (rd_on Ry.out hb); replace Rz := Lib.hid (rd_on Rz.out hb); replace HG := Lib.hid (HG.out.trans (hb.mono HG.out.size)); clear hb)
    | (go_at_call 11; refine Calls.mono (DY.out _ _ _ Ry.out) ?_; rintro e wx ⟨dm, rfl, ho, hb⟩; clear DY; have MyS := Lib.hid ho.size; have MyO := Lib.hid ho.one; have MyI := Lib.hid (mg_info.trans (congrArg some MyS.out.symm)); clear ho; replace HX := Lib.hid (HX.out.below hb); replace HY := Lib.hid (HY.out.below hb); replace HZ := Lib.hid (HZ.out.below hb); replace Rx := Lib.hid (rd_on Rx.out hb); replace Ry := Lib.hid (rd_on Ry.out hb); replace Rz := Lib.hid (rd_on Rz.out hb); replace HG := Lib.hid (HG.out.trans (hb.mono HG.out.size)); clear hb)
    | (refine store_new (by rfl) 39 (.tmp 21) (.tmp 82) (by rfl) 39 rfl dm (by rfl) (by rfl) (by rw [MyS.out]; rfl) MyI.out MyO.out ?_; rintro V5 hV hb; clear hV; replace HX := Lib.hid (HX.out.below hb); replace HY := Lib.hid (HY.out.below hb); replace HZ := Lib.hid (HZ.out.below hb); replace Rx := Lib.hid (rd_on Rx.out hb); replace Ry := Lib.hid (rd_on Ry.out hb); replace Rz := Lib.hid (rd_on Rz.out hb); replace HG := Lib.hid (HG.out.trans (hb.mono HG.out.size)); clear hb)
    | (go_at_call 11; refine Calls.mono (DZ.out _ _ _ Rz.out) ?_; rintro e wx ⟨dm, rfl, ho, hb⟩; clear DZ; have MzS := Lib.hid ho.size; have MzO := Lib.hid ho.one; have MzI := Lib.hid (mg_info.trans (congrArg some MzS.out.symm)); clear ho; replace HX := Lib.hid (HX.out.below hb); replace HY := Lib.hid (HY.out.below hb); replace HZ := Lib.hid (HZ.out.below hb); replace Rx := Lib.hid (rd_on Rx.out hb); replace Ry := Lib.hid (rd_on Ry.out hb); replace Rz := Lib.hid (rd_on Rz.out hb); replace HG := Lib.hid (HG.out.trans (hb.mono HG.out.size)); clear hb)
    | (refine store_new (by rfl) 39 (.tmp 23) (.tmp 87) (by rfl) 39 rfl dm (by rfl) (by rfl) (by rw [MzS.out]; rfl) MzI.out MzO.out ?_; rintro V6 hV hb; clear hV; replace HX := Lib.hid (HX.out.below hb); replace HY := Lib.hid (HY.out.below hb); replace HZ := Lib.hid (HZ.out.below hb); replace Rx := Lib.hid (rd_on Rx.out hb); replace Ry := Lib.hid (rd_on Ry.out hb); replace Rz := Lib.hid (rd_on Rz.out hb); replace HG := Lib.hid (HG.out.trans (hb.mono HG.out.size)); clear hb)
    | (go_at_call 15; refine Calls.mono (known_any _) ?_; rintro e wx ⟨rfl, hb⟩; replace HG := Lib.hid (HG.out.trans (hb.mono HG.out.size)); clear hb)
    | fail)
  go_ret
  exact ⟨rfl, HG.out⟩
end Go.Proofs.YteeabfplnaknfaaGreat.Mc
end

section
namespace Go.Proofs.YteeabfplnaknfaaGreat.msgKinds
open Go.ChangeShapes Go.WideShapes Go.ChangeAt Go.RowKit Go.Proofs.YteeabfplnaknfaaGreat
open Go.ChangeMaps (open_string shut_string)

theorem own : ownKnob Tryz.prog.godebug = none := by kernel_rfl
theorem laidOut : laidOutB Tryz.prog = true := by kernel_rfl

set_option maxRecDepth 100000 in
theorem contract (H : Type) (enc : TypeId × Value → H) (W : World) (base : Nat) (args : Array Value) (ds gs : List (DataW H)) (before : List MemPlace)
    (hval0 : ∀ (j : Nat) t v, Tryz.f7.params[j]? = some t → args[j]? = some v → Value.okWide Tryz.prog W .any base t v)
    (hW : DataW.Whole enc Tryz.prog Tryz.f7.params.toList Rows.msgKindsSpec.vars false W args.toList ds gs before) (hk : Rows.uptoSmall H (ds ++ gs) = true) :
    Calls Tryz.prog 7 args W fun e W' => ∃ v, e = .returned v ∧ Rows.msgKindsSpec.post enc Tryz.prog Tryz.f7 false true false false W args v W' := by
  have hval : ∀ (j : Nat) t v, Tryz.f7.params[j]? = some t → args[j]? = some v → Value.okWide Tryz.prog W .any base t v := hval0
  have hW' := hW
  obtain ⟨p, q, hA0, hV, rfl, hfz, hnd⟩ := hW
  have hA : DataW.TrodAll enc Tryz.prog W 0 (fun _ => true) true Tryz.f7.params.toList args.toList ds p := hA0
  rw [Tryz.params7] at hA hval
  obtain ⟨v0, vs0, d0, ds0, p0, q0, hargs, rfl, rfl, h0, r0⟩ := trodAll_cons hA
  obtain ⟨v1, vs1, d1, ds1, p1, q1, rfl, rfl, rfl, h1, r1⟩ := trodAll_cons r0
  obtain ⟨v2, vs2, d2, ds2, p2, q2, rfl, rfl, rfl, h2, r2⟩ := trodAll_cons r1
  obtain ⟨rfl, rfl, rfl⟩ := trodAll_nil r2
  obtain rfl : args = #[v0, v1, v2] := by cases args; simp_all
  obtain ⟨rfl, rfl⟩ := trodVars_none hV
  have k0 := h0
  have lt0 : ∀ x ∈ p0, x.block < W.heap.size := by obtain ⟨m, hm⟩ := k0; exact DataW.trod_lt m _ _ _ hm
  obtain ⟨cs0, n0, rfl, f0⟩ := Open.open_st Tryz.underlying55 (hval 0 55 v0 rfl rfl) h0
  obtain ⟨x0, hk0, e0, lp0, lt0', ua0, ub0, uc0⟩ := Open.in_pt f0
  obtain rfl : cs0 = (Ms.ptC x0).toArray := by rw [← e0]
  have k1 := h1
  have lt1 : ∀ x ∈ p1, x.block < W.heap.size := by obtain ⟨m, hm⟩ := k1; exact DataW.trod_lt m _ _ _ hm
  obtain ⟨cs1, n1, rfl, f1⟩ := Open.open_st Tryz.underlying57 (hval 1 57 v1 rfl rfl) h1
  obtain ⟨x1, e1, lp1, ua1, ub1⟩ := Open.in_an f1
  obtain rfl : cs1 = (Ms.anC x1).toArray := by rw [← e1]
  have k2 := h2
  have lt2 : ∀ x ∈ p2, x.block < W.heap.size := by obtain ⟨m, hm⟩ := k2; exact DataW.trod_lt m _ _ _ hm
  obtain ⟨cs2, n2, rfl, f2⟩ := Open.open_st Tryz.underlying59 (hval 2 59 v2 rfl rfl) h2
  obtain ⟨x2, hk2, e2, lp2, ua2, ub2⟩ := Open.in_rp f2
  obtain rfl : cs2 = (Ms.rpC x2).toArray := by rw [← e2]
  simp only [List.append_nil] at hW' hk
  replace ua0 := Open.upto_of hk (by simp) ua0
  replace ub0 := Open.upto_of hk (by simp) ub0
  replace uc0 := Open.upto_of hk (by simp) uc0
  replace ua1 := Open.upto_of hk (by simp) ua1
  replace ub1 := Open.upto_of hk (by simp) ub1
  replace ua2 := Open.upto_of hk (by simp) ua2
  replace ub2 := Open.upto_of hk (by simp) ub2
  clear hA0 hval0
  refine (Mc.kinds_ x0 x1 x2 W hk0 hk2 ⟨by omega, by omega⟩ ⟨by omega, by omega⟩ ⟨by omega, by omega⟩ (by omega)).mono fun e W' ⟨he, bel⟩ => ?_
  subst he
  exact ⟨_, rfl, _, _, _, [], _, [], hW', trodAll_mk1 (shut_bool Tryz.underlying4 _), (trodAll_cons_mk (Below.trod laidOut (by kernel_rfl) (of_decide_eq_true (by kernel_rfl)) k0 bel lt0) (trodAll_cons_mk (Below.trod laidOut (by kernel_rfl) (of_decide_eq_true (by kernel_rfl)) k1 bel lt1) (trodAll_cons_mk (Below.trod laidOut (by kernel_rfl) (of_decide_eq_true (by kernel_rfl)) k2 bel lt2) trodAll_mk0))), rfl, bel.frame _, fun h => by cases h⟩

set_option maxRecDepth 100000 in
theorem lifted (os : Os) (started : os.Started) (H : Type) (enc : TypeId × Value → H) (F : Stop.Interp) :
    ReturnsInHanded {} Tryz.checked os 7 .any ((Rows.OpenSpec.upto Rows.msgKindsSpec).pre6 enc Tryz.prog Tryz.f7 Rows.msgKindsUptoRow.domain false) (((Rows.OpenSpec.upto Rows.msgKindsSpec).at F).post enc Tryz.prog Tryz.f7 false true false false) := by
  refine returnsInHanded_of_cond_sized (C := Tryz.checked) (s := Rows.OpenSpec.upto Rows.msgKindsSpec) (k := Rows.uptoSmall) rfl own started (by kernel_rfl) Tryz.func7
    (OpenSpec.witness (enc := enc) (C := Tryz.checked) (s := Rows.OpenSpec.upto Rows.msgKindsSpec) (k := Rows.uptoSmall) rfl false ⟨#[], #[.agg #[.string ⟨#[]⟩, .string ⟨#[]⟩, .int .u8 0, .int .u8 0, .int .u8 0, .int .u8 0, .int .u8 0, .int .u8 0, .int .u8 0, .int .u8 0, .int .u8 0, .int .u8 0, .int .u8 0, .int .u8 0, .int .u8 0, .int .u8 0, .int .u8 0, .int .u8 0, .int .u8 0, .int .u8 0, .int .u8 0, .int .u8 0, .int .u8 0, .int .u8 0, .int .u8 0, .int .u8 0, .int .u8 0, .int .u8 0, .int .u8 0, .int .u8 0, .int .u8 0, .int .u8 0, .int .u8 0, .int .u8 0, .string ⟨#[]⟩, .int .i64 0, .int .i64 0], .agg #[.string ⟨#[]⟩, .string ⟨#[]⟩, .int .i64 0, .int .i64 0], .agg #[.int .u8 0, .int .u8 0, .int .u8 0, .int .u8 0, .int .u8 0, .int .u8 0, .int .u8 0, .int .u8 0, .int .u8 0, .int .u8 0, .int .u8 0, .int .u8 0, .int .u8 0, .int .u8 0, .int .u8 0, .int .u8 0, .int .u8 0, .int .u8 0, .int .u8 0, .int .u8 0, .int .u8 0, .int .u8 0, .int .u8 0, .int .u8 0, .int .u8 0, .int .u8 0, .int .u8 0, .int .u8 0, .int .u8 0, .int .u8 0, .int .u8 0, .int .u8 0, .string ⟨#[]⟩, .string ⟨#[]⟩, .int .i64 0, .int .i64 0, .int .i64 0]], []⟩ 8 (by kernel_rfl) (by kernel_rfl) (by kernel_rfl)
      (x := ([.agg [.agg [.lit (.string []), .lit (.string [])], .agg [.lit (.int .u8 0), .lit (.int .u8 0), .lit (.int .u8 0), .lit (.int .u8 0), .lit (.int .u8 0), .lit (.int .u8 0), .lit (.int .u8 0), .lit (.int .u8 0), .lit (.int .u8 0), .lit (.int .u8 0), .lit (.int .u8 0), .lit (.int .u8 0), .lit (.int .u8 0), .lit (.int .u8 0), .lit (.int .u8 0), .lit (.int .u8 0), .lit (.int .u8 0), .lit (.int .u8 0), .lit (.int .u8 0), .lit (.int .u8 0), .lit (.int .u8 0), .lit (.int .u8 0), .lit (.int .u8 0), .lit (.int .u8 0), .lit (.int .u8 0), .lit (.int .u8 0), .lit (.int .u8 0), .lit (.int .u8 0), .lit (.int .u8 0), .lit (.int .u8 0), .lit (.int .u8 0), .lit (.int .u8 0)], .lit (.string []), .lit (.int .i64 0), .lit (.int .i64 0)], .agg [.agg [.lit (.string []), .lit (.string [])], .lit (.int .i64 0), .lit (.int .i64 0)], .agg [.agg [.lit (.int .u8 0), .lit (.int .u8 0), .lit (.int .u8 0), .lit (.int .u8 0), .lit (.int .u8 0), .lit (.int .u8 0), .lit (.int .u8 0), .lit (.int .u8 0), .lit (.int .u8 0), .lit (.int .u8 0), .lit (.int .u8 0), .lit (.int .u8 0), .lit (.int .u8 0), .lit (.int .u8 0), .lit (.int .u8 0), .lit (.int .u8 0), .lit (.int .u8 0), .lit (.int .u8 0), .lit (.int .u8 0), .lit (.int .u8 0), .lit (.int .u8 0), .lit (.int .u8 0), .lit (.int .u8 0), .lit (.int .u8 0), .lit (.int .u8 0), .lit (.int .u8 0), .lit (.int .u8 0), .lit (.int .u8 0), .lit (.int .u8 0), .lit (.int .u8 0), .lit (.int .u8 0), .lit (.int .u8 0)], .agg [.lit (.string []), .lit (.string [])], .lit (.int .i64 0), .lit (.int .i64 0), .lit (.int .i64 0)]], [], [])) (by kernel_rfl) rfl (by kernel_rfl)) ?_
  intro W base args ds gs before hval hW _ hk hsz _
  exact contract H enc W base args ds gs before hval hW hk

theorem proved : Rows.MsgKindsUptoSaid :=
  OpenClaim.holds_of_cond 7 Tryz.f7 rfl rfl rfl rfl rfl rfl rfl ⟨rfl, rfl, rfl, rfl, rfl⟩ rfl rfl rfl rfl rfl (by kernel_rfl) Tryz.func7 (by kernel_rfl)
    (of_decide_eq_true (by kernel_rfl)) (by unfold Func.isWrapper; first | (rw [if_pos (by decide +kernel)]; kernel_rfl) | (rw [if_neg (by decide +kernel)]; exact ⟨rfl, rfl⟩))
    (fun os started H enc _ F => lifted os started H enc F)
end Go.Proofs.YteeabfplnaknfaaGreat.msgKinds
end
