/-
  The statement of MsgOthers: the walk's contract carried to the row: for every input the call answers true, and each argument reads as it did.
-/
import Derived.SizedLaws
import Derived.Test.YteeabfplnaknfaaRows
import Derived.Lib.SmallJoins
import Derived.Deep.Strs
import Derived.ChangeSame
import Derived.Lib.MinMax
import Derived.Deep.LoopGhost
import Derived.Deep.MidRow
import Derived.WalkKit
import Derived.ProofKit
import Derived.OpenShut
import Derived.ShutString
import Derived.ChangeOld
import Derived.Below
import Derived.Test.YteeabfplnaknfaaZMsgOthers1
import Derived.Test.YteeabfplnaknfaaZMsgOthers2
import Derived.Test.YteeabfplnaknfaaZMsgOthers3
import Derived.Test.YteeabfplnaknfaaZMsgOthers4
import Derived.Test.YteeabfplnaknfaaZMsgOthers5
import Derived.Test.YteeabfplnaknfaaZMsgOthers6
import Derived.Test.YteeabfplnaknfaaZMsgOthers7
import Derived.Test.YteeabfplnaknfaaZMsgOthers8
import Derived.Test.YteeabfplnaknfaaZMsgOthers9
import Derived.Test.YteeabfplnaknfaaZMsgOthers10
import Derived.Test.YteeabfplnaknfaaZMsgOthers11
import Derived.Test.YteeabfplnaknfaaZMsgOthers12
import Derived.Test.YteeabfplnaknfaaZMsgOthers14
section
set_option linter.unusedVariables false
namespace Go.Proofs.Yteeabfplnaknfaa.OpenW
open Go.Joins Go.ChangeShapes Go.WideShapes Go.ChangeAt Go.RowKit Go.Deep Go.Proofs.Yteeabfplnaknfaa Go.Proofs.Yteeabfplnaknfaa.Open Go.Proofs.Yteeabfplnaknfaa.Mem Go.Proofs.Yteeabfplnaknfaa.Ms Go.Proofs.Yteeabfplnaknfaa.Mc

theorem cut {α : Type} (cs : List α) (o c : Nat) : cs.drop o = (cs.drop o).take c ++ cs.drop (o + c) := by
  rw [← List.drop_drop]; exact (List.take_append_drop c _).symm
section
variable {H : Type} {enc : TypeId × Value → H} {W : World}
theorem bytes_trod_w {t e : TypeId} {held : Bool} {fuel : Nat} {v : Value} {x : DataW H × List MemPlace} {P : Program} (ht : P.underlying t = some (.slice e)) (he : P.underlying e = some (.int .u8)) (hc : P.cellsOf e = 1) (hb1 : P.bytesOf e = 1)
    (h : DataW.trod enc P W 0 (fun _ => true) held fuel t [v] = some x) (hw : ∀ n ∈ DataW.weights P t x.1, n ≤ reachBytes) : ∃ A l c, v = .slice A (List.length l) c ∧ Rd W W.heap.size A (bvs l) ∧ l.length ≤ c ∧ l.length ≤ reachBytes := by
  rcases open_ints ht he hc h with ⟨hcs, _⟩ | ⟨a0, l, c, zs, hcs, _, hl, hm, hz, hdat, hcell, hwz⟩
  · injection hcs with hcs
    exact ⟨none, [], 0, hcs, .inl rfl, Nat.le_refl _, Nat.zero_le _⟩
  · injection hcs with hcs
    simp only [if_true] at hz
    obtain ⟨bs, hbl, hb⟩ := bytes_of_ints (k := l) (zs := zs) (by omega) hwz
    refine ⟨some a0, bs, c, by rw [hbl]; exact hcs, rd_of_cells fun i u hu => ?_, by omega, ?_⟩
    · obtain ⟨h1, h2⟩ := hb i u hu
      rw [hcell i h1, h2]
    · have h1 := hw ((lits (H := H) .u8 (zs.take l)).length + (lits (H := H) .u8 (zs.drop l)).length) (by rw [hdat]; simp [DataW.weights, ht, hb1])
      have h2 : (lits (H := H) .u8 (zs.take l)).length + (lits (H := H) .u8 (zs.drop l)).length = zs.length := by simp [lits]; omega
      omega
theorem c_str : Try.prog.cellsOf 9 = 1 := by kernel_rfl
theorem c_int : Try.prog.cellsOf 3 = 1 := by kernel_rfl
theorem c_byt : Try.prog.cellsOf 26 = 1 := by kernel_rfl
theorem c_u8 : Try.prog.cellsOf 5 = 1 := by kernel_rfl
theorem c_pr : Try.prog.cellsOf 23 = 2 := by kernel_rfl
def Lp (p : Pr) : Prop := p.1.length ≤ reachBytes ∧ p.2.length ≤ reachBytes
theorem in_str {n : Nat} {cs : List Value} {x : DataW H × List MemPlace} (h : DataW.trod enc Try.prog W 0 (fun _ => true) true n 9 cs = some x) (hw : ∀ n ∈ DataW.weights Try.prog 9 x.1, n ≤ reachBytes) : ∃ l : List UInt8, cs = [.string ⟨l.toArray⟩] ∧ l.length ≤ reachBytes ∧ l.length ≤ Rows.uptoBulk x.1 := by
  obtain ⟨s, hs, hx, hz⟩ := DataW.trod_string Try.underlying9 h
  refine ⟨s.data.toList, by rw [hs, ← Mem.bytes_eta s], hw _ (by rw [hx]; simp [DataW.weights]), ?_⟩
  rw [hx]; show _ ≤ Rows.uptoBulk (.lit (.string s.data.toList)); rw [Rows.uptoBulk]; omega
theorem in_int {n : Nat} {cs : List Value} {x : DataW H × List MemPlace} (h : DataW.trod enc Try.prog W 0 (fun _ => true) true n 3 cs = some x) : ∃ i : Int, cs = [.int .i64 i] ∧ (Lit.int .i64 i).wf = true := by
  obtain ⟨i, h1, _, h2⟩ := DataW.trod_int Try.underlying3 h
  exact ⟨i, h1, h2⟩
theorem in_byt {n : Nat} {cs : List Value} {x : DataW H × List MemPlace} (hl : cs.length = 1) (h : DataW.trod enc Try.prog W 0 (fun _ => true) true n 26 cs = some x) (hw : ∀ n ∈ DataW.weights Try.prog 26 x.1, n ≤ reachBytes) : ∃ u l, cs = [u] ∧ SlB W W.heap.size u l ∧ l.length ≤ reachBytes := by
  match cs, hl with
  | [u], _ =>
    obtain ⟨A, l, c, rfl, h1, h2, h3⟩ := bytes_trod_w Try.underlying26 Try.underlying5 c_u8 (by kernel_rfl) h hw
    exact ⟨_, l, rfl, ⟨A, c, rfl, h2, h1⟩, h3⟩
theorem in_pr {n : Nat} {cs : List Value} {x : DataW H × List MemPlace} (h : DataW.trod enc Try.prog W 0 (fun _ => true) true n 23 cs = some x) (hw : ∀ n ∈ DataW.weights Try.prog 23 x.1, n ≤ reachBytes) : ∃ p : Pr, cs = prC p ∧ Lp p ∧ p.1.length ≤ Rows.uptoBulk x.1 ∧ p.2.length ≤ Rows.uptoBulk x.1 := by
  obtain ⟨y0, y1, m, hx, hl, h0, h1⟩ := trod_struct2 Try.underlying23 h
  simp only [c_str] at h0 h1
  have fw := fun (j : Nat) (t : TypeId) (d : DataW H) (ht : [9, 9][j]? = some t) (hd : [y0.1, y1.1][j]? = some d) (n : Nat) (hn : n ∈ d.weights Try.prog t) => hw n (by rw [hx]; simp only [DataW.weights, Try.underlying23]; exact DataW.weights_mem_each ht hd n hn)
  obtain ⟨l0, e0, b0, u0⟩ := in_str h0 (fw 0 _ _ rfl rfl)
  obtain ⟨l1, e1, b1, u1⟩ := in_str h1 (fw 1 _ _ rfl rfl)
  rw [c_pr] at hl
  refine ⟨(l0, l1), ?_, ⟨b0, b1⟩, ?_⟩
  · have k0 := cut cs 0 1
    have k1 := cut cs 1 1
    rw [e0] at k0
    rw [show 0 + 1 = 1 from rfl, k1, e1, List.drop_of_length_le (show cs.length ≤ 1 + 1 by omega)] at k0
    exact k0
  · rw [hx]
    show _ ≤ Rows.uptoBulk (.agg [y0.1, y1.1]) ∧ _ ≤ Rows.uptoBulk (.agg [y0.1, y1.1])
    rw [Rows.uptoBulk, Rows.uptoBulkAll, Rows.uptoBulkAll, Rows.uptoBulkAll]
    constructor <;> (simp only; omega)
theorem c_tk : Try.prog.cellsOf 28 = 4 := by kernel_rfl
theorem in_tk {n : Nat} {cs : List Value} {x : DataW H × List MemPlace} (h : DataW.trod enc Try.prog W 0 (fun _ => true) true n 28 cs = some x) (hw : ∀ n ∈ DataW.weights Try.prog 28 x.1, n ≤ reachBytes) : ∃ (t : Tk) (b : Value), cs = tkC t b ∧ SlB W W.heap.size b t.b ∧ (Lp t.s ∧ t.b.length ≤ reachBytes) := by
  obtain ⟨xs, m, _, hx, hl, hxl, hf⟩ := DataW.trod_struct Try.underlying28 h
  rw [c_tk] at hl
  match xs, hxl with
  | [y0_, y1_, y2_], _ =>
    have fw := fun (j : Nat) (t : TypeId) (d : DataW H) (ht : _[j]? = some t) (hd : [y0_.1, y1_.1, y2_.1][j]? = some d) (n : Nat) (hn : n ∈ d.weights Try.prog t) => hw n (by rw [hx]; simp only [DataW.weights, Try.underlying28]; exact DataW.weights_mem_each ht hd n hn)
    have h0 : DataW.trod enc Try.prog W 0 (fun _ => true) true m 23 ((cs.drop 0).take (Try.prog.cellsOf 23)) = some y0_ := hf 0 _ rfl
    rw [c_pr] at h0
    obtain ⟨l0, e0, b0, u0, w0⟩ := in_pr h0 (fw 0 _ _ rfl rfl)
    have h1 : DataW.trod enc Try.prog W 0 (fun _ => true) true m 3 ((cs.drop 2).take (Try.prog.cellsOf 3)) = some y1_ := hf 1 _ rfl
    rw [c_int] at h1
    obtain ⟨l1, e1, b1⟩ := in_int h1
    have h2 : DataW.trod enc Try.prog W 0 (fun _ => true) true m 26 ((cs.drop 3).take (Try.prog.cellsOf 26)) = some y2_ := hf 2 _ rfl
    rw [c_byt] at h2
    obtain ⟨z2, l2, e2, s2, b2⟩ := in_byt (by rw [List.length_take, List.length_drop]; omega) h2 (fw 2 _ _ rfl rfl)
    have k0 := cut cs 0 2
    rw [e0] at k0
    have k1 := cut cs 2 1
    rw [e1] at k1
    have k2 := cut cs 3 1
    rw [e2] at k2
    have k : cs = cs.drop 0 := rfl
    rw [k0, show 0 + 2 = 2 from rfl] at k
    rw [k1, show 2 + 1 = 3 from rfl] at k
    rw [k2, show 3 + 1 = 4 from rfl] at k
    rw [show cs.drop 4 = [] from List.drop_of_length_le (by omega)] at k
    clear hf h h0 k0 e0 h1 k1 e1 h2 k2 e2
    exact ⟨⟨l0, l1, l2⟩, z2, k, s2, b0, b2⟩
theorem c_as : Try.prog.cellsOf 25 = 6 := by kernel_rfl
theorem in_as {n : Nat} {cs : List Value} {x : DataW H × List MemPlace} (h : DataW.trod enc Try.prog W 0 (fun _ => true) true n 25 cs = some x) (hw : ∀ n ∈ DataW.weights Try.prog 25 x.1, n ≤ reachBytes) : ∃ (q : As), cs = asC q ∧ (Lp q.c ∧ Lp q.s) := by
  obtain ⟨xs, m, _, hx, hl, hxl, hf⟩ := DataW.trod_struct Try.underlying25 h
  rw [c_as] at hl
  match xs, hxl with
  | [y0_, y1_, y2_, y3_], _ =>
    have fw := fun (j : Nat) (t : TypeId) (d : DataW H) (ht : _[j]? = some t) (hd : [y0_.1, y1_.1, y2_.1, y3_.1][j]? = some d) (n : Nat) (hn : n ∈ d.weights Try.prog t) => hw n (by rw [hx]; simp only [DataW.weights, Try.underlying25]; exact DataW.weights_mem_each ht hd n hn)
    have h0 : DataW.trod enc Try.prog W 0 (fun _ => true) true m 23 ((cs.drop 0).take (Try.prog.cellsOf 23)) = some y0_ := hf 0 _ rfl
    rw [c_pr] at h0
    obtain ⟨l0, e0, b0, u0, w0⟩ := in_pr h0 (fw 0 _ _ rfl rfl)
    have h1 : DataW.trod enc Try.prog W 0 (fun _ => true) true m 23 ((cs.drop 2).take (Try.prog.cellsOf 23)) = some y1_ := hf 1 _ rfl
    rw [c_pr] at h1
    obtain ⟨l1, e1, b1, u1, w1⟩ := in_pr h1 (fw 1 _ _ rfl rfl)
    have h2 : DataW.trod enc Try.prog W 0 (fun _ => true) true m 3 ((cs.drop 4).take (Try.prog.cellsOf 3)) = some y2_ := hf 2 _ rfl
    rw [c_int] at h2
    obtain ⟨l2, e2, b2⟩ := in_int h2
    have h3 : DataW.trod enc Try.prog W 0 (fun _ => true) true m 3 ((cs.drop 5).take (Try.prog.cellsOf 3)) = some y3_ := hf 3 _ rfl
    rw [c_int] at h3
    obtain ⟨l3, e3, b3⟩ := in_int h3
    have k0 := cut cs 0 2
    rw [e0] at k0
    have k1 := cut cs 2 2
    rw [e1] at k1
    have k2 := cut cs 4 1
    rw [e2] at k2
    have k3 := cut cs 5 1
    rw [e3] at k3
    have k : cs = cs.drop 0 := rfl
    rw [k0, show 0 + 2 = 2 from rfl] at k
    rw [k1, show 2 + 2 = 4 from rfl] at k
    rw [k2, show 4 + 1 = 5 from rfl] at k
    rw [k3, show 5 + 1 = 6 from rfl] at k
    rw [show cs.drop 6 = [] from List.drop_of_length_le (by omega)] at k
    clear hf h h0 k0 e0 h1 k1 e1 h2 k2 e2 h3 k3 e3
    exact ⟨⟨l0, l1, l2, l3⟩, k, b0, b1⟩
theorem c_tg : Try.prog.cellsOf 30 = 9 := by kernel_rfl
theorem in_tg {n : Nat} {cs : List Value} {x : DataW H × List MemPlace} (h : DataW.trod enc Try.prog W 0 (fun _ => true) true n 30 cs = some x) (hw : ∀ n ∈ DataW.weights Try.prog 30 x.1, n ≤ reachBytes) : ∃ (q : Tg) (b a : Value), cs = tgC q b a ∧ SlB W W.heap.size b q.t.b ∧ SlB W W.heap.size a q.a ∧ ((Lp q.t.s ∧ q.t.b.length ≤ reachBytes) ∧ q.a.length ≤ reachBytes ∧ Lp q.s) := by
  obtain ⟨xs, m, _, hx, hl, hxl, hf⟩ := DataW.trod_struct Try.underlying30 h
  rw [c_tg] at hl
  match xs, hxl with
  | [y0_, y1_, y2_, y3_, y4_], _ =>
    have fw := fun (j : Nat) (t : TypeId) (d : DataW H) (ht : _[j]? = some t) (hd : [y0_.1, y1_.1, y2_.1, y3_.1, y4_.1][j]? = some d) (n : Nat) (hn : n ∈ d.weights Try.prog t) => hw n (by rw [hx]; simp only [DataW.weights, Try.underlying30]; exact DataW.weights_mem_each ht hd n hn)
    have h0 : DataW.trod enc Try.prog W 0 (fun _ => true) true m 28 ((cs.drop 0).take (Try.prog.cellsOf 28)) = some y0_ := hf 0 _ rfl
    rw [c_tk] at h0
    obtain ⟨l0, z0, e0, s0, b0⟩ := in_tk h0 (fw 0 _ _ rfl rfl)
    have h1 : DataW.trod enc Try.prog W 0 (fun _ => true) true m 26 ((cs.drop 4).take (Try.prog.cellsOf 26)) = some y1_ := hf 1 _ rfl
    rw [c_byt] at h1
    obtain ⟨z1, l1, e1, s1, b1⟩ := in_byt (by rw [List.length_take, List.length_drop]; omega) h1 (fw 1 _ _ rfl rfl)
    have h2 : DataW.trod enc Try.prog W 0 (fun _ => true) true m 23 ((cs.drop 5).take (Try.prog.cellsOf 23)) = some y2_ := hf 2 _ rfl
    rw [c_pr] at h2
    obtain ⟨l2, e2, b2, u2, w2⟩ := in_pr h2 (fw 2 _ _ rfl rfl)
    have h3 : DataW.trod enc Try.prog W 0 (fun _ => true) true m 3 ((cs.drop 7).take (Try.prog.cellsOf 3)) = some y3_ := hf 3 _ rfl
    rw [c_int] at h3
    obtain ⟨l3, e3, b3⟩ := in_int h3
    have h4 : DataW.trod enc Try.prog W 0 (fun _ => true) true m 3 ((cs.drop 8).take (Try.prog.cellsOf 3)) = some y4_ := hf 4 _ rfl
    rw [c_int] at h4
    obtain ⟨l4, e4, b4⟩ := in_int h4
    have k0 := cut cs 0 4
    rw [e0] at k0
    have k1 := cut cs 4 1
    rw [e1] at k1
    have k2 := cut cs 5 2
    rw [e2] at k2
    have k3 := cut cs 7 1
    rw [e3] at k3
    have k4 := cut cs 8 1
    rw [e4] at k4
    have k : cs = cs.drop 0 := rfl
    rw [k0, show 0 + 4 = 4 from rfl] at k
    rw [k1, show 4 + 1 = 5 from rfl] at k
    rw [k2, show 5 + 2 = 7 from rfl] at k
    rw [k3, show 7 + 1 = 8 from rfl] at k
    rw [k4, show 8 + 1 = 9 from rfl] at k
    rw [show cs.drop 9 = [] from List.drop_of_length_le (by omega)] at k
    clear hf h h0 k0 e0 h1 k1 e1 h2 k2 e2 h3 k3 e3 h4 k4 e4
    exact ⟨⟨l0, l1, l2, l3, l4⟩, z0, z1, k, s0, s1, b0, b1, b2⟩
theorem c_re : Try.prog.cellsOf 32 = 7 := by kernel_rfl
theorem in_re {n : Nat} {cs : List Value} {x : DataW H × List MemPlace} (h : DataW.trod enc Try.prog W 0 (fun _ => true) true n 32 cs = some x) (hw : ∀ n ∈ DataW.weights Try.prog 32 x.1, n ≤ reachBytes) : ∃ (q : Re) (b a : Value), cs = reC q b a ∧ SlB W W.heap.size b q.t.b ∧ SlB W W.heap.size a q.b ∧ ((Lp q.t.s ∧ q.t.b.length ≤ reachBytes) ∧ q.b.length ≤ reachBytes ∧ Lp q.c) := by
  obtain ⟨xs, m, _, hx, hl, hxl, hf⟩ := DataW.trod_struct Try.underlying32 h
  rw [c_re] at hl
  match xs, hxl with
  | [y0_, y1_, y2_], _ =>
    have fw := fun (j : Nat) (t : TypeId) (d : DataW H) (ht : _[j]? = some t) (hd : [y0_.1, y1_.1, y2_.1][j]? = some d) (n : Nat) (hn : n ∈ d.weights Try.prog t) => hw n (by rw [hx]; simp only [DataW.weights, Try.underlying32]; exact DataW.weights_mem_each ht hd n hn)
    have h0 : DataW.trod enc Try.prog W 0 (fun _ => true) true m 23 ((cs.drop 0).take (Try.prog.cellsOf 23)) = some y0_ := hf 0 _ rfl
    rw [c_pr] at h0
    obtain ⟨l0, e0, b0, u0, w0⟩ := in_pr h0 (fw 0 _ _ rfl rfl)
    have h1 : DataW.trod enc Try.prog W 0 (fun _ => true) true m 28 ((cs.drop 2).take (Try.prog.cellsOf 28)) = some y1_ := hf 1 _ rfl
    rw [c_tk] at h1
    obtain ⟨l1, z1, e1, s1, b1⟩ := in_tk h1 (fw 1 _ _ rfl rfl)
    have h2 : DataW.trod enc Try.prog W 0 (fun _ => true) true m 26 ((cs.drop 6).take (Try.prog.cellsOf 26)) = some y2_ := hf 2 _ rfl
    rw [c_byt] at h2
    obtain ⟨z2, l2, e2, s2, b2⟩ := in_byt (by rw [List.length_take, List.length_drop]; omega) h2 (fw 2 _ _ rfl rfl)
    have k0 := cut cs 0 2
    rw [e0] at k0
    have k1 := cut cs 2 4
    rw [e1] at k1
    have k2 := cut cs 6 1
    rw [e2] at k2
    have k : cs = cs.drop 0 := rfl
    rw [k0, show 0 + 2 = 2 from rfl] at k
    rw [k1, show 2 + 4 = 6 from rfl] at k
    rw [k2, show 6 + 1 = 7 from rfl] at k
    rw [show cs.drop 7 = [] from List.drop_of_length_le (by omega)] at k
    clear hf h h0 k0 e0 h1 k1 e1 h2 k2 e2
    exact ⟨⟨l0, l1, l2⟩, z1, z2, k, s1, s2, b1, b2, b0⟩
theorem c_ap : Try.prog.cellsOf 34 = 5 := by kernel_rfl
theorem in_ap {n : Nat} {cs : List Value} {x : DataW H × List MemPlace} (h : DataW.trod enc Try.prog W 0 (fun _ => true) true n 34 cs = some x) (hw : ∀ n ∈ DataW.weights Try.prog 34 x.1, n ≤ reachBytes) : ∃ (q : Ap) (b a : Value), cs = apC q b a ∧ SlB W W.heap.size b q.t.b ∧ SlB W W.heap.size a q.a ∧ ((Lp q.t.s ∧ q.t.b.length ≤ reachBytes) ∧ q.a.length ≤ reachBytes) := by
  obtain ⟨xs, m, _, hx, hl, hxl, hf⟩ := DataW.trod_struct Try.underlying34 h
  rw [c_ap] at hl
  match xs, hxl with
  | [y0_, y1_], _ =>
    have fw := fun (j : Nat) (t : TypeId) (d : DataW H) (ht : _[j]? = some t) (hd : [y0_.1, y1_.1][j]? = some d) (n : Nat) (hn : n ∈ d.weights Try.prog t) => hw n (by rw [hx]; simp only [DataW.weights, Try.underlying34]; exact DataW.weights_mem_each ht hd n hn)
    have h0 : DataW.trod enc Try.prog W 0 (fun _ => true) true m 28 ((cs.drop 0).take (Try.prog.cellsOf 28)) = some y0_ := hf 0 _ rfl
    rw [c_tk] at h0
    obtain ⟨l0, z0, e0, s0, b0⟩ := in_tk h0 (fw 0 _ _ rfl rfl)
    have h1 : DataW.trod enc Try.prog W 0 (fun _ => true) true m 26 ((cs.drop 4).take (Try.prog.cellsOf 26)) = some y1_ := hf 1 _ rfl
    rw [c_byt] at h1
    obtain ⟨z1, l1, e1, s1, b1⟩ := in_byt (by rw [List.length_take, List.length_drop]; omega) h1 (fw 1 _ _ rfl rfl)
    have k0 := cut cs 0 4
    rw [e0] at k0
    have k1 := cut cs 4 1
    rw [e1] at k1
    have k : cs = cs.drop 0 := rfl
    rw [k0, show 0 + 4 = 4 from rfl] at k
    rw [k1, show 4 + 1 = 5 from rfl] at k
    rw [show cs.drop 5 = [] from List.drop_of_length_le (by omega)] at k
    clear hf h h0 k0 e0 h1 k1 e1
    exact ⟨⟨l0, l1⟩, z0, z1, k, s0, s1, b0, b1⟩
theorem c_er : Try.prog.cellsOf 35 = 1 := by kernel_rfl
theorem in_er {n : Nat} {cs : List Value} {x : DataW H × List MemPlace} (h : DataW.trod enc Try.prog W 0 (fun _ => true) true n 35 cs = some x) : ∃ i : Int, cs = [.int .i64 i] ∧ (Lit.int .i64 i).wf = true := by
  obtain ⟨i, h1, _, h2⟩ := DataW.trod_int Try.underlying35 h
  exact ⟨i, h1, h2⟩
theorem c_fa : Try.prog.cellsOf 37 = 2 := by kernel_rfl
theorem in_fa {n : Nat} {cs : List Value} {x : DataW H × List MemPlace} (h : DataW.trod enc Try.prog W 0 (fun _ => true) true n 37 cs = some x) : ∃ (q : Fa), cs = faC q := by
  obtain ⟨xs, m, _, hx, hl, hxl, hf⟩ := DataW.trod_struct Try.underlying37 h
  rw [c_fa] at hl
  match xs, hxl with
  | [y0_, y1_], _ =>
    have h0 : DataW.trod enc Try.prog W 0 (fun _ => true) true m 35 ((cs.drop 0).take (Try.prog.cellsOf 35)) = some y0_ := hf 0 _ rfl
    rw [c_er] at h0
    obtain ⟨l0, e0, b0⟩ := in_er h0
    have h1 : DataW.trod enc Try.prog W 0 (fun _ => true) true m 3 ((cs.drop 1).take (Try.prog.cellsOf 3)) = some y1_ := hf 1 _ rfl
    rw [c_int] at h1
    obtain ⟨l1, e1, b1⟩ := in_int h1
    have k0 := cut cs 0 1
    rw [e0] at k0
    have k1 := cut cs 1 1
    rw [e1] at k1
    have k : cs = cs.drop 0 := rfl
    rw [k0, show 0 + 1 = 1 from rfl] at k
    rw [k1, show 1 + 1 = 2 from rfl] at k
    rw [show cs.drop 2 = [] from List.drop_of_length_le (by omega)] at k
    clear hf h h0 k0 e0 h1 k1 e1
    exact ⟨⟨l0, l1⟩, k⟩
def Lm (m : Mg) : Prop := (Lp m.aq.c ∧ Lp m.aq.s) ∧ ((Lp m.tg.t.s ∧ m.tg.t.b.length ≤ reachBytes) ∧ m.tg.a.length ≤ reachBytes ∧ Lp m.tg.s) ∧ ((Lp m.re.t.s ∧ m.re.t.b.length ≤ reachBytes) ∧ m.re.b.length ≤ reachBytes ∧ Lp m.re.c) ∧ ((Lp m.ap.t.s ∧ m.ap.t.b.length ≤ reachBytes) ∧ m.ap.a.length ≤ reachBytes)
theorem c_mg : Try.prog.cellsOf 39 = 30 := by kernel_rfl
theorem in_mg {n : Nat} {cs : List Value} {x : DataW H × List MemPlace} (h : DataW.trod enc Try.prog W 0 (fun _ => true) true n 39 cs = some x) (hw : ∀ n ∈ DataW.weights Try.prog 39 x.1, n ≤ reachBytes) : ∃ m : Mg, MgV W W.heap.size cs.toArray m ∧ Lm m := by
  obtain ⟨xs, m, _, hx, hl, hxl, hf⟩ := DataW.trod_struct Try.underlying39 h
  rw [c_mg] at hl
  match xs, hxl with
  | [y0_, y1_, y2_, y3_, y4_, y5_], _ =>
    have fw := fun (j : Nat) (t : TypeId) (d : DataW H) (ht : _[j]? = some t) (hd : [y0_.1, y1_.1, y2_.1, y3_.1, y4_.1, y5_.1][j]? = some d) (n : Nat) (hn : n ∈ d.weights Try.prog t) => hw n (by rw [hx]; simp only [DataW.weights, Try.underlying39]; exact DataW.weights_mem_each ht hd n hn)
    have h0 : DataW.trod enc Try.prog W 0 (fun _ => true) true m 3 ((cs.drop 0).take (Try.prog.cellsOf 3)) = some y0_ := hf 0 _ rfl
    rw [c_int] at h0
    obtain ⟨l0, e0, b0⟩ := in_int h0
    have h1 : DataW.trod enc Try.prog W 0 (fun _ => true) true m 25 ((cs.drop 1).take (Try.prog.cellsOf 25)) = some y1_ := hf 1 _ rfl
    rw [c_as] at h1
    obtain ⟨l1, e1, b1⟩ := in_as h1 (fw 1 _ _ rfl rfl)
    have h2 : DataW.trod enc Try.prog W 0 (fun _ => true) true m 30 ((cs.drop 7).take (Try.prog.cellsOf 30)) = some y2_ := hf 2 _ rfl
    rw [c_tg] at h2
    obtain ⟨l2, z2, y2, e2, s2, r2, b2⟩ := in_tg h2 (fw 2 _ _ rfl rfl)
    have h3 : DataW.trod enc Try.prog W 0 (fun _ => true) true m 32 ((cs.drop 16).take (Try.prog.cellsOf 32)) = some y3_ := hf 3 _ rfl
    rw [c_re] at h3
    obtain ⟨l3, z3, y3, e3, s3, r3, b3⟩ := in_re h3 (fw 3 _ _ rfl rfl)
    have h4 : DataW.trod enc Try.prog W 0 (fun _ => true) true m 34 ((cs.drop 23).take (Try.prog.cellsOf 34)) = some y4_ := hf 4 _ rfl
    rw [c_ap] at h4
    obtain ⟨l4, z4, y4, e4, s4, r4, b4⟩ := in_ap h4 (fw 4 _ _ rfl rfl)
    have h5 : DataW.trod enc Try.prog W 0 (fun _ => true) true m 37 ((cs.drop 28).take (Try.prog.cellsOf 37)) = some y5_ := hf 5 _ rfl
    rw [c_fa] at h5
    obtain ⟨l5, e5⟩ := in_fa h5
    have k0 := cut cs 0 1
    rw [e0] at k0
    have k1 := cut cs 1 6
    rw [e1] at k1
    have k2 := cut cs 7 9
    rw [e2] at k2
    have k3 := cut cs 16 7
    rw [e3] at k3
    have k4 := cut cs 23 5
    rw [e4] at k4
    have k5 := cut cs 28 2
    rw [e5] at k5
    have k : cs = cs.drop 0 := rfl
    rw [k0, show 0 + 1 = 1 from rfl] at k
    rw [k1, show 1 + 6 = 7 from rfl] at k
    rw [k2, show 7 + 9 = 16 from rfl] at k
    rw [k3, show 16 + 7 = 23 from rfl] at k
    rw [k4, show 23 + 5 = 28 from rfl] at k
    rw [k5, show 28 + 2 = 30 from rfl] at k
    rw [show cs.drop 30 = [] from List.drop_of_length_le (by omega)] at k
    clear hf h h0 k0 e0 h1 k1 e1 h2 k2 e2 h3 k3 e3 h4 k4 e4 h5 k5 e5
    refine ⟨⟨l0, l1, l2, l3, l4, l5⟩, ⟨(asC l1).toArray, (tgC l2 z2 y2).toArray, (reC l3 z3 y3).toArray, (apC l4 z4 y4).toArray, (faC l5).toArray, ?_, ⟨rfl, ⟨_, _, rfl, s2, r2⟩, ⟨_, _, rfl, s3, r3⟩, ⟨_, _, rfl, s4, r4⟩, rfl⟩⟩, b1, b2, b3, b4⟩
    rw [k]; simp [mgA]
theorem open_st {P : Program} {t : TypeId} {fs : Array Field} (ht : P.underlying t = some (.struct fs)) {r : Reach} {b0 : Nat} {v : Value} {d : DataW H} {ps : List MemPlace} (hv : Value.okWide P W r b0 t v) (h : DataW.Trod enc P W 0 (fun _ => true) true t v d ps) :
    ∃ cs : Array Value, ∃ n : Nat, v = Value.agg cs ∧ DataW.trod enc P W 0 (fun _ => true) true n t cs.toList = some (d, ps) := by
  obtain ⟨cs, hcs, _⟩ := okWide_struct ht hv
  obtain ⟨n, hf⟩ := h
  rw [hcs] at hf
  exact ⟨cs, n, hcs, hf⟩
end
end Go.Proofs.Yteeabfplnaknfaa.OpenW
end

section
namespace Go.Proofs.Yteeabfplnaknfaa.Mc
open Go.RowKit Go.Proofs.Yteeabfplnaknfaa.Ms

theorem sz_of {m : Mg} (h : OpenW.Lm m) : SzM m := by
  obtain ⟨⟨⟨h1, h2⟩, ⟨h3, h4⟩⟩, ⟨⟨⟨h5, h6⟩, h7⟩, h8, ⟨h9, h10⟩⟩, ⟨⟨⟨h11, h12⟩, h13⟩, h14, ⟨h15, h16⟩⟩, ⟨⟨⟨h17, h18⟩, h19⟩, h20⟩⟩ := h
  unfold reachBytes at *
  exact ⟨by omega, by omega, by omega, by omega, by omega, by omega, by omega, by omega, by omega, by omega, by omega, by omega, by omega, by omega, by omega, by omega, by omega, by omega, by omega, by omega⟩
end Go.Proofs.Yteeabfplnaknfaa.Mc
end

section
namespace Go.Proofs.Yteeabfplnaknfaa.msgOthers
open Go.ChangeShapes Go.WideShapes Go.ChangeAt Go.RowKit Go.Proofs.Yteeabfplnaknfaa
open Go.ChangeMaps (open_string shut_string)

theorem own : ownKnob Try.prog.godebug = none := by kernel_rfl
theorem laidOut : laidOutB Try.prog = true := by kernel_rfl

set_option maxRecDepth 100000 in
theorem lifted (os : Os) (started : os.Started) (H : Type) (enc : TypeId × Value → H) :
    ReturnsInHanded {} Try.checked os 3 .any (Rows.msgOthersSpec.pre6 enc Try.prog Try.f3 Rows.msgOthersRow.domain false) (Rows.msgOthersSpec.post enc Try.prog Try.f3 false true false false) := by
  refine returnsInHanded_of_change_sized (C := Try.checked) own started (by kernel_rfl) Try.func3
    (ChangeSpec.witness6 (enc := enc) (C := Try.checked) false ⟨#[], #[.agg #[.int .i64 0, .string ⟨#[]⟩, .string ⟨#[]⟩, .string ⟨#[]⟩, .string ⟨#[]⟩, .int .i64 0, .int .i64 0, .string ⟨#[]⟩, .string ⟨#[]⟩, .int .i64 0, .slice none 0 0, .slice none 0 0, .string ⟨#[]⟩, .string ⟨#[]⟩, .int .i64 0, .int .i64 0, .string ⟨#[]⟩, .string ⟨#[]⟩, .string ⟨#[]⟩, .string ⟨#[]⟩, .int .i64 0, .slice none 0 0, .slice none 0 0, .string ⟨#[]⟩, .string ⟨#[]⟩, .int .i64 0, .slice none 0 0, .slice none 0 0, .int .i64 0, .int .i64 0], .int .i64 0], []⟩ 8 (by kernel_rfl) (by kernel_rfl) (by kernel_rfl) (by kernel_rfl)) ?_
  intro W base args ds gs before hval0 hW hcnd hsz _
  have hval : ∀ (j : Nat) t v, Try.f3.params[j]? = some t → args[j]? = some v → Value.okWide Try.prog W .any base t v := hval0
  have hW' := hW
  obtain ⟨p, q, hA0, hV, rfl, hfz, hnd⟩ := hW
  have hA : DataW.TrodAll enc Try.prog W 0 (fun _ => true) true Try.f3.params.toList args.toList ds p := hA0
  rw [Try.params3] at hA hval
  obtain ⟨v0, vs0, d0, ds0, p0, q0, hargs, rfl, rfl, h0, r0⟩ := trodAll_cons hA
  obtain ⟨v1, vs1, d1, ds1, p1, q1, rfl, rfl, rfl, h1, r1⟩ := trodAll_cons r0
  obtain ⟨rfl, rfl, rfl⟩ := trodAll_nil r1
  obtain rfl : args = #[v0, v1] := by cases args; simp_all
  obtain ⟨rfl, rfl⟩ := trodVars_none hV
  have k0 := h0
  have lt0 : ∀ x ∈ p0, x.block < W.heap.size := by obtain ⟨m, hm⟩ := k0; exact DataW.trod_lt m _ _ _ hm
  have wt0 : ∀ n ∈ DataW.weights Try.prog 39 d0, n ≤ reachBytes := fun n hn => by have := List.all_eq_true.1 hsz n (DataW.weights_mem_each (j := 0) (t := 39) (d := d0) (by rw [Try.params3]; rfl) rfl n hn); simpa using this
  obtain ⟨cs0, n0, rfl, f0⟩ := OpenW.open_st Try.underlying39 (hval 0 39 v0 rfl rfl) h0
  obtain ⟨x0, mv0, lm0⟩ := OpenW.in_mg f0 (wt0)
  simp only [Array.toArray_toList] at mv0
  obtain ⟨a1, rfl, rfl, rfl, w1⟩ := open_int Try.underlying3 (hval 1 3 v1 rfl rfl) h1
  clear hA0 hval0
  refine (Mc.others_ x0 cs0 a1 W mv0 (Mc.sz_of lm0)).mono fun e W' ⟨he, bel⟩ => ?_
  subst he
  exact ⟨_, rfl, _, _, _, [], _, [], hW', trodAll_mk1 (shut_bool Try.underlying4 _), (trodAll_cons_mk (Below.trod laidOut (by kernel_rfl) (of_decide_eq_true (by kernel_rfl)) k0 bel lt0) (trodAll_cons_mk (shut_int Try.underlying3 w1) trodAll_mk0)), rfl, bel.frame _, fun h => by cases h⟩

theorem over : Rows.msgOthersRow.holds Try.pinned (OpenSpec.ofChange Rows.msgOthersSpec) :=
  OpenClaim.holds_of_wide 3 Try.f3 rfl rfl rfl rfl rfl rfl rfl ⟨rfl, rfl, rfl, rfl, rfl⟩ rfl rfl rfl rfl rfl (by kernel_rfl) Try.func3 (by kernel_rfl)
    (of_decide_eq_true (by kernel_rfl)) (by unfold Func.isWrapper; first | (rw [if_pos (by decide +kernel)]; kernel_rfl) | (rw [if_neg (by decide +kernel)]; exact ⟨rfl, rfl⟩))
    (fun os started H enc _ => lifted os started H enc)

theorem proved : Rows.MsgOthersSaid := over
end Go.Proofs.Yteeabfplnaknfaa.msgOthers
end
