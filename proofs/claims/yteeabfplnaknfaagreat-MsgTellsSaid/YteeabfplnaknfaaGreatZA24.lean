import Derived.Deep.LoopGhost
import Derived.ProofKit
import Derived.OpenShut
import Derived.ShutString
import Derived.ChangeOld
import Derived.Deep.Matrix
import Derived.Deep.Slices
import Derived.Test.YteeabfplnaknfaaGreatRows
import Derived.Lib.SmallJoins
import Derived.Deep.Strs
import Derived.ChangeSame
import Derived.Deep.MidRow
import Derived.Deep.RegionHeld3
import Derived.Laws.IdiomCopy
import Derived.Test.YteeabfplnaknfaaGreatZA1
import Derived.Test.YteeabfplnaknfaaGreatZA2
import Derived.Test.YteeabfplnaknfaaGreatZA3
import Derived.Test.YteeabfplnaknfaaGreatZA4
import Derived.Test.YteeabfplnaknfaaGreatZA5
import Derived.Test.YteeabfplnaknfaaGreatZA6
import Derived.Test.YteeabfplnaknfaaGreatZA7
import Derived.Test.YteeabfplnaknfaaGreatZA8
import Derived.Test.YteeabfplnaknfaaGreatZA9
import Derived.Test.YteeabfplnaknfaaGreatZA10
import Derived.Test.YteeabfplnaknfaaGreatZA11
import Derived.Test.YteeabfplnaknfaaGreatZA12
import Derived.Test.YteeabfplnaknfaaGreatZA13
import Derived.Test.YteeabfplnaknfaaGreatZA14
import Derived.Test.YteeabfplnaknfaaGreatZA15
import Derived.Test.YteeabfplnaknfaaGreatZA16
import Derived.Test.YteeabfplnaknfaaGreatZA17
import Derived.Test.YteeabfplnaknfaaGreatZA18
import Derived.Test.YteeabfplnaknfaaGreatZA19
import Derived.Test.YteeabfplnaknfaaGreatZA20
import Derived.Test.YteeabfplnaknfaaGreatZA21
import Derived.Test.YteeabfplnaknfaaGreatZA22
import Derived.Test.YteeabfplnaknfaaGreatZA23
section
set_option linter.unusedVariables false
set_option linter.unusedSimpArgs false
namespace Go.Proofs.YteeabfplnaknfaaGreat.Mc
open Go.RowKit Go.Proofs.YteeabfplnaknfaaGreat.Mem Go.Proofs.YteeabfplnaknfaaGreat.DerP Go.Proofs.YteeabfplnaknfaaGreat.Ms

theorem stored_at (w : World) (t : TypeId) (lit cs : Array Value) (hs : lit.size = cs.size) : Blk ((w.alloc (.cells lit t)).setCells w.heap.size 0 cs.toList) w.heap.size t cs ∧ Below w.heap.size w ((w.alloc (.cells lit t)).setCells w.heap.size 0 cs.toList) :=
  ⟨blk_cells (Blk.new w t lit) hs, below_g ((Below.refl w.heap.size w).alloc (Nat.le_refl _) _) (put_cells _ _ _) (by simp) (Nat.le_refl _)⟩
theorem store_new {P : Program} {ops : Array Oper} {rest : List Oper} {op : Oper} {a : Act} {w w0 : World} {Q : Exit → Act → World → Prop} {lit : Array Value} (hgd : op.guard = none) (ty : TypeId) (x y : Operand) (ho : op.op = .store ty x y) (t : TypeId) (hw : w = w0.alloc (.cells lit t))
    (cells : Array Value) (hx : a.eval x = .pointer (some ⟨w0.heap.size, 0, none⟩)) (hy : a.eval y = .agg cells) (hs : lit.size = cells.size)
    (hi : (P.info? ty).map (·.size) = some cells.size) (h1 : cells.all (·.oneCell') = true)
    (h : ∀ V, Blk V w0.heap.size t cells → Below w0.heap.size w0 V → wpList P ops Q rest (a.put op.dst undef) V) : wpList P ops Q (op :: rest) a w := by
  subst hw
  have hV := stored_at w0 t lit cells hs
  exact wpList_store_mid hgd ty x y ho w0.heap.size 0 cells hx hy (there_blk (Blk.new w0 t lit) _ (by omega)) hi h1 (h _ hV.1 hV.2)
theorem enc_str {w w' : World} {o : Option L} {e : Ending} (h : EncR w o e w') : ∃ A c, e = .returned (.tuple #[.slice A (o.getD []).length c, .int .i64 (if o.isSome then 0 else 1)]) ∧ (o.getD []).length ≤ c ∧ Rd w' w'.heap.size A (bvs (o.getD [])) ∧ Below w.heap.size w w' := by
  obtain ⟨⟨v, i, rfl, hn, hs⟩, hb⟩ := h
  cases o with
  | none => obtain ⟨rfl, rfl⟩ := hn rfl; exact ⟨none, 0, rfl, Nat.le_refl _, .inl rfl, hb⟩
  | some l => obtain ⟨rfl, g, c, rfl, _, hc, hr⟩ := hs l rfl; exact ⟨_, c, rfl, hc, hr, hb⟩
end Go.Proofs.YteeabfplnaknfaaGreat.Mc
end

section
namespace Go.Proofs.YteeabfplnaknfaaGreat.Open
open Go.ChangeShapes Go.WideShapes Go.ChangeAt Go.RowKit Go.Deep Go.Proofs.YteeabfplnaknfaaGreat.Mem

theorem u8_of_wf {n : Int} (h : (Lit.int .u8 n).wf = true) : ∃ b : UInt8, n = (b.toNat : Int) := by
  have hx : 0 ≤ n ∧ n ≤ 255 := by simpa [Lit.wf, IntKind.min, IntKind.max, IntKind.signed, IntKind.bits] using h
  refine ⟨UInt8.ofNat n.toNat, ?_⟩
  have : (UInt8.ofNat n.toNat).toNat = n.toNat := by simp; omega
  rw [this]; omega
theorem u32_of_wf {n : Int} (h : (Lit.int .u32 n).wf = true) : ∃ v : BitVec 32, n = (v.toNat : Int) := by
  have hx : 0 ≤ n ∧ n ≤ 4294967295 := by simpa [Lit.wf, IntKind.min, IntKind.max, IntKind.signed, IntKind.bits] using h
  refine ⟨BitVec.ofNat 32 n.toNat, ?_⟩
  rw [BitVec.toNat_ofNat]; omega
theorem u64_of_wf {n : Int} (h : (Lit.int .u64 n).wf = true) : ∃ v : Nat, n = (v : Int) ∧ v < 18446744073709551616 := by
  have hx : 0 ≤ n ∧ n ≤ 18446744073709551615 := by simpa [Lit.wf, IntKind.min, IntKind.max, IntKind.signed, IntKind.bits] using h
  exact ⟨n.toNat, by omega, by omega⟩
theorem i64_of_wf {n : Int} (h : (Lit.int .i64 n).wf = true) : -9223372036854775808 ≤ n ∧ n ≤ 9223372036854775807 := by
  simpa [Lit.wf, IntKind.min, IntKind.max, IntKind.signed, IntKind.bits] using h

theorem addr_none {w : World} {x : Addr} {v : Value} (h : w.cell? x = some v) : ∃ b o, x = ⟨b, o, none⟩ := by
  obtain ⟨b, o, s⟩ := x
  have := World.cell?_spot h
  exact ⟨b, o, by rw [show s = none from this]⟩

theorem rd_of_cells {w : World} {x : Addr} {xs : List Value} (h : ∀ i u, xs[i]? = some u → w.cell? (x.add i) = some u) : Rd w w.heap.size (some x) xs := by
  cases xs with
  | nil => exact .inl rfl
  | cons a r =>
    have h0 := h 0 a rfl
    rw [show x.add 0 = x by simp [Addr.add]] at h0
    obtain ⟨b, o, rfl⟩ := addr_none h0
    exact .inr ⟨b, o, rfl, World.block_lt_of_cell? w _ h0, fun i u hu => by have := h i u hu; rwa [addr_add] at this⟩

theorem bytes_of_ints {k : Nat} {zs : List Int} (hk : k ≤ zs.length) (hw : ∀ n ∈ zs, (Lit.int .u8 n).wf = true) : ∃ l : List UInt8, l.length = k ∧ ∀ i u, (bvs l)[i]? = some u → i < zs.length ∧ u = .int .u8 (zs.getD i 0) := by
  refine ⟨(zs.take k).map fun n => UInt8.ofNat n.toNat, by simp; omega, fun i u hu => ?_⟩
  have hi : i < k := by
    rcases Nat.lt_or_ge i k with g | g
    · exact g
    · rw [List.getElem?_eq_none (by simp [bvs]; omega)] at hu; cases hu
  have hz : i < zs.length := by omega
  refine ⟨hz, ?_⟩
  obtain ⟨b, hb⟩ := u8_of_wf (hw _ (List.getElem_mem hz))
  simp only [bvs, List.map_map, List.getElem?_map, List.getElem?_take, if_pos hi, List.getElem?_eq_getElem hz, Option.map_some, Function.comp] at hu
  injection hu with hu
  rw [← hu, List.getD, List.getElem?_eq_getElem hz, Option.getD_some, hb]
  simp [bv]

section
variable {H : Type} {enc : TypeId × Value → H} {P : Program} {W : World}

theorem bytes_trod {t e : TypeId} {held : Bool} {fuel : Nat} {v : Value} {x : DataW H × List MemPlace} (ht : P.underlying t = some (.slice e)) (he : P.underlying e = some (.int .u8)) (hc : P.cellsOf e = 1)
    (h : DataW.trod enc P W 0 (fun _ => true) held fuel t [v] = some x) : ∃ A l c, v = .slice A (List.length l) c ∧ Rd W W.heap.size A (bvs l) ∧ l.length ≤ c ∧ c ≤ maxLen := by
  rcases open_ints ht he hc h with ⟨hcs, _⟩ | ⟨x, l, c, zs, hcs, _, hl, hm, hz, _, hcell, hwz⟩
  · injection hcs with hcs
    exact ⟨none, [], 0, hcs, .inl rfl, Nat.le_refl _, Nat.zero_le _⟩
  · injection hcs with hcs
    simp only [if_true] at hz
    obtain ⟨bs, hbl, hb⟩ := bytes_of_ints (k := l) (zs := zs) (by omega) hwz
    refine ⟨some x, bs, c, by rw [hbl]; exact hcs, rd_of_cells fun i u hu => ?_, by omega, hm⟩
    obtain ⟨h1, h2⟩ := hb i u hu
    rw [hcell i h1, h2]

theorem open_bytes {t e : TypeId} {v : Value} {d : DataW H} {ps : List MemPlace} (ht : P.underlying t = some (.slice e)) (he : P.underlying e = some (.int .u8)) (hc : P.cellsOf e = 1)
    (hv : ∃ A n c, v = .slice A n c) (h : DataW.Trod enc P W 0 (fun _ => true) true t v d ps) : ∃ A l c, v = .slice A (List.length l) c ∧ Rd W W.heap.size A (bvs l) ∧ l.length ≤ c ∧ c ≤ maxLen := by
  obtain ⟨A, n, c, rfl⟩ := hv
  obtain ⟨fuel, hf⟩ := h
  exact bytes_trod ht he hc hf

end

end Go.Proofs.YteeabfplnaknfaaGreat.Open
end

section
set_option linter.unusedVariables false
namespace Go.Proofs.YteeabfplnaknfaaGreat.Open
open Go.Joins Go.ChangeShapes Go.WideShapes Go.ChangeAt Go.RowKit Go.Deep Go.Proofs.YteeabfplnaknfaaGreat Go.Proofs.YteeabfplnaknfaaGreat.Mem Go.Proofs.YteeabfplnaknfaaGreat.Ms Go.Proofs.YteeabfplnaknfaaGreat.Mc

theorem cut {α : Type} (cs : List α) (o c : Nat) : cs.drop o = (cs.drop o).take c ++ cs.drop (o + c) := by
  rw [← List.drop_drop]; exact (List.take_append_drop c _).symm
section
variable {H : Type} {enc : TypeId × Value → H} {W : World}
theorem c_str : Tryz.prog.cellsOf 9 = 1 := by kernel_rfl
theorem c_int : Tryz.prog.cellsOf 3 = 1 := by kernel_rfl
theorem c_byt : Tryz.prog.cellsOf 26 = 1 := by kernel_rfl
theorem c_u8 : Tryz.prog.cellsOf 5 = 1 := by kernel_rfl
theorem c_pr : Tryz.prog.cellsOf 23 = 2 := by kernel_rfl
def Lp (p : Pr) : Prop := p.1.length ≤ maxLen ∧ p.2.length ≤ maxLen
theorem in_str {n : Nat} {cs : List Value} {x : DataW H × List MemPlace} (h : DataW.trod enc Tryz.prog W 0 (fun _ => true) true n 9 cs = some x) : ∃ l : List UInt8, cs = [.string ⟨l.toArray⟩] ∧ l.length ≤ maxLen ∧ l.length ≤ Rows.uptoBulk x.1 := by
  obtain ⟨s, hs, hx, hz⟩ := DataW.trod_string Tryz.underlying9 h
  refine ⟨s.data.toList, by rw [hs, ← Mem.bytes_eta s], by rw [Array.length_toList]; exact hz, ?_⟩
  rw [hx]; show _ ≤ Rows.uptoBulk (.lit (.string s.data.toList)); rw [Rows.uptoBulk]; omega
theorem in_int {n : Nat} {cs : List Value} {x : DataW H × List MemPlace} (h : DataW.trod enc Tryz.prog W 0 (fun _ => true) true n 3 cs = some x) : ∃ i : Int, cs = [.int .i64 i] ∧ (Lit.int .i64 i).wf = true := by
  obtain ⟨i, h1, _, h2⟩ := DataW.trod_int Tryz.underlying3 h
  exact ⟨i, h1, h2⟩
theorem in_byt {n : Nat} {cs : List Value} {x : DataW H × List MemPlace} (hl : cs.length = 1) (h : DataW.trod enc Tryz.prog W 0 (fun _ => true) true n 26 cs = some x) : ∃ u l, cs = [u] ∧ SlB W W.heap.size u l ∧ l.length ≤ maxLen := by
  match cs, hl with
  | [u], _ =>
    obtain ⟨A, l, c, rfl, h1, h2, h3⟩ := bytes_trod Tryz.underlying26 Tryz.underlying5 c_u8 h
    exact ⟨_, l, rfl, ⟨A, c, rfl, h2, h1⟩, Nat.le_trans h2 h3⟩
theorem in_pr {n : Nat} {cs : List Value} {x : DataW H × List MemPlace} (h : DataW.trod enc Tryz.prog W 0 (fun _ => true) true n 23 cs = some x) : ∃ p : Pr, cs = prC p ∧ Lp p ∧ p.1.length ≤ Rows.uptoBulk x.1 ∧ p.2.length ≤ Rows.uptoBulk x.1 := by
  obtain ⟨y0, y1, m, hx, hl, h0, h1⟩ := trod_struct2 Tryz.underlying23 h
  simp only [c_str] at h0 h1
  obtain ⟨l0, e0, b0, u0⟩ := in_str h0
  obtain ⟨l1, e1, b1, u1⟩ := in_str h1
  rw [c_pr] at hl
  refine ⟨(l0, l1), ?_, ⟨b0, b1⟩, ?_⟩
  · have k0 := cut cs 0 1
    have k1 := cut cs 1 1
    rw [e0] at k0
    rw [show 0 + 1 = 1 from rfl, k1, e1, List.drop_of_length_le (show cs.length ≤ 1 + 1 by omega)] at k0
    exact k0
  · rw [hx]
    show _ ≤ Rows.uptoBulk (.agg [y0.1, y1.1]) ∧ _ ≤ Rows.uptoBulk (.agg [y0.1, y1.1])
    rw [Rows.uptoBulk, Rows.uptoBulkAll, Rows.uptoBulkAll, Rows.uptoBulkAll]
    constructor <;> (simp only; omega)
theorem fn_list {α : Type} {n : Nat} {p : Nat → α → Prop} (h : ∀ i, i < n → ∃ a, p i a) : ∃ l : List α, l.length = n ∧ ∀ i (hi : i < l.length), p i l[i] := by
  induction n with
  | zero => exact ⟨[], rfl, fun i hi => by simp at hi⟩
  | succ n ih =>
    obtain ⟨l, hl, hp⟩ := ih fun i hi => h i (by omega)
    obtain ⟨a, ha⟩ := h n (by omega)
    refine ⟨l ++ [a], by simp [hl], fun i hi => ?_⟩
    rw [List.length_append, List.length_singleton] at hi
    by_cases g : i < l.length
    · rw [List.getElem_append_left g]; exact hp i g
    · obtain rfl : i = l.length := by omega
      rw [List.getElem_append_right (Nat.le_refl _)]
      simp only [Nat.sub_self, List.getElem_cons_zero]
      rw [hl]; exact ha
theorem bulk_in {d : DataW H} {l : List (DataW H)} (h : d ∈ l) : Rows.uptoBulk d ≤ Rows.uptoBulkAll l := by
  induction l with
  | nil => cases h
  | cons x r ih =>
    rw [Rows.uptoBulkAll]
    rcases List.mem_cons.1 h with e | e
    · rw [e]; omega
    · have := ih e; omega
theorem bulk_agg {d : DataW H} {l : List (DataW H)} (h : d ∈ l) : Rows.uptoBulk d ≤ Rows.uptoBulk (.agg l) := by
  have := bulk_in h
  rw [Rows.uptoBulk]; omega
theorem c_key : Tryz.prog.cellsOf 53 = 32 := by kernel_rfl
theorem in_key {n : Nat} {cs : List Value} {x : DataW H × List MemPlace} (h : DataW.trod enc Tryz.prog W 0 (fun _ => true) true n 53 cs = some x) : ∃ k : List UInt8, k.length = 32 ∧ cs = bvs k := by
  obtain ⟨xs, m, _, hx, hl, hxl, hxs⟩ := DataW.trod_array Tryz.underlying53 h
  rw [c_key] at hl
  have each : ∀ i, i < 32 → ∃ b : UInt8, cs[i]? = some (bv b) := by
    intro i hi
    have g := hxs i (by omega)
    rw [c_u8, Nat.mul_one, List.getElem?_eq_getElem (by omega)] at g
    obtain ⟨v, h1, _, h2⟩ := DataW.trod_int Tryz.underlying5 g
    obtain ⟨b, rfl⟩ := u8_of_wf h2
    refine ⟨b, ?_⟩
    have e := congrArg (fun l : List Value => l[0]?) h1
    simp only [List.getElem?_cons_zero] at e
    rw [List.getElem?_take_of_lt (by omega), List.getElem?_drop, Nat.add_zero] at e
    exact e
  obtain ⟨k, hk, hp⟩ := fn_list each
  refine ⟨k, hk, List.ext_getElem? fun i => ?_⟩
  by_cases hi : i < k.length
  · rw [hp i hi, bvs_at hi]
  · rw [List.getElem?_eq_none (by omega), List.getElem?_eq_none (by rw [bvs_length]; omega)]
theorem c_tk : Tryz.prog.cellsOf 28 = 4 := by kernel_rfl
theorem in_tk {n : Nat} {cs : List Value} {x : DataW H × List MemPlace} (h : DataW.trod enc Tryz.prog W 0 (fun _ => true) true n 28 cs = some x) : ∃ (t : Tk) (b : Value), cs = tkC t b ∧ SlB W W.heap.size b t.b ∧ (Lp t.s ∧ t.b.length ≤ maxLen) := by
  obtain ⟨xs, m, _, hx, hl, hxl, hf⟩ := DataW.trod_struct Tryz.underlying28 h
  rw [c_tk] at hl
  match xs, hxl with
  | [y0_, y1_, y2_], _ =>
    have h0 : DataW.trod enc Tryz.prog W 0 (fun _ => true) true m 23 ((cs.drop 0).take (Tryz.prog.cellsOf 23)) = some y0_ := hf 0 _ rfl
    rw [c_pr] at h0
    obtain ⟨l0, e0, b0, u0, w0⟩ := in_pr h0
    have h1 : DataW.trod enc Tryz.prog W 0 (fun _ => true) true m 3 ((cs.drop 2).take (Tryz.prog.cellsOf 3)) = some y1_ := hf 1 _ rfl
    rw [c_int] at h1
    obtain ⟨l1, e1, b1⟩ := in_int h1
    have h2 : DataW.trod enc Tryz.prog W 0 (fun _ => true) true m 26 ((cs.drop 3).take (Tryz.prog.cellsOf 26)) = some y2_ := hf 2 _ rfl
    rw [c_byt] at h2
    obtain ⟨z2, l2, e2, s2, b2⟩ := in_byt (by rw [List.length_take, List.length_drop]; omega) h2
    have k0 := cut cs 0 2
    rw [e0] at k0
    have k1 := cut cs 2 1
    rw [e1] at k1
    have k2 := cut cs 3 1
    rw [e2] at k2
    have k : cs = cs.drop 0 := rfl
    rw [k0, show 0 + 2 = 2 from rfl] at k
    rw [k1, show 2 + 1 = 3 from rfl] at k
    rw [k2, show 3 + 1 = 4 from rfl] at k
    rw [show cs.drop 4 = [] from List.drop_of_length_le (by omega)] at k
    clear hf h h0 k0 e0 h1 k1 e1 h2 k2 e2
    exact ⟨⟨l0, l1, l2⟩, z2, k, s2, b0, b2⟩
theorem c_as : Tryz.prog.cellsOf 25 = 6 := by kernel_rfl
theorem in_as {n : Nat} {cs : List Value} {x : DataW H × List MemPlace} (h : DataW.trod enc Tryz.prog W 0 (fun _ => true) true n 25 cs = some x) : ∃ (q : As), cs = asC q ∧ (Lp q.c ∧ Lp q.s) := by
  obtain ⟨xs, m, _, hx, hl, hxl, hf⟩ := DataW.trod_struct Tryz.underlying25 h
  rw [c_as] at hl
  match xs, hxl with
  | [y0_, y1_, y2_, y3_], _ =>
    have h0 : DataW.trod enc Tryz.prog W 0 (fun _ => true) true m 23 ((cs.drop 0).take (Tryz.prog.cellsOf 23)) = some y0_ := hf 0 _ rfl
    rw [c_pr] at h0
    obtain ⟨l0, e0, b0, u0, w0⟩ := in_pr h0
    have h1 : DataW.trod enc Tryz.prog W 0 (fun _ => true) true m 23 ((cs.drop 2).take (Tryz.prog.cellsOf 23)) = some y1_ := hf 1 _ rfl
    rw [c_pr] at h1
    obtain ⟨l1, e1, b1, u1, w1⟩ := in_pr h1
    have h2 : DataW.trod enc Tryz.prog W 0 (fun _ => true) true m 3 ((cs.drop 4).take (Tryz.prog.cellsOf 3)) = some y2_ := hf 2 _ rfl
    rw [c_int] at h2
    obtain ⟨l2, e2, b2⟩ := in_int h2
    have h3 : DataW.trod enc Tryz.prog W 0 (fun _ => true) true m 3 ((cs.drop 5).take (Tryz.prog.cellsOf 3)) = some y3_ := hf 3 _ rfl
    rw [c_int] at h3
    obtain ⟨l3, e3, b3⟩ := in_int h3
    have k0 := cut cs 0 2
    rw [e0] at k0
    have k1 := cut cs 2 2
    rw [e1] at k1
    have k2 := cut cs 4 1
    rw [e2] at k2
    have k3 := cut cs 5 1
    rw [e3] at k3
    have k : cs = cs.drop 0 := rfl
    rw [k0, show 0 + 2 = 2 from rfl] at k
    rw [k1, show 2 + 2 = 4 from rfl] at k
    rw [k2, show 4 + 1 = 5 from rfl] at k
    rw [k3, show 5 + 1 = 6 from rfl] at k
    rw [show cs.drop 6 = [] from List.drop_of_length_le (by omega)] at k
    clear hf h h0 k0 e0 h1 k1 e1 h2 k2 e2 h3 k3 e3
    exact ⟨⟨l0, l1, l2, l3⟩, k, b0, b1⟩
theorem c_tg : Tryz.prog.cellsOf 30 = 9 := by kernel_rfl
theorem in_tg {n : Nat} {cs : List Value} {x : DataW H × List MemPlace} (h : DataW.trod enc Tryz.prog W 0 (fun _ => true) true n 30 cs = some x) : ∃ (q : Tg) (b a : Value), cs = tgC q b a ∧ SlB W W.heap.size b q.t.b ∧ SlB W W.heap.size a q.a ∧ ((Lp q.t.s ∧ q.t.b.length ≤ maxLen) ∧ q.a.length ≤ maxLen ∧ Lp q.s) := by
  obtain ⟨xs, m, _, hx, hl, hxl, hf⟩ := DataW.trod_struct Tryz.underlying30 h
  rw [c_tg] at hl
  match xs, hxl with
  | [y0_, y1_, y2_, y3_, y4_], _ =>
    have h0 : DataW.trod enc Tryz.prog W 0 (fun _ => true) true m 28 ((cs.drop 0).take (Tryz.prog.cellsOf 28)) = some y0_ := hf 0 _ rfl
    rw [c_tk] at h0
    obtain ⟨l0, z0, e0, s0, b0⟩ := in_tk h0
    have h1 : DataW.trod enc Tryz.prog W 0 (fun _ => true) true m 26 ((cs.drop 4).take (Tryz.prog.cellsOf 26)) = some y1_ := hf 1 _ rfl
    rw [c_byt] at h1
    obtain ⟨z1, l1, e1, s1, b1⟩ := in_byt (by rw [List.length_take, List.length_drop]; omega) h1
    have h2 : DataW.trod enc Tryz.prog W 0 (fun _ => true) true m 23 ((cs.drop 5).take (Tryz.prog.cellsOf 23)) = some y2_ := hf 2 _ rfl
    rw [c_pr] at h2
    obtain ⟨l2, e2, b2, u2, w2⟩ := in_pr h2
    have h3 : DataW.trod enc Tryz.prog W 0 (fun _ => true) true m 3 ((cs.drop 7).take (Tryz.prog.cellsOf 3)) = some y3_ := hf 3 _ rfl
    rw [c_int] at h3
    obtain ⟨l3, e3, b3⟩ := in_int h3
    have h4 : DataW.trod enc Tryz.prog W 0 (fun _ => true) true m 3 ((cs.drop 8).take (Tryz.prog.cellsOf 3)) = some y4_ := hf 4 _ rfl
    rw [c_int] at h4
    obtain ⟨l4, e4, b4⟩ := in_int h4
    have k0 := cut cs 0 4
    rw [e0] at k0
    have k1 := cut cs 4 1
    rw [e1] at k1
    have k2 := cut cs 5 2
    rw [e2] at k2
    have k3 := cut cs 7 1
    rw [e3] at k3
    have k4 := cut cs 8 1
    rw [e4] at k4
    have k : cs = cs.drop 0 := rfl
    rw [k0, show 0 + 4 = 4 from rfl] at k
    rw [k1, show 4 + 1 = 5 from rfl] at k
    rw [k2, show 5 + 2 = 7 from rfl] at k
    rw [k3, show 7 + 1 = 8 from rfl] at k
    rw [k4, show 8 + 1 = 9 from rfl] at k
    rw [show cs.drop 9 = [] from List.drop_of_length_le (by omega)] at k
    clear hf h h0 k0 e0 h1 k1 e1 h2 k2 e2 h3 k3 e3 h4 k4 e4
    exact ⟨⟨l0, l1, l2, l3, l4⟩, z0, z1, k, s0, s1, b0, b1, b2⟩
theorem c_re : Tryz.prog.cellsOf 32 = 7 := by kernel_rfl
theorem in_re {n : Nat} {cs : List Value} {x : DataW H × List MemPlace} (h : DataW.trod enc Tryz.prog W 0 (fun _ => true) true n 32 cs = some x) : ∃ (q : Re) (b a : Value), cs = reC q b a ∧ SlB W W.heap.size b q.t.b ∧ SlB W W.heap.size a q.b ∧ ((Lp q.t.s ∧ q.t.b.length ≤ maxLen) ∧ q.b.length ≤ maxLen ∧ Lp q.c) := by
  obtain ⟨xs, m, _, hx, hl, hxl, hf⟩ := DataW.trod_struct Tryz.underlying32 h
  rw [c_re] at hl
  match xs, hxl with
  | [y0_, y1_, y2_], _ =>
    have h0 : DataW.trod enc Tryz.prog W 0 (fun _ => true) true m 23 ((cs.drop 0).take (Tryz.prog.cellsOf 23)) = some y0_ := hf 0 _ rfl
    rw [c_pr] at h0
    obtain ⟨l0, e0, b0, u0, w0⟩ := in_pr h0
    have h1 : DataW.trod enc Tryz.prog W 0 (fun _ => true) true m 28 ((cs.drop 2).take (Tryz.prog.cellsOf 28)) = some y1_ := hf 1 _ rfl
    rw [c_tk] at h1
    obtain ⟨l1, z1, e1, s1, b1⟩ := in_tk h1
    have h2 : DataW.trod enc Tryz.prog W 0 (fun _ => true) true m 26 ((cs.drop 6).take (Tryz.prog.cellsOf 26)) = some y2_ := hf 2 _ rfl
    rw [c_byt] at h2
    obtain ⟨z2, l2, e2, s2, b2⟩ := in_byt (by rw [List.length_take, List.length_drop]; omega) h2
    have k0 := cut cs 0 2
    rw [e0] at k0
    have k1 := cut cs 2 4
    rw [e1] at k1
    have k2 := cut cs 6 1
    rw [e2] at k2
    have k : cs = cs.drop 0 := rfl
    rw [k0, show 0 + 2 = 2 from rfl] at k
    rw [k1, show 2 + 4 = 6 from rfl] at k
    rw [k2, show 6 + 1 = 7 from rfl] at k
    rw [show cs.drop 7 = [] from List.drop_of_length_le (by omega)] at k
    clear hf h h0 k0 e0 h1 k1 e1 h2 k2 e2
    exact ⟨⟨l0, l1, l2⟩, z1, z2, k, s1, s2, b1, b2, b0⟩
theorem c_ap : Tryz.prog.cellsOf 34 = 5 := by kernel_rfl
theorem in_ap {n : Nat} {cs : List Value} {x : DataW H × List MemPlace} (h : DataW.trod enc Tryz.prog W 0 (fun _ => true) true n 34 cs = some x) : ∃ (q : Ap) (b a : Value), cs = apC q b a ∧ SlB W W.heap.size b q.t.b ∧ SlB W W.heap.size a q.a ∧ ((Lp q.t.s ∧ q.t.b.length ≤ maxLen) ∧ q.a.length ≤ maxLen) := by
  obtain ⟨xs, m, _, hx, hl, hxl, hf⟩ := DataW.trod_struct Tryz.underlying34 h
  rw [c_ap] at hl
  match xs, hxl with
  | [y0_, y1_], _ =>
    have h0 : DataW.trod enc Tryz.prog W 0 (fun _ => true) true m 28 ((cs.drop 0).take (Tryz.prog.cellsOf 28)) = some y0_ := hf 0 _ rfl
    rw [c_tk] at h0
    obtain ⟨l0, z0, e0, s0, b0⟩ := in_tk h0
    have h1 : DataW.trod enc Tryz.prog W 0 (fun _ => true) true m 26 ((cs.drop 4).take (Tryz.prog.cellsOf 26)) = some y1_ := hf 1 _ rfl
    rw [c_byt] at h1
    obtain ⟨z1, l1, e1, s1, b1⟩ := in_byt (by rw [List.length_take, List.length_drop]; omega) h1
    have k0 := cut cs 0 4
    rw [e0] at k0
    have k1 := cut cs 4 1
    rw [e1] at k1
    have k : cs = cs.drop 0 := rfl
    rw [k0, show 0 + 4 = 4 from rfl] at k
    rw [k1, show 4 + 1 = 5 from rfl] at k
    rw [show cs.drop 5 = [] from List.drop_of_length_le (by omega)] at k
    clear hf h h0 k0 e0 h1 k1 e1
    exact ⟨⟨l0, l1⟩, z0, z1, k, s0, s1, b0, b1⟩
theorem c_er : Tryz.prog.cellsOf 35 = 1 := by kernel_rfl
theorem in_er {n : Nat} {cs : List Value} {x : DataW H × List MemPlace} (h : DataW.trod enc Tryz.prog W 0 (fun _ => true) true n 35 cs = some x) : ∃ i : Int, cs = [.int .i64 i] ∧ (Lit.int .i64 i).wf = true := by
  obtain ⟨i, h1, _, h2⟩ := DataW.trod_int Tryz.underlying35 h
  exact ⟨i, h1, h2⟩
theorem c_fa : Tryz.prog.cellsOf 37 = 2 := by kernel_rfl
theorem in_fa {n : Nat} {cs : List Value} {x : DataW H × List MemPlace} (h : DataW.trod enc Tryz.prog W 0 (fun _ => true) true n 37 cs = some x) : ∃ (q : Fa), cs = faC q := by
  obtain ⟨xs, m, _, hx, hl, hxl, hf⟩ := DataW.trod_struct Tryz.underlying37 h
  rw [c_fa] at hl
  match xs, hxl with
  | [y0_, y1_], _ =>
    have h0 : DataW.trod enc Tryz.prog W 0 (fun _ => true) true m 35 ((cs.drop 0).take (Tryz.prog.cellsOf 35)) = some y0_ := hf 0 _ rfl
    rw [c_er] at h0
    obtain ⟨l0, e0, b0⟩ := in_er h0
    have h1 : DataW.trod enc Tryz.prog W 0 (fun _ => true) true m 3 ((cs.drop 1).take (Tryz.prog.cellsOf 3)) = some y1_ := hf 1 _ rfl
    rw [c_int] at h1
    obtain ⟨l1, e1, b1⟩ := in_int h1
    have k0 := cut cs 0 1
    rw [e0] at k0
    have k1 := cut cs 1 1
    rw [e1] at k1
    have k : cs = cs.drop 0 := rfl
    rw [k0, show 0 + 1 = 1 from rfl] at k
    rw [k1, show 1 + 1 = 2 from rfl] at k
    rw [show cs.drop 2 = [] from List.drop_of_length_le (by omega)] at k
    clear hf h h0 k0 e0 h1 k1 e1
    exact ⟨⟨l0, l1⟩, k⟩
def Lm (m : Mg) : Prop := (Lp m.aq.c ∧ Lp m.aq.s) ∧ ((Lp m.tg.t.s ∧ m.tg.t.b.length ≤ maxLen) ∧ m.tg.a.length ≤ maxLen ∧ Lp m.tg.s) ∧ ((Lp m.re.t.s ∧ m.re.t.b.length ≤ maxLen) ∧ m.re.b.length ≤ maxLen ∧ Lp m.re.c) ∧ ((Lp m.ap.t.s ∧ m.ap.t.b.length ≤ maxLen) ∧ m.ap.a.length ≤ maxLen)
theorem c_mg : Tryz.prog.cellsOf 39 = 30 := by kernel_rfl
theorem in_mg {n : Nat} {cs : List Value} {x : DataW H × List MemPlace} (h : DataW.trod enc Tryz.prog W 0 (fun _ => true) true n 39 cs = some x) : ∃ m : Mg, MgV W W.heap.size cs.toArray m ∧ Lm m := by
  obtain ⟨xs, m, _, hx, hl, hxl, hf⟩ := DataW.trod_struct Tryz.underlying39 h
  rw [c_mg] at hl
  match xs, hxl with
  | [y0_, y1_, y2_, y3_, y4_, y5_], _ =>
    have h0 : DataW.trod enc Tryz.prog W 0 (fun _ => true) true m 3 ((cs.drop 0).take (Tryz.prog.cellsOf 3)) = some y0_ := hf 0 _ rfl
    rw [c_int] at h0
    obtain ⟨l0, e0, b0⟩ := in_int h0
    have h1 : DataW.trod enc Tryz.prog W 0 (fun _ => true) true m 25 ((cs.drop 1).take (Tryz.prog.cellsOf 25)) = some y1_ := hf 1 _ rfl
    rw [c_as] at h1
    obtain ⟨l1, e1, b1⟩ := in_as h1
    have h2 : DataW.trod enc Tryz.prog W 0 (fun _ => true) true m 30 ((cs.drop 7).take (Tryz.prog.cellsOf 30)) = some y2_ := hf 2 _ rfl
    rw [c_tg] at h2
    obtain ⟨l2, z2, y2, e2, s2, r2, b2⟩ := in_tg h2
    have h3 : DataW.trod enc Tryz.prog W 0 (fun _ => true) true m 32 ((cs.drop 16).take (Tryz.prog.cellsOf 32)) = some y3_ := hf 3 _ rfl
    rw [c_re] at h3
    obtain ⟨l3, z3, y3, e3, s3, r3, b3⟩ := in_re h3
    have h4 : DataW.trod enc Tryz.prog W 0 (fun _ => true) true m 34 ((cs.drop 23).take (Tryz.prog.cellsOf 34)) = some y4_ := hf 4 _ rfl
    rw [c_ap] at h4
    obtain ⟨l4, z4, y4, e4, s4, r4, b4⟩ := in_ap h4
    have h5 : DataW.trod enc Tryz.prog W 0 (fun _ => true) true m 37 ((cs.drop 28).take (Tryz.prog.cellsOf 37)) = some y5_ := hf 5 _ rfl
    rw [c_fa] at h5
    obtain ⟨l5, e5⟩ := in_fa h5
    have k0 := cut cs 0 1
    rw [e0] at k0
    have k1 := cut cs 1 6
    rw [e1] at k1
    have k2 := cut cs 7 9
    rw [e2] at k2
    have k3 := cut cs 16 7
    rw [e3] at k3
    have k4 := cut cs 23 5
    rw [e4] at k4
    have k5 := cut cs 28 2
    rw [e5] at k5
    have k : cs = cs.drop 0 := rfl
    rw [k0, show 0 + 1 = 1 from rfl] at k
    rw [k1, show 1 + 6 = 7 from rfl] at k
    rw [k2, show 7 + 9 = 16 from rfl] at k
    rw [k3, show 16 + 7 = 23 from rfl] at k
    rw [k4, show 23 + 5 = 28 from rfl] at k
    rw [k5, show 28 + 2 = 30 from rfl] at k
    rw [show cs.drop 30 = [] from List.drop_of_length_le (by omega)] at k
    clear hf h h0 k0 e0 h1 k1 e1 h2 k2 e2 h3 k3 e3 h4 k4 e4 h5 k5 e5
    refine ⟨⟨l0, l1, l2, l3, l4, l5⟩, ⟨(asC l1).toArray, (tgC l2 z2 y2).toArray, (reC l3 z3 y3).toArray, (apC l4 z4 y4).toArray, (faC l5).toArray, ?_, ⟨rfl, ⟨_, _, rfl, s2, r2⟩, ⟨_, _, rfl, s3, r3⟩, ⟨_, _, rfl, s4, r4⟩, rfl⟩⟩, b1, b2, b3, b4⟩
    rw [k]; simp [mgA]
theorem c_an : Tryz.prog.cellsOf 57 = 4 := by kernel_rfl
theorem in_an {n : Nat} {cs : List Value} {x : DataW H × List MemPlace} (h : DataW.trod enc Tryz.prog W 0 (fun _ => true) true n 57 cs = some x) : ∃ (a : An), cs = anC a ∧ Lp a.c ∧ a.c.1.length ≤ Rows.uptoBulk x.1 ∧ a.c.2.length ≤ Rows.uptoBulk x.1 := by
  obtain ⟨xs, m, _, hx, hl, hxl, hf⟩ := DataW.trod_struct Tryz.underlying57 h
  rw [c_an] at hl
  match xs, hxl with
  | [y0_, y1_, y2_], _ =>
    have h0 : DataW.trod enc Tryz.prog W 0 (fun _ => true) true m 23 ((cs.drop 0).take (Tryz.prog.cellsOf 23)) = some y0_ := hf 0 _ rfl
    rw [c_pr] at h0
    obtain ⟨l0, e0, b0, u0, w0⟩ := in_pr h0
    have h1 : DataW.trod enc Tryz.prog W 0 (fun _ => true) true m 3 ((cs.drop 2).take (Tryz.prog.cellsOf 3)) = some y1_ := hf 1 _ rfl
    rw [c_int] at h1
    obtain ⟨l1, e1, b1⟩ := in_int h1
    have h2 : DataW.trod enc Tryz.prog W 0 (fun _ => true) true m 3 ((cs.drop 3).take (Tryz.prog.cellsOf 3)) = some y2_ := hf 2 _ rfl
    rw [c_int] at h2
    obtain ⟨l2, e2, b2⟩ := in_int h2
    have k0 := cut cs 0 2
    rw [e0] at k0
    have k1 := cut cs 2 1
    rw [e1] at k1
    have k2 := cut cs 3 1
    rw [e2] at k2
    have k : cs = cs.drop 0 := rfl
    rw [k0, show 0 + 2 = 2 from rfl] at k
    rw [k1, show 2 + 1 = 3 from rfl] at k
    rw [k2, show 3 + 1 = 4 from rfl] at k
    rw [show cs.drop 4 = [] from List.drop_of_length_le (by omega)] at k
    clear hf h h0 k0 e0 h1 k1 e1 h2 k2 e2
    have g := bulk_agg (d := y0_.1) (l := [y0_.1, y1_.1, y2_.1]) (by simp)
    rw [hx]
    exact ⟨⟨l0, l1, l2⟩, k, b0, Nat.le_trans u0 g, Nat.le_trans w0 g⟩
theorem c_pt : Tryz.prog.cellsOf 55 = 37 := by kernel_rfl
theorem in_pt {n : Nat} {cs : List Value} {x : DataW H × List MemPlace} (h : DataW.trod enc Tryz.prog W 0 (fun _ => true) true n 55 cs = some x) : ∃ (p : Pt), p.ss.length = 32 ∧ cs = ptC p ∧ Lp p.c ∧ p.tr.length ≤ maxLen ∧ p.c.1.length ≤ Rows.uptoBulk x.1 ∧ p.c.2.length ≤ Rows.uptoBulk x.1 ∧ p.tr.length ≤ Rows.uptoBulk x.1 := by
  obtain ⟨xs, m, _, hx, hl, hxl, hf⟩ := DataW.trod_struct Tryz.underlying55 h
  rw [c_pt] at hl
  match xs, hxl with
  | [y0_, y1_, y2_, y3_, y4_], _ =>
    have h0 : DataW.trod enc Tryz.prog W 0 (fun _ => true) true m 23 ((cs.drop 0).take (Tryz.prog.cellsOf 23)) = some y0_ := hf 0 _ rfl
    rw [c_pr] at h0
    obtain ⟨l0, e0, b0, u0, w0⟩ := in_pr h0
    have h1 : DataW.trod enc Tryz.prog W 0 (fun _ => true) true m 53 ((cs.drop 2).take (Tryz.prog.cellsOf 53)) = some y1_ := hf 1 _ rfl
    rw [c_key] at h1
    obtain ⟨l1, hk1, e1⟩ := in_key h1
    have h2 : DataW.trod enc Tryz.prog W 0 (fun _ => true) true m 9 ((cs.drop 34).take (Tryz.prog.cellsOf 9)) = some y2_ := hf 2 _ rfl
    rw [c_str] at h2
    obtain ⟨l2, e2, b2, u2⟩ := in_str h2
    have h3 : DataW.trod enc Tryz.prog W 0 (fun _ => true) true m 3 ((cs.drop 35).take (Tryz.prog.cellsOf 3)) = some y3_ := hf 3 _ rfl
    rw [c_int] at h3
    obtain ⟨l3, e3, b3⟩ := in_int h3
    have h4 : DataW.trod enc Tryz.prog W 0 (fun _ => true) true m 3 ((cs.drop 36).take (Tryz.prog.cellsOf 3)) = some y4_ := hf 4 _ rfl
    rw [c_int] at h4
    obtain ⟨l4, e4, b4⟩ := in_int h4
    have k0 := cut cs 0 2
    rw [e0] at k0
    have k1 := cut cs 2 32
    rw [e1] at k1
    have k2 := cut cs 34 1
    rw [e2] at k2
    have k3 := cut cs 35 1
    rw [e3] at k3
    have k4 := cut cs 36 1
    rw [e4] at k4
    have k : cs = cs.drop 0 := rfl
    rw [k0, show 0 + 2 = 2 from rfl] at k
    rw [k1, show 2 + 32 = 34 from rfl] at k
    rw [k2, show 34 + 1 = 35 from rfl] at k
    rw [k3, show 35 + 1 = 36 from rfl] at k
    rw [k4, show 36 + 1 = 37 from rfl] at k
    rw [show cs.drop 37 = [] from List.drop_of_length_le (by omega)] at k
    clear hf h h0 k0 e0 h1 k1 e1 h2 k2 e2 h3 k3 e3 h4 k4 e4
    have g := bulk_agg (d := y0_.1) (l := [y0_.1, y1_.1, y2_.1, y3_.1, y4_.1]) (by simp)
    have g2 := bulk_agg (d := y2_.1) (l := [y0_.1, y1_.1, y2_.1, y3_.1, y4_.1]) (by simp)
    rw [hx]
    exact ⟨⟨l0, l1, l2, l3, l4⟩, hk1, k, b0, b2, Nat.le_trans u0 g, Nat.le_trans w0 g, Nat.le_trans u2 g2⟩
theorem c_rp : Tryz.prog.cellsOf 59 = 37 := by kernel_rfl
theorem in_rp {n : Nat} {cs : List Value} {x : DataW H × List MemPlace} (h : DataW.trod enc Tryz.prog W 0 (fun _ => true) true n 59 cs = some x) : ∃ (p : Rp), p.ss.length = 32 ∧ cs = rpC p ∧ Lp p.s ∧ p.s.1.length ≤ Rows.uptoBulk x.1 ∧ p.s.2.length ≤ Rows.uptoBulk x.1 := by
  obtain ⟨xs, m, _, hx, hl, hxl, hf⟩ := DataW.trod_struct Tryz.underlying59 h
  rw [c_rp] at hl
  match xs, hxl with
  | [y0_, y1_, y2_, y3_, y4_], _ =>
    have h0 : DataW.trod enc Tryz.prog W 0 (fun _ => true) true m 53 ((cs.drop 0).take (Tryz.prog.cellsOf 53)) = some y0_ := hf 0 _ rfl
    rw [c_key] at h0
    obtain ⟨l0, hk0, e0⟩ := in_key h0
    have h1 : DataW.trod enc Tryz.prog W 0 (fun _ => true) true m 23 ((cs.drop 32).take (Tryz.prog.cellsOf 23)) = some y1_ := hf 1 _ rfl
    rw [c_pr] at h1
    obtain ⟨l1, e1, b1, u1, w1⟩ := in_pr h1
    have h2 : DataW.trod enc Tryz.prog W 0 (fun _ => true) true m 3 ((cs.drop 34).take (Tryz.prog.cellsOf 3)) = some y2_ := hf 2 _ rfl
    rw [c_int] at h2
    obtain ⟨l2, e2, b2⟩ := in_int h2
    have h3 : DataW.trod enc Tryz.prog W 0 (fun _ => true) true m 3 ((cs.drop 35).take (Tryz.prog.cellsOf 3)) = some y3_ := hf 3 _ rfl
    rw [c_int] at h3
    obtain ⟨l3, e3, b3⟩ := in_int h3
    have h4 : DataW.trod enc Tryz.prog W 0 (fun _ => true) true m 3 ((cs.drop 36).take (Tryz.prog.cellsOf 3)) = some y4_ := hf 4 _ rfl
    rw [c_int] at h4
    obtain ⟨l4, e4, b4⟩ := in_int h4
    have k0 := cut cs 0 32
    rw [e0] at k0
    have k1 := cut cs 32 2
    rw [e1] at k1
    have k2 := cut cs 34 1
    rw [e2] at k2
    have k3 := cut cs 35 1
    rw [e3] at k3
    have k4 := cut cs 36 1
    rw [e4] at k4
    have k : cs = cs.drop 0 := rfl
    rw [k0, show 0 + 32 = 32 from rfl] at k
    rw [k1, show 32 + 2 = 34 from rfl] at k
    rw [k2, show 34 + 1 = 35 from rfl] at k
    rw [k3, show 35 + 1 = 36 from rfl] at k
    rw [k4, show 36 + 1 = 37 from rfl] at k
    rw [show cs.drop 37 = [] from List.drop_of_length_le (by omega)] at k
    clear hf h h0 k0 e0 h1 k1 e1 h2 k2 e2 h3 k3 e3 h4 k4 e4
    have g := bulk_agg (d := y1_.1) (l := [y0_.1, y1_.1, y2_.1, y3_.1, y4_.1]) (by simp)
    rw [hx]
    exact ⟨⟨l0, l1, l2, l3, l4⟩, hk0, k, b1, Nat.le_trans u1 g, Nat.le_trans w1 g⟩
theorem open_st {P : Program} {t : TypeId} {fs : Array Field} (ht : P.underlying t = some (.struct fs)) {r : Reach} {b0 : Nat} {v : Value} {d : DataW H} {ps : List MemPlace} (hv : Value.okWide P W r b0 t v) (h : DataW.Trod enc P W 0 (fun _ => true) true t v d ps) :
    ∃ cs : Array Value, ∃ n : Nat, v = Value.agg cs ∧ DataW.trod enc P W 0 (fun _ => true) true n t cs.toList = some (d, ps) := by
  obtain ⟨cs, hcs, _⟩ := okWide_struct ht hv
  obtain ⟨n, hf⟩ := h
  rw [hcs] at hf
  exact ⟨cs, n, hcs, hf⟩
theorem upto_of {ds : List (DataW H)} {d : DataW H} {n : Nat} (hk : Rows.uptoSmall H ds = true) (h : d ∈ ds) (hn : n ≤ Rows.uptoBulk d) : n ≤ 1048576 := by
  have h1 := bulk_in h
  have h2 : Rows.uptoBulkAll ds ≤ 1048576 := of_decide_eq_true hk
  omega
end
end Go.Proofs.YteeabfplnaknfaaGreat.Open
end

section
set_option linter.unusedVariables false
set_option linter.unusedSimpArgs false
namespace Go.Proofs.YteeabfplnaknfaaGreat.Mc
open Go.RowKit Go.Proofs.YteeabfplnaknfaaGreat.Mem Go.Proofs.YteeabfplnaknfaaGreat.DerP Go.Proofs.YteeabfplnaknfaaGreat.Ms

theorem rdec8_any (b : L) (A : Option Addr) (c : Nat) (w : World) (hr : Rd w w.heap.size A (bvs b)) (hc : b.length ≤ c) (hl : b.length ≤ 5000) :
    Calls Tryz.prog 12 #[.slice A b.length c] w fun e w' => ∃ ds, e = .returned (.tuple #[.agg ds, .int .i64 (mgI b)]) ∧ MgV w' w.heap.size ds (mgG b) ∧ Below w.heap.size w w' := by
  cases b with
  | nil => exact rdec8_nil A c w hr hc hl
  | cons t r =>
    by_cases m1 : t = 106
    · exact rdec8_a t r A c w hr hc hl m1
    by_cases m2 : t = 108
    · exact rdec8_t t r A c w hr hc hl m2 m1
    by_cases m3 : t = 107
    · exact rdec8_r t r A c w hr hc hl m3 m1 m2
    by_cases m4 : t = 110
    · exact rdec8_p t r A c w hr hc hl m4 m1 m2 m3
    by_cases m5 : t = 126
    · exact rdec8_f t r A c w hr hc hl m5 m1 m2 m3 m4
    exact rdec8_none t r A c w hr hc hl m1 m2 m3 m4 m5
theorem mask16 (n : Int) : bits .and .i64 n 65535 = n % 65536 := by
  have h127 : (BitVec.ofInt 64 65535).toNat = 2 ^ 16 - 1 := by decide
  have key : (BitVec.ofInt 64 n &&& BitVec.ofInt 64 65535).toNat = (n % ((2 ^ 64 : Nat) : Int)).toNat % 2 ^ 16 := by
    rw [BitVec.toNat_and, BitVec.toNat_ofInt, h127, Nat.and_two_pow_sub_one_eq_mod]
  show IntKind.i64.wrap ((BitVec.ofInt 64 n &&& BitVec.ofInt 64 65535).toNat : Nat) = n % 65536
  rw [key, IntKind.wrap_i64]
  omega
theorem cut_run (A : Option Addr) (m cc a : Nat) (ha : a ≤ cc) (w : World) :
    (Instr.slice 26 (.slice A m cc) none (some (.int .i64 (a : Int))) none).run Tryz.prog w = .ok (.slice A a cc) w := by
  have ht := Tryz.underlying26
  have e : A.map (fun x => x.add 0) = A := by cases A <;> simp [Addr.add]
  simp [Instr.slice, run_underlying ht, Instr.sliceBounds, run_sliceBound, Result.andThen, ha, e]
theorem rd_pre {w : World} {B : Nat} {A : Option Addr} {l : L} (h : Rd w B A (bvs l)) (k : Nat) : Rd w B A (bvs (l.take k)) := by
  rcases h with h | ⟨b, o, h1, h2, h3⟩
  · left; cases l with
    | nil => simp [bvs]
    | cons a t => simp [bvs] at h
  · refine .inr ⟨b, o, h1, h2, fun i u hu => h3 i u ?_⟩
    rw [← hu]
    have hi : i < (l.take k).length := by
      rcases Nat.lt_or_ge i (l.take k).length with g | g
      · exact g
      · rw [List.getElem?_eq_none (by rw [bvs_length]; exact g)] at hu; cases hu
    have hi' := hi
    rw [List.length_take] at hi'
    rw [bvs_at hi, bvs_at (show i < l.length by omega)]
    simp
theorem own_sl8 {w : World} {base : Nat} {t : TypeId} {v : Value} {l : L} (h : w.ownsRow base t 1 v l.length (bvs l)) : ∃ A c, v = .slice A l.length c ∧ l.length ≤ c ∧ Rd w w.heap.size A (bvs l) := by
  have h0 := h
  rcases h.2 with ⟨hv, hn⟩ | ⟨g, cap, cur, hv, _, _, hc, _⟩
  · have hl : l.length = 0 := by have := hn; omega
    exact ⟨none, 0, by rw [hv, hl], by omega, .inl (by have : l = [] := List.eq_nil_of_length_eq_zero hl; rw [this]; rfl)⟩
  · subst hv
    exact ⟨_, _, rfl, hc, Rd.of_own h0⟩
set_option maxRecDepth 10000 in
theorem app8 {w : World} {ops : Array Oper} {rest : List Oper} {o : Oper} {a : Act} {Q : Exit → Act → World → Prop} (hgd : o.guard = none) (s x : Operand) (ho : o.op = .call { callee := .builtin .append, args := #[s, x], argTypes := #[26, 26] })
    (base : Nat) (v : Value) (K : L) (hs : a.eval s = v) (hown : w.ownsRow base 5 1 v K.length (bvs K)) (B : Nat) (A : Option Addr) (m c : Nat) (R : L) (hx : a.eval x = .slice A m c) (hm : m = R.length) (hr : Rd w B A (bvs R))
    (hl : K.length + R.length ≤ 100000) (hb : base ≤ w.heap.size)
    (h : ∀ A' c' w', w'.ownsRow base 5 1 (.slice A' (K ++ R).length c') (K ++ R).length (bvs (K ++ R)) → (K ++ R).length ≤ c' → Rd w' w'.heap.size A' (bvs (K ++ R)) → Below base w w' → wpList Tryz.prog ops Q rest (a.put o.dst (.slice A' (K ++ R).length c')) w') : wpList Tryz.prog ops Q (o :: rest) a w := by
  obtain ⟨i0, hi0, hz0, hs0, hb0⟩ : ∃ i, Tryz.prog.info? 5 = some i ∧ i.zero = some (.int .u8 0) ∧ i.size = 1 ∧ i.bytes = 1 := ⟨_, rfl, rfl, rfl, rfl⟩
  refine wpList_append_rd w hgd s x 26 ho base 5 i0 _ 1 Tryz.underlying26 hi0 hz0 hs0 hb0 rfl v K.length (bvs K) hs hown B A m c (bvs R) hx (by rw [bvs_length]; exact hm) hr (bvs_one _) (by unfold maxLen; omega) (by omega) hb ?_
  intro v' w' h1 h2 _
  have e1 : K.length + m = (K ++ R).length := by rw [List.length_append, hm]
  have e2 : bvs K ++ bvs R = bvs (K ++ R) := by simp [bvs]
  rw [e1, e2] at h1
  obtain ⟨A', c', rfl, hc, hrd⟩ := own_sl8 h1
  exact h A' c' w' h1 hc hrd ((Below.refl _ _).grown h2 hb (fun k hk => (World.ownsRow.lt hown k hk).1))
theorem empty8 (w : World) : (w.alloc (.cells #[] 5)).ownsRow w.heap.size 5 1 (.slice (some ⟨w.heap.size, 0, none⟩) 0 0) ([] : L).length (bvs []) := World.ownsRow_lit (base := w.heap.size) (e := 5) (size := 1) w #[] 0 (Nat.le_refl _) (by decide) (by rfl)
theorem mg_take {b : L} {m : Mg} (h : mgD b = some m) {k : Nat} (hk : k < b.length) : mgD (b.take k) = none := by
  cases h2 : mgD (b.take k) with
  | none => rfl
  | some n =>
    have h3 : mgD (b.take k ++ b.drop k) = some m := by rw [List.take_append_drop]; exact h
    have h4 := mg_only h2 h3
    have h5 : (b.drop k).length = 0 := by rw [h4]; rfl
    rw [List.length_drop] at h5
    omega
theorem mg_more {b r : L} {m : Mg} (h : mgD b = some m) (hr : 0 < r.length) : mgD (b ++ r) = none := by
  cases h2 : mgD (b ++ r) with
  | none => rfl
  | some n =>
    have h4 := mg_only h h2
    rw [h4] at hr
    simp at hr
theorem mgA_zero (k : Int) (pa pt pr pp pf : Array Value) : (mgA k pa pt pr pp pf)[0]? = some (.int .i64 k) := by simp [mgA]
set_option maxHeartbeats 12800000 in
set_option maxRecDepth 10000 in
theorem one_ (A : Option Addr) (b : L) (c : Nat) (cut : Int) (A2 : Option Addr) (r : L) (c2 : Nat) (w : World) (hr : Rd w w.heap.size A (bvs b)) (hc : b.length ≤ c) (hr2 : Rd w w.heap.size A2 (bvs r)) :
    Calls Tryz.prog 6 #[.slice A b.length c, .int .i64 cut, .slice A2 r.length c2] w fun e w' => e = .returned (.bool true) ∧ Below w.heap.size w w' := by
  by_cases q0 : b.length < 1
  · have t1 : decide ((b.length : Int) < 1) = true := decide_eq_true (by omega)
    clear q0
    go_enter Tryz.func6, Tryz.ntmps6
    go_wp2
    go_ret
    exact ⟨rfl, Below.refl _ _⟩
  have t1 : decide ((b.length : Int) < 1) = false := decide_eq_false (by omega)
  by_cases q1 : 2500 < b.length
  · have t2 : decide ((2500 : Int) < (b.length : Int)) = true := decide_eq_true (by omega)
    clear q1
    go_enter Tryz.func6, Tryz.ntmps6
    go_wp2
    go_ret
    exact ⟨rfl, Below.refl _ _⟩
  have t2 : decide ((2500 : Int) < (b.length : Int)) = false := decide_eq_false (by omega)
  by_cases q2 : r.length < 1
  · have t3 : decide ((r.length : Int) < 1) = true := decide_eq_true (by omega)
    clear q2
    go_enter Tryz.func6, Tryz.ntmps6
    go_wp2
    go_ret
    exact ⟨rfl, Below.refl _ _⟩
  have t3 : decide ((r.length : Int) < 1) = false := decide_eq_false (by omega)
  by_cases q3 : 50 < r.length
  · have t4 : decide ((50 : Int) < (r.length : Int)) = true := decide_eq_true (by omega)
    clear q3
    go_enter Tryz.func6, Tryz.ntmps6
    go_wp2
    go_ret
    exact ⟨rfl, Below.refl _ _⟩
  have t4 : decide ((50 : Int) < (r.length : Int)) = false := decide_eq_false (by omega)
  have HB := Lib.hid hr; have HR := Lib.hid hr2; have HG := Lib.hid (Below.refl w.heap.size w)
  have D1 := Lib.hid (fun A c w1 (h : Rd w1 w1.heap.size A (bvs b)) => dec_any A b c w1 h)
  have l1 : 0 < b.length := by omega
  have l2 : b.length ≤ 2500 := by omega
  have l3 : 0 < r.length := by omega
  have l4 : r.length ≤ 50 := by omega
  have HL1 := Lib.hid l1; have HL2 := Lib.hid l2; have HL3 := Lib.hid l3; have HL4 := Lib.hid l4; have HC := Lib.hid hc
  clear q0 q1 q2 q3 hr hr2
  cases hd : mgD b with
  | none =>
    rw [show mgG b = mg0 by rw [mgG, hd]; rfl, show mgI b = 2 by rw [mgI, hd]; rfl] at D1
    have D2 := Lib.hid (fun A c w1 (h : Rd w1 w1.heap.size A (bvs b)) (hc : b.length ≤ c) => rdec8_any b A c w1 h hc (by omega))
    rw [show mgG b = mg0 by rw [mgG, hd]; rfl, show mgI b = 2 by rw [mgI, hd]; rfl] at D2
    clear hd l1 l2 l3 l4 hc
    go_enter Tryz.func6, Tryz.ntmps6
    go_wp2_with (first
      | (go_at_call 11; refine Calls.mono (D1.out _ _ _ HB.out) ?_; rintro e d1w ⟨d1, rfl, ho, hb⟩; clear D1; have d1S := Lib.hid ho.size; have d1O := Lib.hid ho.one; have d1I := Lib.hid (mg_info.trans (congrArg some d1S.out.symm)); have ho2 := ho; obtain ⟨pa, pt, pr, pp, pf, ed1, _⟩ := ho2; have MK := Lib.hid (show d1[0]? = some (.int .i64 0) by rw [ed1]; exact mgA_zero _ _ _ _ _ _); clear ed1; clear ho; replace HB := Lib.hid (rd_on HB.out hb); replace HR := Lib.hid (rd_on HR.out hb); replace HG := Lib.hid (HG.out.trans (hb.mono HG.out.size)); clear hb)
      | (refine store_new (by rfl) 39 (.tmp 7) (.tmp 38) (by rfl) 39 rfl d1 (by rfl) (by rfl) (by rw [d1S.out]; rfl) d1I.out d1O.out ?_; rintro V1 hV hb; have HX := Lib.hid hV; clear hV; replace HB := Lib.hid (rd_on HB.out hb); replace HR := Lib.hid (rd_on HR.out hb); replace HG := Lib.hid (HG.out.trans (hb.mono HG.out.size)); clear hb)
      | (go_at_call 12; refine Calls.mono (D2.out _ _ _ HB.out HC.out) ?_; rintro e wx ⟨d2, rfl, hv, hb⟩; clear D2; have d2S := Lib.hid (show d2.size = 30 by obtain ⟨pa, pt, pr, pp, pf, h1, h2⟩ := hv; rw [h1]; exact h2.size _); have d2O := Lib.hid (show d2.all (·.oneCell') = true by obtain ⟨pa, pt, pr, pp, pf, h1, h2⟩ := hv; rw [h1]; exact h2.one _); have d2I := Lib.hid (mg_info.trans (congrArg some d2S.out.symm)); clear hv; replace HX := Lib.hid (HX.out.below hb); replace HB := Lib.hid (rd_on HB.out hb); replace HR := Lib.hid (rd_on HR.out hb); replace HG := Lib.hid (HG.out.trans (hb.mono HG.out.size)); clear hb)
      | (refine store_new (by rfl) 39 (.tmp 9) (.tmp 45) (by rfl) 39 rfl d2 (by rfl) (by rfl) (by rw [d2S.out]; rfl) d2I.out d2O.out ?_; rintro V2 hV hb; clear hV; replace HX := Lib.hid (HX.out.below hb); replace HB := Lib.hid (rd_on HB.out hb); replace HR := Lib.hid (rd_on HR.out hb); replace HG := Lib.hid (HG.out.trans (hb.mono HG.out.size)); clear hb; have k0 := (HX.out.cell 0).trans MK.out)
      | (go_at_call 15; refine Calls.mono (known_any _) ?_; rintro e wx ⟨rfl, hb⟩; replace HG := Lib.hid (HG.out.trans (hb.mono HG.out.size)); clear hb)
      | fail)
    go_ret
    exact ⟨rfl, HG.out⟩
  | some m =>
    rw [show mgG b = m by rw [mgG, hd]; rfl, show mgI b = 0 by rw [mgI, hd]; rfl] at D1
    have hm : mgO m = some b := mg_iff.1 hd
    have hsm : mSm m := by
      have e : m = mgQ b := by
        have h := mg_same b
        rw [hd] at h
        by_cases h2 : mgO (mgQ b) = some b
        · rw [if_pos h2] at h; injection h
        · rw [if_neg h2] at h; cases h
      rw [e]; exact mgQ_sm (by omega)
    have E1 := Lib.hid (fun cs w1 (h : MgV w1 w1.heap.size cs m) => enc_any cs m w1 h hsm)
    rw [hm] at E1
    obtain ⟨a, ha⟩ : ∃ a : Nat, cut % 65536 = (a : Int) := ⟨(cut % 65536).toNat, by omega⟩
    have hand : bits .and .i64 cut 65535 = (a : Int) := (mask16 cut).trans ha
    have hk : a % b.length < b.length := Nat.mod_lt _ l1
    have e2 : (b.take (a % b.length)).length = a % b.length := by rw [List.length_take]; omega
    have hrem : (a : Int).tmod (b.length : Int) = ((b.take (a % b.length)).length : Int) := by rw [e2, ← Int.ofNat_tmod]
    have n2 : mgD (b.take (a % b.length)) = none := mg_take hd hk
    have n3 : mgD (b ++ r) = none := mg_more hd l3
    have hpre := fun (A : Option Addr) (w1 : World) (h : Rd w1 w1.heap.size A (bvs b)) => rd_pre h (a % b.length)
    have hle : (b.take (a % b.length)).length ≤ b.length := by omega
    obtain ⟨p, ep⟩ : ∃ p, p = b.take (a % b.length) := ⟨_, rfl⟩
    rw [← ep] at hrem n2 hpre hle
    have D2 := Lib.hid (fun A c w1 (h : Rd w1 w1.heap.size A (bvs p)) => dec_any A p c w1 h)
    rw [show mgG p = mg0 by rw [mgG, n2]; rfl, show mgI p = 2 by rw [mgI, n2]; rfl] at D2
    obtain ⟨t, et⟩ : ∃ t, t = b ++ r := ⟨_, rfl⟩
    rw [← et] at n3
    have D3 := Lib.hid (fun A c w1 (h : Rd w1 w1.heap.size A (bvs t)) => dec_any A t c w1 h)
    rw [show mgG t = mg0 by rw [mgG, n3]; rfl, show mgI t = 2 by rw [mgI, n3]; rfl] at D3
    have HP := Lib.hid hpre; have ET := Lib.hid et
    have hcut := cut_run A b.length c p.length (by omega)
    have hn0 : ¬ (b.length : Int) = 0 := by omega
    clear hd hm hsm ha hk e2 n2 n3 hpre ep l2 l3 l4 hc et
    go_enter Tryz.func6, Tryz.ntmps6
    go_wp2_with (first
      | (go_at_call 11; refine Calls.mono (D1.out _ _ _ HB.out) ?_; rintro e d1w ⟨d1, rfl, ho, hb⟩; clear D1; have d1S := Lib.hid ho.size; have d1O := Lib.hid ho.one; have d1I := Lib.hid (mg_info.trans (congrArg some d1S.out.symm)); have HM := Lib.hid ho.toV; clear ho; replace HB := Lib.hid (rd_on HB.out hb); replace HR := Lib.hid (rd_on HR.out hb); replace HG := Lib.hid (HG.out.trans (hb.mono HG.out.size)); clear hb)
      | (refine store_new (by rfl) 39 (.tmp 7) (.tmp 38) (by rfl) 39 rfl d1 (by rfl) (by rfl) (by rw [d1S.out]; rfl) d1I.out d1O.out ?_; rintro V1 hV hb; have HX := Lib.hid hV; clear hV; replace HB := Lib.hid (rd_on HB.out hb); replace HR := Lib.hid (rd_on HR.out hb); replace HM := Lib.hid ((HM.out.keep hb).more hb.size); replace HG := Lib.hid (HG.out.trans (hb.mono HG.out.size)); clear hb)
      | (refine load_g (by rfl) 39 (.tmp 7) (by rfl) (d1w.heap.size) 0 (by rfl) d1 _ (range_blk HX.out) Tryz.underlying39 (by rfl) d1I.out ?_)
      | (go_at_call 9; refine Calls.mono (E1.out _ _ HM.out) ?_; rintro e wx ⟨⟨v, i, rfl, hn, hsm⟩, hb⟩; obtain ⟨rfl, gx, cx, rfl, hgx, hcx, hrx⟩ := hsm b rfl; clear E1 hn hsm hgx hcx HM HX; replace HB := Lib.hid (rd_on HB.out hb); replace HR := Lib.hid (rd_on HR.out hb); replace HG := Lib.hid (HG.out.trans (hb.mono HG.out.size)); clear hb; have RX := Lib.hid hrx; clear hrx; have HP2 := Lib.hid (HP.out _ _ HB.out))
      | (go_at_call 11; refine Calls.mono (D2.out _ _ _ HP2.out) ?_; rintro e d2w ⟨d2, rfl, ho, hb⟩; clear D2; have d2S := Lib.hid ho.size; have d2O := Lib.hid ho.one; have d2I := Lib.hid (mg_info.trans (congrArg some d2S.out.symm)); clear HP2; clear ho; replace HB := Lib.hid (rd_on HB.out hb); replace HR := Lib.hid (rd_on HR.out hb); replace RX := Lib.hid (rd_on RX.out hb); replace HG := Lib.hid (HG.out.trans (hb.mono HG.out.size)); clear hb)
      | (refine store_new (by rfl) 39 (.tmp 13) (.tmp 75) (by rfl) 39 rfl d2 (by rfl) (by rfl) (by rw [d2S.out]; rfl) d2I.out d2O.out ?_; rintro V2 hV hb; clear hV; replace HB := Lib.hid (rd_on HB.out hb); replace HR := Lib.hid (rd_on HR.out hb); replace RX := Lib.hid (rd_on RX.out hb); replace HG := Lib.hid (HG.out.trans (hb.mono HG.out.size)); clear hb)
      | (at_builtin; refine app8 (by rfl) (.tmp 78) (.tmp 79) (by rfl) V2.heap.size _ [] (by rfl) (empty8 V2) V2.heap.size _ b.length _ b (by rfl) (by rfl) (HB.out.alloc (Nat.le_refl _) _) (by have := HL2.out; simp; omega) (by simp) ?_; intro A4 c4 w4 ho4 hc4 hr4 hb; have O4 := Lib.hid ho4; have HS4 := Lib.hid (show V2.heap.size ≤ w4.heap.size from Nat.le_trans (by simp) hb.size); replace hb := ((Below.refl _ V2).alloc (Nat.le_refl _) _).trans hb; have HG2 := HG; clear ho4 hc4 hr4; replace HB := Lib.hid (HB.out.below hb); replace HR := Lib.hid (HR.out.below hb); replace RX := Lib.hid (RX.out.below hb); replace HG := Lib.hid (HG.out.trans (hb.mono HG2.out.size)); clear hb)
      | (at_builtin; refine app8 (by rfl) (.tmp 80) (.tmp 81) (by rfl) V2.heap.size _ ([] ++ b) (by rfl) O4.out V2.heap.size _ r.length _ r (by rfl) (by rfl) HR.out (by have := HL2.out; have := HL4.out; simp; omega) HS4.out ?_; intro A5 c5 w5 ho5 hc5 hr5 hb; have hs : V2.heap.size ≤ w5.heap.size := Nat.le_trans HS4.out hb.size; clear ho5 hc5 O4; rw [List.nil_append, ← ET.out] at hr5 ⊢; have R5 := Lib.hid hr5; clear hr5; replace HB := Lib.hid ((HB.out.below hb).more hs); replace HR := Lib.hid ((HR.out.below hb).more hs); replace RX := Lib.hid ((RX.out.below hb).more hs); replace HG := Lib.hid (HG.out.trans (hb.mono HG2.out.size)); clear hb hs)
      | (go_at_call 11; refine Calls.mono (D3.out _ _ _ R5.out) ?_; rintro e d3w ⟨d3, rfl, ho, hb⟩; clear D3; have d3S := Lib.hid ho.size; have d3O := Lib.hid ho.one; have d3I := Lib.hid (mg_info.trans (congrArg some d3S.out.symm)); clear R5; clear ho; replace HB := Lib.hid (rd_on HB.out hb); replace HR := Lib.hid (rd_on HR.out hb); replace RX := Lib.hid (rd_on RX.out hb); replace HG := Lib.hid (HG.out.trans (hb.mono HG.out.size)); clear hb)
      | (refine store_new (by rfl) 39 (.tmp 15) (.tmp 84) (by rfl) 39 rfl d3 (by rfl) (by rfl) (by rw [d3S.out]; rfl) d3I.out d3O.out ?_; rintro V3 hV hb; clear hV; replace HB := Lib.hid (rd_on HB.out hb); replace HR := Lib.hid (rd_on HR.out hb); replace RX := Lib.hid (rd_on RX.out hb); replace HG := Lib.hid (HG.out.trans (hb.mono HG.out.size)); clear hb; have cv1 := run_bytes_str (P := Tryz.prog) V3 26 5 Tryz.underlying26 Tryz.underlying5 RX.out b.length cx rfl 9 Tryz.underlying9; have cv2 := run_bytes_str (P := Tryz.prog) V3 26 5 Tryz.underlying26 Tryz.underlying5 HB.out b.length c rfl 9 Tryz.underlying9)
      | (go_at_call 15; refine Calls.mono (known_any _) ?_; rintro e wx ⟨rfl, hb⟩; replace HG := Lib.hid (HG.out.trans (hb.mono HG.out.size)); clear hb)
      | fail)
    go_ret
    exact ⟨rfl, HG.out⟩
end Go.Proofs.YteeabfplnaknfaaGreat.Mc
end
