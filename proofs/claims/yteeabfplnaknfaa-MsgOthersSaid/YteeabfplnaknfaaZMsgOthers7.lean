import Derived.Deep.RegionHeld3
import Derived.Deep.MidRow
import Derived.Lib.MinMax
import Derived.Deep.LoopGhost
import Derived.Deep.Cut
import Derived.Deep.CutRange
import Derived.Deep.CutBlock
import Derived.Test.YteeabfplnaknfaaZMsgOthers1
import Derived.Test.YteeabfplnaknfaaZMsgOthers2
import Derived.Test.YteeabfplnaknfaaZMsgOthers3
import Derived.Test.YteeabfplnaknfaaZMsgOthers4
import Derived.Test.YteeabfplnaknfaaZMsgOthers5
section
set_option linter.unusedVariables false
set_option linter.unusedSimpArgs false
namespace Go.Proofs.Yteeabfplnaknfaa.Ms
open Go.RowKit Go.Proofs.Yteeabfplnaknfaa.Mem Go.Proofs.Yteeabfplnaknfaa.DerP Go.Proofs.Yteeabfplnaknfaa.DerR

def EncR (w : World) (o : Option L) (e : Ending) (w' : World) : Prop :=
  (∃ v i, e = .returned (.tuple #[v, .int .i64 i]) ∧ (o = none → v = .slice none 0 0 ∧ i = 1) ∧ ∀ l, o = some l → i = 0 ∧ ∃ g c, v = .slice (some ⟨g, 0, none⟩) l.length c ∧ w.heap.size ≤ g ∧ l.length ≤ c ∧ Rd w' w'.heap.size (some ⟨g, 0, none⟩) (bvs l)) ∧ Below w.heap.size w w'
theorem range_blk {w : World} {g : Nat} {t : TypeId} {cs : Array Value} (h : Blk w g t cs) : w.rangeAt g 0 cs.toList := fun j v hv => by
  rw [Nat.zero_add, h.cell]; simpa using hv
theorem load_cells {P : Program} {ops : Array Oper} {rest : List Oper} {op : Oper} {a : Act} {w : World} {Q : Exit → Act → World → Prop} (hgd : op.guard = none) (ty : TypeId) (x : Operand) (ho : op.op = .load ty x)
    (g o : Nat) (hx : a.eval x = .pointer (some ⟨g, o, none⟩)) (cs : Array Value) (d : TypeDesc) (hc : w.rangeAt g o cs.toList)
    (hu : P.underlying ty = some d) (hd : d.isRow = true) (hi : (P.info? ty).map (·.size) = some cs.size)
    (h : wpList P ops Q rest (a.put op.dst (.agg cs)) w) : wpList P ops Q (op :: rest) a w :=
  wpList_load_mid hgd ty x ho g o hx cs.toList d hc hu hd (by rw [Array.length_toList]; exact hi) (by simpa using h)
theorem enc_none {w w' : World} (h : Below w.heap.size w w') : EncR w none (.returned (.tuple #[.slice none 0 0, .int .i64 1])) w' :=
  ⟨⟨_, _, rfl, (fun _ => ⟨rfl, rfl⟩), (fun l e => by cases e)⟩, h⟩
theorem enc_some {w w' : World} {l : L} {g c : Nat} (h : Gives w l (.returned (.slice (some ⟨g, 0, none⟩) l.length c)) w') : EncR w (some l) (.returned (.tuple #[.slice (some ⟨g, 0, none⟩) l.length c, .int .i64 0])) w' := by
  obtain ⟨⟨g', c', h1, h2, h3, h4⟩, h5⟩ := h
  injection h1 with h1
  injection h1 with h1 h6 h7
  injection h1 with h1
  injection h1 with h1
  subst h1; subst h7
  exact ⟨⟨_, _, rfl, (fun e => by cases e), (fun l' e => by injection e with e; subst e; exact ⟨rfl, g, c, rfl, h2, h3, h4⟩)⟩, h5⟩
end Go.Proofs.Yteeabfplnaknfaa.Ms
end

section
set_option linter.unusedVariables false
set_option linter.unusedSimpArgs false
namespace Go.Proofs.Yteeabfplnaknfaa.Ms
open Go.RowKit Go.Proofs.Yteeabfplnaknfaa.Mem Go.Proofs.Yteeabfplnaknfaa.DerP

def FitT (l : L) (k : Nat) : Prop := ∀ i (h : i < l.length), i < k → 32 ≤ l[i].toNat ∧ l[i].toNat ≤ 126
theorem txt_all {l : L} (h : FitT l l.length) : txtB l = true := by
  rw [txtB, List.all_eq_true]
  intro x hx
  obtain ⟨i, hi, rfl⟩ := List.getElem_of_mem hx
  have := h i hi hi
  simp [this.1, this.2]
theorem txt_bad {l : L} {k : Nat} (hk : k < l.length) (h : l[k].toNat < 32 ∨ 126 < l[k].toNat) : txtB l = false := by
  rw [txtB, List.all_eq_false]
  refine ⟨l[k], List.getElem_mem hk, ?_⟩
  simp; omega
theorem pt_cells {p : Pt} (hk : p.ss.length = 32) {g : Nat} {t : TypeId} {w' : World} (h : Blk w' g t (ptC p).toArray) : w'.cell? ⟨g, 0, none⟩ = some (.string ⟨p.c.1.toArray⟩) ∧ w'.cell? ⟨g, 1, none⟩ = some (.string ⟨p.c.2.toArray⟩) ∧ w'.cell? ⟨g, 34, none⟩ = some (.string ⟨p.tr.toArray⟩) ∧ w'.cell? ⟨g, 35, none⟩ = some (.int .i64 p.st) ∧ w'.cell? ⟨g, 36, none⟩ = some (.int .i64 p.en) := by
  have hl : (bvs p.ss).length = 32 := by rw [bvs_length]; exact hk
  have key : ∀ j, w'.cell? ⟨g, 34 + j, none⟩ = ([.string ⟨p.tr.toArray⟩, .int .i64 p.st, .int .i64 p.en] : List Value)[j]? := fun j => by
    rw [h.cell, List.getElem?_toArray, ptC, List.getElem?_append_right (by simp [prC]; omega), List.getElem?_append_right (by simp [prC]; omega)]
    congr 1
    simp [prC, hl]; omega
  refine ⟨by rw [h.cell]; rfl, by rw [h.cell]; rfl, key 0, key 1, key 2⟩
theorem pt_size {p : Pt} (hk : p.ss.length = 32) : (ptC p).toArray.size = 37 := by
  simp [ptC, prC, bvs_length, hk]
attribute [local go_sem] mk_at List.getElem_cons_zero List.getElem_cons_succ
end Go.Proofs.Yteeabfplnaknfaa.Ms
end

section
set_option linter.unusedVariables false
set_option linter.unusedSimpArgs false
namespace Go.Proofs.Yteeabfplnaknfaa.Ms
open Go.RowKit Go.Proofs.Yteeabfplnaknfaa.Mem Go.Proofs.Yteeabfplnaknfaa.DerP Go.Proofs.Yteeabfplnaknfaa.DerR

theorem pt_key {p : Pt} {g : Nat} {t : TypeId} {w' : World} (h : Blk w' g t (ptC p).toArray) : Rd w' w'.heap.size (some ⟨g, 2, none⟩) (bvs p.ss) := by
  refine .inr ⟨g, 2, rfl, h.lt, fun i u hu => ?_⟩
  have hi : i < (bvs p.ss).length := (List.getElem?_eq_some_iff.1 hu).1
  rw [h.cell, List.getElem?_toArray, ptC, List.getElem?_append_right (by simp [prC]), List.getElem?_append_left (by simp [prC]; exact hi)]
  simpa [prC] using hu
end Go.Proofs.Yteeabfplnaknfaa.Ms
end

section
set_option linter.unusedVariables false
set_option linter.unusedSimpArgs false
namespace Go.Proofs.Yteeabfplnaknfaa.Ms
open Go.RowKit Go.Proofs.Yteeabfplnaknfaa.Mem Go.Proofs.Yteeabfplnaknfaa.DerP Go.Proofs.Yteeabfplnaknfaa.DerR

theorem g_same {a b c : World} {row : Option Nat} (h : a.grownBy b row) (k : b.grownBy c row) : a.grownBy c row :=
  ⟨k.os.trans h.os, k.tape.trans h.tape, k.output.trans h.output, Nat.le_trans h.size k.size, fun i hi hn => (k.block i (Nat.lt_of_lt_of_le hi h.size) hn).trans (h.block i hi hn)⟩
theorem g_new {a b c : World} {row : Option Nat} {q : Nat} (h : a.grownBy b row) (k : b.grownBy c (some q)) (hq : a.heap.size ≤ q) : a.grownBy c row :=
  ⟨k.os.trans h.os, k.tape.trans h.tape, k.output.trans h.output, Nat.le_trans h.size k.size, fun i hi hn => (k.block i (Nat.lt_of_lt_of_le hi h.size) (fun e => by injection e with e; omega)).trans (h.block i hi hn)⟩
theorem results_cell {P : Program} {fn : Func} {tmps : Array Value} {w : World} {v : Value} (t : Nat) (ty : TypeId) (a : Addr) (hres : fn.results = #[.cell t ty]) (ht : tmps.getD t undef = .pointer (some a)) (hl : (loadVar ty a).run P w = .ok v w) :
    (results fn tmps).run P w = .ok v w := by
  have ht' : tmps[t]?.getD undef = .pointer (some a) := by simpa using ht
  simp [results, hres, ht', asAddr, hl]
theorem load_blk {P : Program} {w : World} {g : Nat} {t ty : TypeId} {cs : Array Value} {d : TypeDesc} (h : Blk w g t cs) (hu : P.underlying ty = some d) (hd : d.isRow = true) (hi : (P.info? ty).map (·.size) = some cs.size) :
    (loadVar ty ⟨g, 0, none⟩).run P w = .ok (.agg cs) w := by
  have hc : w.rangeAt g 0 cs.toList := fun j v hv => by rw [Nat.zero_add, h.cell]; simpa using hv
  have := run_loadVar_mid (P := P) w g 0 ty cs.toList d hc hu hd (by simpa using hi)
  simpa using this
end Go.Proofs.Yteeabfplnaknfaa.Ms
end

section
set_option linter.unusedVariables false
set_option linter.unusedSimpArgs false
namespace Go.Proofs.Yteeabfplnaknfaa.Ms
open Go.RowKit Go.Proofs.Yteeabfplnaknfaa.Mem Go.Proofs.Yteeabfplnaknfaa.DerP Go.Proofs.Yteeabfplnaknfaa.DerR

theorem intC_len (c : Option L) : ((intC c).2.getD []).length ≤ (c.getD []).length := by
  unfold intC
  cases h : bodyC 2 c with
  | none => simp
  | some b =>
    simp only
    cases numL b with
    | none => simp
    | some n => exact (body_len 2 c).2
end Go.Proofs.Yteeabfplnaknfaa.Ms
end

section
set_option linter.unusedVariables false
set_option linter.unusedSimpArgs false
namespace Go.Proofs.Yteeabfplnaknfaa.Ms
open Go.RowKit Go.Proofs.Yteeabfplnaknfaa.Mem Go.Proofs.Yteeabfplnaknfaa.DerP Go.Proofs.Yteeabfplnaknfaa.DerR

theorem below_put {B : Nat} {w w2 : World} {g j : Nat} {u : Value} (h : Below B w w2) (hg : B ≤ g) : Below B w (w2.setCell ⟨g, j, none⟩ u) :=
  ⟨h.os, h.tape, h.output, by simpa [World.setCell] using h.size, fun i hi => (Below.heap_setCell w2 _ u i (by simp only; omega)).trans (h.block i hi)⟩
theorem results_pair {P : Program} {fn : Func} {tmps : Array Value} {w : World} {v u : Value} (t q : Nat) (ty : TypeId) (a : Addr) (hres : fn.results = #[.cell t ty, .tmp q]) (ht : tmps.getD t undef = .pointer (some a)) (hl : (loadVar ty a).run P w = .ok v w) (hq : tmps.getD q undef = u) :
    (results fn tmps).run P w = .ok (.tuple #[v, u]) w := by
  have ht' : tmps[t]?.getD undef = .pointer (some a) := by simpa using ht
  have hq' : tmps[q]?.getD undef = u := by simpa using hq
  simp [results, hres, ht', hq', asAddr, hl]
end Go.Proofs.Yteeabfplnaknfaa.Ms
end

section
set_option linter.unusedVariables false
set_option linter.unusedSimpArgs false
namespace Go.Proofs.Yteeabfplnaknfaa.Mc
open Go.RowKit Go.Proofs.Yteeabfplnaknfaa.Mem Go.Proofs.Yteeabfplnaknfaa.DerP Go.Proofs.Yteeabfplnaknfaa.Ms

theorem isprinc_any (p : Pr) (w : World) (h1 : p.1.length ≤ 1000000000) (h2 : p.2.length ≤ 1000000000) : Calls Try.prog 42 #[prV p] w fun e w' => e = .returned (.bool (prB p)) ∧ Below w.heap.size w w' := Nm.isprinc_any p.1 p.2 w h1 h2
theorem within_any (n a b : Int) (w : World) : Calls Try.prog 64 #[.int .i64 n, .int .i64 a, .int .i64 b] w fun e w' => e = .returned (.bool (inB n a b)) ∧ w = w' := by
  cases h1 : decide (a ≤ n) with
  | false =>
    go_enter Try.func64, Try.ntmps64
    go_wp2
    go_ret
    exact ⟨by rw [inB, h1]; rfl, rfl⟩
  | true =>
    go_enter Try.func64, Try.ntmps64
    go_wp2
    go_ret
    exact ⟨by rw [inB, h1]; rfl, rfl⟩
theorem time_any (n : Int) (w : World) : Calls Try.prog 44 #[.int .i64 n] w fun e w' => e = .returned (.bool (tmB n)) ∧ w = w' := by
  have c1 := within_any n 0 1073741824 w
  rw [show inB n 0 1073741824 = tmB n from rfl] at c1
  go_enter Try.func44, Try.ntmps44
  go_wp2_with (go_at_call 64; refine Calls.mono c1 ?_; rintro e w1 ⟨rfl, rfl⟩)
  go_ret
  exact ⟨rfl, rfl⟩
theorem nonce_any (n : Int) (w : World) : Calls Try.prog 61 #[.int .i64 n] w fun e w' => e = .returned (.bool (tmB n)) ∧ w = w' := by
  have c1 := within_any n 0 1073741824 w
  rw [show inB n 0 1073741824 = tmB n from rfl] at c1
  go_enter Try.func61, Try.ntmps61
  go_wp2_with (go_at_call 64; refine Calls.mono c1 ?_; rintro e w1 ⟨rfl, rfl⟩)
  go_ret
  exact ⟨rfl, rfl⟩
theorem isblob_any (b : L) (A : Option Addr) (c : Nat) (w : World) : Calls Try.prog 63 #[.slice A b.length c] w fun e w' => e = .returned (.bool (blobB b)) ∧ w = w' := by
  have c1 := within_any (b.length : Int) 1 800 w
  rw [blob_in] at c1
  go_enter Try.func63, Try.ntmps63
  go_wp2_with (go_at_call 64; refine Calls.mono c1 ?_; rintro e w1 ⟨rfl, rfl⟩)
  go_ret
  exact ⟨rfl, rfl⟩
set_option maxHeartbeats 3200000 in
theorem isticket_any (t : Tk) (A : Option Addr) (c : Nat) (w : World) (hs : pSm t.s) : Calls Try.prog 62 #[.agg #[.string ⟨t.s.1.toArray⟩, .string ⟨t.s.2.toArray⟩, .int .i64 t.k, .slice A t.b.length c]] w fun e w' => e = .returned (.bool (tkB t)) ∧ Below w.heap.size w w' := by
  have hb0 := (Below.refl w.heap.size w).alloc (Nat.le_refl _) (.cells #[.string ⟨t.s.1.toArray⟩, .string ⟨t.s.2.toArray⟩, .int .i64 t.k, .slice A t.b.length c] 28)
  have HB := Lib.hid hb0
  have HK := Lib.hid (Blk.new w 28 #[.string ⟨t.s.1.toArray⟩, .string ⟨t.s.2.toArray⟩, .int .i64 t.k, .slice A t.b.length c])
  clear hb0
  have T1 := Lib.hid (fun w1 => isprinc_any t.s w1 hs.1 hs.2)
  have T2 := Lib.hid (fun w1 => within_any t.k 1 255 w1)
  have T3 := Lib.hid (fun w1 => isblob_any t.b A c w1)
  cases h1 : prB t.s with
  | false =>
    rw [h1] at T1
    have E := Lib.hid (show tkB t = false by rw [tkB, h1]; rfl)
    clear h1
    go_enter Try.func62, Try.ntmps62
    go_wp2_with (go_at_call 42; (with_reducible refine Calls.mono (T1.out _) ?_); rintro e w1 ⟨rfl, hb⟩; replace HK := Lib.hid (HK.out.below hb); replace HB := Lib.hid (HB.out.trans (hb.mono HB.out.size)); clear hb T1; (try clear k0 k1 k2 k3); have k0 := HK.out.cell 0; have k1 := HK.out.cell 1; have k2 := HK.out.cell 2; have k3 := HK.out.cell 3; simp only [List.getElem?_toArray, List.getElem?_cons_zero, List.getElem?_cons_succ] at k0 k1 k2 k3)
    go_ret
    exact ⟨by rw [E.out]; rfl, HB.out⟩
  | true =>
    rw [h1] at T1
    cases h2 : inB t.k 1 255 with
    | false =>
      rw [h2] at T2
      have E := Lib.hid (show tkB t = false by rw [tkB, h1, h2]; rfl)
      clear h1 h2
      go_enter Try.func62, Try.ntmps62
      go_wp2_with (first
        | (go_at_call 42; (with_reducible refine Calls.mono (T1.out _) ?_); rintro e w1 ⟨rfl, hb⟩; replace HK := Lib.hid (HK.out.below hb); replace HB := Lib.hid (HB.out.trans (hb.mono HB.out.size)); clear hb T1; (try clear k0 k1 k2 k3); have k0 := HK.out.cell 0; have k1 := HK.out.cell 1; have k2 := HK.out.cell 2; have k3 := HK.out.cell 3; simp only [List.getElem?_toArray, List.getElem?_cons_zero, List.getElem?_cons_succ] at k0 k1 k2 k3)
        | (go_at_call 64; (with_reducible refine Calls.mono (T2.out _) ?_); rintro e w2 ⟨rfl, hw⟩; subst hw; clear T2))
      go_ret
      exact ⟨by rw [E.out]; rfl, HB.out⟩
    | true =>
      rw [h2] at T2
      have E := Lib.hid (show tkB t = blobB t.b by rw [tkB, h1, h2]; rfl)
      clear h1 h2
      go_enter Try.func62, Try.ntmps62
      go_wp2_with (first
        | (go_at_call 42; (with_reducible refine Calls.mono (T1.out _) ?_); rintro e w1 ⟨rfl, hb⟩; replace HK := Lib.hid (HK.out.below hb); replace HB := Lib.hid (HB.out.trans (hb.mono HB.out.size)); clear hb T1; (try clear k0 k1 k2 k3); have k0 := HK.out.cell 0; have k1 := HK.out.cell 1; have k2 := HK.out.cell 2; have k3 := HK.out.cell 3; simp only [List.getElem?_toArray, List.getElem?_cons_zero, List.getElem?_cons_succ] at k0 k1 k2 k3)
        | (go_at_call 64; (with_reducible refine Calls.mono (T2.out _) ?_); rintro e w2 ⟨rfl, hw⟩; subst hw; clear T2)
        | (go_at_call 63; (with_reducible refine Calls.mono (T3.out _) ?_); rintro e w3 ⟨rfl, hw⟩; subst hw; clear T3))
      go_ret
      exact ⟨by rw [E.out]; rfl, HB.out⟩
set_option maxHeartbeats 3200000 in
theorem isas_any (q : As) (w : World) (hs : pSm q.c) (hs2 : pSm q.s) : Calls Try.prog 32 #[.agg #[.string ⟨q.c.1.toArray⟩, .string ⟨q.c.2.toArray⟩, .string ⟨q.s.1.toArray⟩, .string ⟨q.s.2.toArray⟩, .int .i64 q.t, .int .i64 q.no]] w fun e w' => e = .returned (.bool (asB q)) ∧ Below w.heap.size w w' := by
  have hb0 := (Below.refl w.heap.size w).alloc (Nat.le_refl _) (.cells #[.string ⟨q.c.1.toArray⟩, .string ⟨q.c.2.toArray⟩, .string ⟨q.s.1.toArray⟩, .string ⟨q.s.2.toArray⟩, .int .i64 q.t, .int .i64 q.no] 25)
  have HB := Lib.hid hb0
  have HK := Lib.hid (Blk.new w 25 #[.string ⟨q.c.1.toArray⟩, .string ⟨q.c.2.toArray⟩, .string ⟨q.s.1.toArray⟩, .string ⟨q.s.2.toArray⟩, .int .i64 q.t, .int .i64 q.no])
  clear hb0
  have T1 := Lib.hid (fun w1 => isprinc_any q.c w1 hs.1 hs.2)
  have T2 := Lib.hid (fun w1 => isprinc_any q.s w1 hs2.1 hs2.2)
  have T3 := Lib.hid (fun w1 => time_any q.t w1)
  have T4 := Lib.hid (fun w1 => nonce_any q.no w1)
  cases h1 : prB q.c with
  | false =>
    rw [h1] at T1
    have E := Lib.hid (show asB q = false by rw [asB, h1]; rfl)
    clear h1
    go_enter Try.func32, Try.ntmps32
    go_wp2_with (go_at_call 42; (with_reducible refine Calls.mono (T1.out _) ?_); rintro e w1 ⟨rfl, hb⟩; replace HK := Lib.hid (HK.out.below hb); replace HB := Lib.hid (HB.out.trans (hb.mono HB.out.size)); clear hb T1; (try clear k0 k1 k2 k3 k4 k5); have k0 := HK.out.cell 0; have k1 := HK.out.cell 1; have k2 := HK.out.cell 2; have k3 := HK.out.cell 3; have k4 := HK.out.cell 4; have k5 := HK.out.cell 5; simp only [List.getElem?_toArray, List.getElem?_cons_zero, List.getElem?_cons_succ] at k0 k1 k2 k3 k4 k5)
    go_ret
    exact ⟨by rw [E.out]; rfl, HB.out⟩
  | true =>
    rw [h1] at T1
    cases h2 : prB q.s with
    | false =>
      rw [h2] at T2
      have E := Lib.hid (show asB q = false by rw [asB, h1, h2]; rfl)
      clear h1 h2
      go_enter Try.func32, Try.ntmps32
      go_wp2_with (first
        | (go_at_call 42; (with_reducible refine Calls.mono (T1.out _) ?_); rintro e w1 ⟨rfl, hb⟩; replace HK := Lib.hid (HK.out.below hb); replace HB := Lib.hid (HB.out.trans (hb.mono HB.out.size)); clear hb T1; (try clear k0 k1 k2 k3 k4 k5); have k0 := HK.out.cell 0; have k1 := HK.out.cell 1; have k2 := HK.out.cell 2; have k3 := HK.out.cell 3; have k4 := HK.out.cell 4; have k5 := HK.out.cell 5; simp only [List.getElem?_toArray, List.getElem?_cons_zero, List.getElem?_cons_succ] at k0 k1 k2 k3 k4 k5)
        | (go_at_call 42; (with_reducible refine Calls.mono (T2.out _) ?_); rintro e w2 ⟨rfl, hb⟩; replace HK := Lib.hid (HK.out.below hb); replace HB := Lib.hid (HB.out.trans (hb.mono HB.out.size)); clear hb T2; (try clear k0 k1 k2 k3 k4 k5); have k0 := HK.out.cell 0; have k1 := HK.out.cell 1; have k2 := HK.out.cell 2; have k3 := HK.out.cell 3; have k4 := HK.out.cell 4; have k5 := HK.out.cell 5; simp only [List.getElem?_toArray, List.getElem?_cons_zero, List.getElem?_cons_succ] at k0 k1 k2 k3 k4 k5))
      go_ret
      exact ⟨by rw [E.out]; rfl, HB.out⟩
    | true =>
      rw [h2] at T2
      cases h3 : tmB q.t with
      | false =>
        rw [h3] at T3
        have E := Lib.hid (show asB q = false by rw [asB, h1, h2, h3]; rfl)
        clear h1 h2 h3
        go_enter Try.func32, Try.ntmps32
        go_wp2_with (first
          | (go_at_call 42; (with_reducible refine Calls.mono (T1.out _) ?_); rintro e w1 ⟨rfl, hb⟩; replace HK := Lib.hid (HK.out.below hb); replace HB := Lib.hid (HB.out.trans (hb.mono HB.out.size)); clear hb T1; (try clear k0 k1 k2 k3 k4 k5); have k0 := HK.out.cell 0; have k1 := HK.out.cell 1; have k2 := HK.out.cell 2; have k3 := HK.out.cell 3; have k4 := HK.out.cell 4; have k5 := HK.out.cell 5; simp only [List.getElem?_toArray, List.getElem?_cons_zero, List.getElem?_cons_succ] at k0 k1 k2 k3 k4 k5)
          | (go_at_call 42; (with_reducible refine Calls.mono (T2.out _) ?_); rintro e w2 ⟨rfl, hb⟩; replace HK := Lib.hid (HK.out.below hb); replace HB := Lib.hid (HB.out.trans (hb.mono HB.out.size)); clear hb T2; (try clear k0 k1 k2 k3 k4 k5); have k0 := HK.out.cell 0; have k1 := HK.out.cell 1; have k2 := HK.out.cell 2; have k3 := HK.out.cell 3; have k4 := HK.out.cell 4; have k5 := HK.out.cell 5; simp only [List.getElem?_toArray, List.getElem?_cons_zero, List.getElem?_cons_succ] at k0 k1 k2 k3 k4 k5)
          | (go_at_call 44; (with_reducible refine Calls.mono (T3.out _) ?_); rintro e w3 ⟨rfl, hw⟩; subst hw; clear T3))
        go_ret
        exact ⟨by rw [E.out]; rfl, HB.out⟩
      | true =>
        rw [h3] at T3
        have E := Lib.hid (show asB q = tmB q.no by rw [asB, h1, h2, h3]; rfl)
        clear h1 h2 h3
        go_enter Try.func32, Try.ntmps32
        go_wp2_with (first
          | (go_at_call 42; (with_reducible refine Calls.mono (T1.out _) ?_); rintro e w1 ⟨rfl, hb⟩; replace HK := Lib.hid (HK.out.below hb); replace HB := Lib.hid (HB.out.trans (hb.mono HB.out.size)); clear hb T1; (try clear k0 k1 k2 k3 k4 k5); have k0 := HK.out.cell 0; have k1 := HK.out.cell 1; have k2 := HK.out.cell 2; have k3 := HK.out.cell 3; have k4 := HK.out.cell 4; have k5 := HK.out.cell 5; simp only [List.getElem?_toArray, List.getElem?_cons_zero, List.getElem?_cons_succ] at k0 k1 k2 k3 k4 k5)
          | (go_at_call 42; (with_reducible refine Calls.mono (T2.out _) ?_); rintro e w2 ⟨rfl, hb⟩; replace HK := Lib.hid (HK.out.below hb); replace HB := Lib.hid (HB.out.trans (hb.mono HB.out.size)); clear hb T2; (try clear k0 k1 k2 k3 k4 k5); have k0 := HK.out.cell 0; have k1 := HK.out.cell 1; have k2 := HK.out.cell 2; have k3 := HK.out.cell 3; have k4 := HK.out.cell 4; have k5 := HK.out.cell 5; simp only [List.getElem?_toArray, List.getElem?_cons_zero, List.getElem?_cons_succ] at k0 k1 k2 k3 k4 k5)
          | (go_at_call 44; (with_reducible refine Calls.mono (T3.out _) ?_); rintro e w3 ⟨rfl, hw⟩; subst hw; clear T3)
          | (go_at_call 61; (with_reducible refine Calls.mono (T4.out _) ?_); rintro e w4 ⟨rfl, hw⟩; subst hw; clear T4))
        go_ret
        exact ⟨by rw [E.out]; rfl, HB.out⟩
set_option maxHeartbeats 3200000 in
theorem istgs_any (q : Tg) (A1 A2 : Option Addr) (c1 c2 : Nat) (w : World) (hs : pSm q.t.s) (hs2 : pSm q.s) : Calls Try.prog 33 #[.agg #[.string ⟨q.t.s.1.toArray⟩, .string ⟨q.t.s.2.toArray⟩, .int .i64 q.t.k, .slice A1 q.t.b.length c1, .slice A2 q.a.length c2, .string ⟨q.s.1.toArray⟩, .string ⟨q.s.2.toArray⟩, .int .i64 q.u, .int .i64 q.no]] w fun e w' => e = .returned (.bool (tgB q)) ∧ Below w.heap.size w w' := by
  have hb0 := (Below.refl w.heap.size w).alloc (Nat.le_refl _) (.cells #[.string ⟨q.t.s.1.toArray⟩, .string ⟨q.t.s.2.toArray⟩, .int .i64 q.t.k, .slice A1 q.t.b.length c1, .slice A2 q.a.length c2, .string ⟨q.s.1.toArray⟩, .string ⟨q.s.2.toArray⟩, .int .i64 q.u, .int .i64 q.no] 30)
  have HB := Lib.hid hb0
  have HK := Lib.hid (Blk.new w 30 #[.string ⟨q.t.s.1.toArray⟩, .string ⟨q.t.s.2.toArray⟩, .int .i64 q.t.k, .slice A1 q.t.b.length c1, .slice A2 q.a.length c2, .string ⟨q.s.1.toArray⟩, .string ⟨q.s.2.toArray⟩, .int .i64 q.u, .int .i64 q.no])
  clear hb0
  have T1 := Lib.hid (fun w1 => isticket_any q.t A1 c1 w1 hs)
  have T2 := Lib.hid (fun w1 => isblob_any q.a A2 c2 w1)
  have T3 := Lib.hid (fun w1 => isprinc_any q.s w1 hs2.1 hs2.2)
  have T4 := Lib.hid (fun w1 => time_any q.u w1)
  have T5 := Lib.hid (fun w1 => nonce_any q.no w1)
  cases h1 : tkB q.t with
  | false =>
    rw [h1] at T1
    have E := Lib.hid (show tgB q = false by rw [tgB, h1]; rfl)
    clear h1
    go_enter Try.func33, Try.ntmps33
    go_wp2_with (go_at_call 62; (with_reducible refine Calls.mono (T1.out _) ?_); rintro e w1 ⟨rfl, hb⟩; replace HK := Lib.hid (HK.out.below hb); replace HB := Lib.hid (HB.out.trans (hb.mono HB.out.size)); clear hb T1; (try clear k0 k1 k2 k3 k4 k5 k6 k7 k8); have k0 := HK.out.cell 0; have k1 := HK.out.cell 1; have k2 := HK.out.cell 2; have k3 := HK.out.cell 3; have k4 := HK.out.cell 4; have k5 := HK.out.cell 5; have k6 := HK.out.cell 6; have k7 := HK.out.cell 7; have k8 := HK.out.cell 8; simp only [List.getElem?_toArray, List.getElem?_cons_zero, List.getElem?_cons_succ] at k0 k1 k2 k3 k4 k5 k6 k7 k8)
    go_ret
    exact ⟨by rw [E.out]; rfl, HB.out⟩
  | true =>
    rw [h1] at T1
    cases h2 : blobB q.a with
    | false =>
      rw [h2] at T2
      have E := Lib.hid (show tgB q = false by rw [tgB, h1, h2]; rfl)
      clear h1 h2
      go_enter Try.func33, Try.ntmps33
      go_wp2_with (first
        | (go_at_call 62; (with_reducible refine Calls.mono (T1.out _) ?_); rintro e w1 ⟨rfl, hb⟩; replace HK := Lib.hid (HK.out.below hb); replace HB := Lib.hid (HB.out.trans (hb.mono HB.out.size)); clear hb T1; (try clear k0 k1 k2 k3 k4 k5 k6 k7 k8); have k0 := HK.out.cell 0; have k1 := HK.out.cell 1; have k2 := HK.out.cell 2; have k3 := HK.out.cell 3; have k4 := HK.out.cell 4; have k5 := HK.out.cell 5; have k6 := HK.out.cell 6; have k7 := HK.out.cell 7; have k8 := HK.out.cell 8; simp only [List.getElem?_toArray, List.getElem?_cons_zero, List.getElem?_cons_succ] at k0 k1 k2 k3 k4 k5 k6 k7 k8)
        | (go_at_call 63; (with_reducible refine Calls.mono (T2.out _) ?_); rintro e w2 ⟨rfl, hw⟩; subst hw; clear T2))
      go_ret
      exact ⟨by rw [E.out]; rfl, HB.out⟩
    | true =>
      rw [h2] at T2
      cases h3 : prB q.s with
      | false =>
        rw [h3] at T3
        have E := Lib.hid (show tgB q = false by rw [tgB, h1, h2, h3]; rfl)
        clear h1 h2 h3
        go_enter Try.func33, Try.ntmps33
        go_wp2_with (first
          | (go_at_call 62; (with_reducible refine Calls.mono (T1.out _) ?_); rintro e w1 ⟨rfl, hb⟩; replace HK := Lib.hid (HK.out.below hb); replace HB := Lib.hid (HB.out.trans (hb.mono HB.out.size)); clear hb T1; (try clear k0 k1 k2 k3 k4 k5 k6 k7 k8); have k0 := HK.out.cell 0; have k1 := HK.out.cell 1; have k2 := HK.out.cell 2; have k3 := HK.out.cell 3; have k4 := HK.out.cell 4; have k5 := HK.out.cell 5; have k6 := HK.out.cell 6; have k7 := HK.out.cell 7; have k8 := HK.out.cell 8; simp only [List.getElem?_toArray, List.getElem?_cons_zero, List.getElem?_cons_succ] at k0 k1 k2 k3 k4 k5 k6 k7 k8)
          | (go_at_call 63; (with_reducible refine Calls.mono (T2.out _) ?_); rintro e w2 ⟨rfl, hw⟩; subst hw; clear T2)
          | (go_at_call 42; (with_reducible refine Calls.mono (T3.out _) ?_); rintro e w3 ⟨rfl, hb⟩; replace HK := Lib.hid (HK.out.below hb); replace HB := Lib.hid (HB.out.trans (hb.mono HB.out.size)); clear hb T3; (try clear k0 k1 k2 k3 k4 k5 k6 k7 k8); have k0 := HK.out.cell 0; have k1 := HK.out.cell 1; have k2 := HK.out.cell 2; have k3 := HK.out.cell 3; have k4 := HK.out.cell 4; have k5 := HK.out.cell 5; have k6 := HK.out.cell 6; have k7 := HK.out.cell 7; have k8 := HK.out.cell 8; simp only [List.getElem?_toArray, List.getElem?_cons_zero, List.getElem?_cons_succ] at k0 k1 k2 k3 k4 k5 k6 k7 k8))
        go_ret
        exact ⟨by rw [E.out]; rfl, HB.out⟩
      | true =>
        rw [h3] at T3
        cases h4 : tmB q.u with
        | false =>
          rw [h4] at T4
          have E := Lib.hid (show tgB q = false by rw [tgB, h1, h2, h3, h4]; rfl)
          clear h1 h2 h3 h4
          go_enter Try.func33, Try.ntmps33
          go_wp2_with (first
            | (go_at_call 62; (with_reducible refine Calls.mono (T1.out _) ?_); rintro e w1 ⟨rfl, hb⟩; replace HK := Lib.hid (HK.out.below hb); replace HB := Lib.hid (HB.out.trans (hb.mono HB.out.size)); clear hb T1; (try clear k0 k1 k2 k3 k4 k5 k6 k7 k8); have k0 := HK.out.cell 0; have k1 := HK.out.cell 1; have k2 := HK.out.cell 2; have k3 := HK.out.cell 3; have k4 := HK.out.cell 4; have k5 := HK.out.cell 5; have k6 := HK.out.cell 6; have k7 := HK.out.cell 7; have k8 := HK.out.cell 8; simp only [List.getElem?_toArray, List.getElem?_cons_zero, List.getElem?_cons_succ] at k0 k1 k2 k3 k4 k5 k6 k7 k8)
            | (go_at_call 63; (with_reducible refine Calls.mono (T2.out _) ?_); rintro e w2 ⟨rfl, hw⟩; subst hw; clear T2)
            | (go_at_call 42; (with_reducible refine Calls.mono (T3.out _) ?_); rintro e w3 ⟨rfl, hb⟩; replace HK := Lib.hid (HK.out.below hb); replace HB := Lib.hid (HB.out.trans (hb.mono HB.out.size)); clear hb T3; (try clear k0 k1 k2 k3 k4 k5 k6 k7 k8); have k0 := HK.out.cell 0; have k1 := HK.out.cell 1; have k2 := HK.out.cell 2; have k3 := HK.out.cell 3; have k4 := HK.out.cell 4; have k5 := HK.out.cell 5; have k6 := HK.out.cell 6; have k7 := HK.out.cell 7; have k8 := HK.out.cell 8; simp only [List.getElem?_toArray, List.getElem?_cons_zero, List.getElem?_cons_succ] at k0 k1 k2 k3 k4 k5 k6 k7 k8)
            | (go_at_call 44; (with_reducible refine Calls.mono (T4.out _) ?_); rintro e w4 ⟨rfl, hw⟩; subst hw; clear T4))
          go_ret
          exact ⟨by rw [E.out]; rfl, HB.out⟩
        | true =>
          rw [h4] at T4
          have E := Lib.hid (show tgB q = tmB q.no by rw [tgB, h1, h2, h3, h4]; rfl)
          clear h1 h2 h3 h4
          go_enter Try.func33, Try.ntmps33
          go_wp2_with (first
            | (go_at_call 62; (with_reducible refine Calls.mono (T1.out _) ?_); rintro e w1 ⟨rfl, hb⟩; replace HK := Lib.hid (HK.out.below hb); replace HB := Lib.hid (HB.out.trans (hb.mono HB.out.size)); clear hb T1; (try clear k0 k1 k2 k3 k4 k5 k6 k7 k8); have k0 := HK.out.cell 0; have k1 := HK.out.cell 1; have k2 := HK.out.cell 2; have k3 := HK.out.cell 3; have k4 := HK.out.cell 4; have k5 := HK.out.cell 5; have k6 := HK.out.cell 6; have k7 := HK.out.cell 7; have k8 := HK.out.cell 8; simp only [List.getElem?_toArray, List.getElem?_cons_zero, List.getElem?_cons_succ] at k0 k1 k2 k3 k4 k5 k6 k7 k8)
            | (go_at_call 63; (with_reducible refine Calls.mono (T2.out _) ?_); rintro e w2 ⟨rfl, hw⟩; subst hw; clear T2)
            | (go_at_call 42; (with_reducible refine Calls.mono (T3.out _) ?_); rintro e w3 ⟨rfl, hb⟩; replace HK := Lib.hid (HK.out.below hb); replace HB := Lib.hid (HB.out.trans (hb.mono HB.out.size)); clear hb T3; (try clear k0 k1 k2 k3 k4 k5 k6 k7 k8); have k0 := HK.out.cell 0; have k1 := HK.out.cell 1; have k2 := HK.out.cell 2; have k3 := HK.out.cell 3; have k4 := HK.out.cell 4; have k5 := HK.out.cell 5; have k6 := HK.out.cell 6; have k7 := HK.out.cell 7; have k8 := HK.out.cell 8; simp only [List.getElem?_toArray, List.getElem?_cons_zero, List.getElem?_cons_succ] at k0 k1 k2 k3 k4 k5 k6 k7 k8)
            | (go_at_call 44; (with_reducible refine Calls.mono (T4.out _) ?_); rintro e w4 ⟨rfl, hw⟩; subst hw; clear T4)
            | (go_at_call 61; (with_reducible refine Calls.mono (T5.out _) ?_); rintro e w5 ⟨rfl, hw⟩; subst hw; clear T5))
          go_ret
          exact ⟨by rw [E.out]; rfl, HB.out⟩
set_option maxHeartbeats 3200000 in
theorem isre_any (q : Re) (A1 A2 : Option Addr) (c1 c2 : Nat) (w : World) (hs : pSm q.t.s) (hs2 : pSm q.c) : Calls Try.prog 34 #[.agg #[.string ⟨q.c.1.toArray⟩, .string ⟨q.c.2.toArray⟩, .string ⟨q.t.s.1.toArray⟩, .string ⟨q.t.s.2.toArray⟩, .int .i64 q.t.k, .slice A1 q.t.b.length c1, .slice A2 q.b.length c2]] w fun e w' => e = .returned (.bool (reB q)) ∧ Below w.heap.size w w' := by
  have hb0 := (Below.refl w.heap.size w).alloc (Nat.le_refl _) (.cells #[.string ⟨q.c.1.toArray⟩, .string ⟨q.c.2.toArray⟩, .string ⟨q.t.s.1.toArray⟩, .string ⟨q.t.s.2.toArray⟩, .int .i64 q.t.k, .slice A1 q.t.b.length c1, .slice A2 q.b.length c2] 32)
  have HB := Lib.hid hb0
  have HK := Lib.hid (Blk.new w 32 #[.string ⟨q.c.1.toArray⟩, .string ⟨q.c.2.toArray⟩, .string ⟨q.t.s.1.toArray⟩, .string ⟨q.t.s.2.toArray⟩, .int .i64 q.t.k, .slice A1 q.t.b.length c1, .slice A2 q.b.length c2])
  clear hb0
  have T1 := Lib.hid (fun w1 => isprinc_any q.c w1 hs2.1 hs2.2)
  have T2 := Lib.hid (fun w1 => isticket_any q.t A1 c1 w1 hs)
  have T3 := Lib.hid (fun w1 => isblob_any q.b A2 c2 w1)
  cases h1 : prB q.c with
  | false =>
    rw [h1] at T1
    have E := Lib.hid (show reB q = false by rw [reB, h1]; rfl)
    clear h1
    go_enter Try.func34, Try.ntmps34
    go_wp2_with (go_at_call 42; (with_reducible refine Calls.mono (T1.out _) ?_); rintro e w1 ⟨rfl, hb⟩; replace HK := Lib.hid (HK.out.below hb); replace HB := Lib.hid (HB.out.trans (hb.mono HB.out.size)); clear hb T1; (try clear k0 k1 k2 k3 k4 k5 k6); have k0 := HK.out.cell 0; have k1 := HK.out.cell 1; have k2 := HK.out.cell 2; have k3 := HK.out.cell 3; have k4 := HK.out.cell 4; have k5 := HK.out.cell 5; have k6 := HK.out.cell 6; simp only [List.getElem?_toArray, List.getElem?_cons_zero, List.getElem?_cons_succ] at k0 k1 k2 k3 k4 k5 k6)
    go_ret
    exact ⟨by rw [E.out]; rfl, HB.out⟩
  | true =>
    rw [h1] at T1
    cases h2 : tkB q.t with
    | false =>
      rw [h2] at T2
      have E := Lib.hid (show reB q = false by rw [reB, h1, h2]; rfl)
      clear h1 h2
      go_enter Try.func34, Try.ntmps34
      go_wp2_with (first
        | (go_at_call 42; (with_reducible refine Calls.mono (T1.out _) ?_); rintro e w1 ⟨rfl, hb⟩; replace HK := Lib.hid (HK.out.below hb); replace HB := Lib.hid (HB.out.trans (hb.mono HB.out.size)); clear hb T1; (try clear k0 k1 k2 k3 k4 k5 k6); have k0 := HK.out.cell 0; have k1 := HK.out.cell 1; have k2 := HK.out.cell 2; have k3 := HK.out.cell 3; have k4 := HK.out.cell 4; have k5 := HK.out.cell 5; have k6 := HK.out.cell 6; simp only [List.getElem?_toArray, List.getElem?_cons_zero, List.getElem?_cons_succ] at k0 k1 k2 k3 k4 k5 k6)
        | (go_at_call 62; (with_reducible refine Calls.mono (T2.out _) ?_); rintro e w2 ⟨rfl, hb⟩; replace HK := Lib.hid (HK.out.below hb); replace HB := Lib.hid (HB.out.trans (hb.mono HB.out.size)); clear hb T2; (try clear k0 k1 k2 k3 k4 k5 k6); have k0 := HK.out.cell 0; have k1 := HK.out.cell 1; have k2 := HK.out.cell 2; have k3 := HK.out.cell 3; have k4 := HK.out.cell 4; have k5 := HK.out.cell 5; have k6 := HK.out.cell 6; simp only [List.getElem?_toArray, List.getElem?_cons_zero, List.getElem?_cons_succ] at k0 k1 k2 k3 k4 k5 k6))
      go_ret
      exact ⟨by rw [E.out]; rfl, HB.out⟩
    | true =>
      rw [h2] at T2
      have E := Lib.hid (show reB q = blobB q.b by rw [reB, h1, h2]; rfl)
      clear h1 h2
      go_enter Try.func34, Try.ntmps34
      go_wp2_with (first
        | (go_at_call 42; (with_reducible refine Calls.mono (T1.out _) ?_); rintro e w1 ⟨rfl, hb⟩; replace HK := Lib.hid (HK.out.below hb); replace HB := Lib.hid (HB.out.trans (hb.mono HB.out.size)); clear hb T1; (try clear k0 k1 k2 k3 k4 k5 k6); have k0 := HK.out.cell 0; have k1 := HK.out.cell 1; have k2 := HK.out.cell 2; have k3 := HK.out.cell 3; have k4 := HK.out.cell 4; have k5 := HK.out.cell 5; have k6 := HK.out.cell 6; simp only [List.getElem?_toArray, List.getElem?_cons_zero, List.getElem?_cons_succ] at k0 k1 k2 k3 k4 k5 k6)
        | (go_at_call 62; (with_reducible refine Calls.mono (T2.out _) ?_); rintro e w2 ⟨rfl, hb⟩; replace HK := Lib.hid (HK.out.below hb); replace HB := Lib.hid (HB.out.trans (hb.mono HB.out.size)); clear hb T2; (try clear k0 k1 k2 k3 k4 k5 k6); have k0 := HK.out.cell 0; have k1 := HK.out.cell 1; have k2 := HK.out.cell 2; have k3 := HK.out.cell 3; have k4 := HK.out.cell 4; have k5 := HK.out.cell 5; have k6 := HK.out.cell 6; simp only [List.getElem?_toArray, List.getElem?_cons_zero, List.getElem?_cons_succ] at k0 k1 k2 k3 k4 k5 k6)
        | (go_at_call 63; (with_reducible refine Calls.mono (T3.out _) ?_); rintro e w3 ⟨rfl, hw⟩; subst hw; clear T3))
      go_ret
      exact ⟨by rw [E.out]; rfl, HB.out⟩
set_option maxHeartbeats 3200000 in
theorem isap_any (q : Ap) (A1 A2 : Option Addr) (c1 c2 : Nat) (w : World) (hs : pSm q.t.s) : Calls Try.prog 35 #[.agg #[.string ⟨q.t.s.1.toArray⟩, .string ⟨q.t.s.2.toArray⟩, .int .i64 q.t.k, .slice A1 q.t.b.length c1, .slice A2 q.a.length c2]] w fun e w' => e = .returned (.bool (apB q)) ∧ Below w.heap.size w w' := by
  have hb0 := (Below.refl w.heap.size w).alloc (Nat.le_refl _) (.cells #[.string ⟨q.t.s.1.toArray⟩, .string ⟨q.t.s.2.toArray⟩, .int .i64 q.t.k, .slice A1 q.t.b.length c1, .slice A2 q.a.length c2] 34)
  have HB := Lib.hid hb0
  have HK := Lib.hid (Blk.new w 34 #[.string ⟨q.t.s.1.toArray⟩, .string ⟨q.t.s.2.toArray⟩, .int .i64 q.t.k, .slice A1 q.t.b.length c1, .slice A2 q.a.length c2])
  clear hb0
  have T1 := Lib.hid (fun w1 => isticket_any q.t A1 c1 w1 hs)
  have T2 := Lib.hid (fun w1 => isblob_any q.a A2 c2 w1)
  cases h1 : tkB q.t with
  | false =>
    rw [h1] at T1
    have E := Lib.hid (show apB q = false by rw [apB, h1]; rfl)
    clear h1
    go_enter Try.func35, Try.ntmps35
    go_wp2_with (go_at_call 62; (with_reducible refine Calls.mono (T1.out _) ?_); rintro e w1 ⟨rfl, hb⟩; replace HK := Lib.hid (HK.out.below hb); replace HB := Lib.hid (HB.out.trans (hb.mono HB.out.size)); clear hb T1; (try clear k0 k1 k2 k3 k4); have k0 := HK.out.cell 0; have k1 := HK.out.cell 1; have k2 := HK.out.cell 2; have k3 := HK.out.cell 3; have k4 := HK.out.cell 4; simp only [List.getElem?_toArray, List.getElem?_cons_zero, List.getElem?_cons_succ] at k0 k1 k2 k3 k4)
    go_ret
    exact ⟨by rw [E.out]; rfl, HB.out⟩
  | true =>
    rw [h1] at T1
    have E := Lib.hid (show apB q = blobB q.a by rw [apB, h1]; rfl)
    clear h1
    go_enter Try.func35, Try.ntmps35
    go_wp2_with (first
      | (go_at_call 62; (with_reducible refine Calls.mono (T1.out _) ?_); rintro e w1 ⟨rfl, hb⟩; replace HK := Lib.hid (HK.out.below hb); replace HB := Lib.hid (HB.out.trans (hb.mono HB.out.size)); clear hb T1; (try clear k0 k1 k2 k3 k4); have k0 := HK.out.cell 0; have k1 := HK.out.cell 1; have k2 := HK.out.cell 2; have k3 := HK.out.cell 3; have k4 := HK.out.cell 4; simp only [List.getElem?_toArray, List.getElem?_cons_zero, List.getElem?_cons_succ] at k0 k1 k2 k3 k4)
      | (go_at_call 63; (with_reducible refine Calls.mono (T2.out _) ?_); rintro e w2 ⟨rfl, hw⟩; subst hw; clear T2))
    go_ret
    exact ⟨by rw [E.out]; rfl, HB.out⟩
set_option maxHeartbeats 3200000 in
theorem isfa_any (q : Fa) (w : World) : Calls Try.prog 36 #[.agg #[.int .i64 q.e, .int .i64 q.no]] w fun e w' => e = .returned (.bool (faB q)) ∧ Below w.heap.size w w' := by
  have hb0 := (Below.refl w.heap.size w).alloc (Nat.le_refl _) (.cells #[.int .i64 q.e, .int .i64 q.no] 37)
  have HB := Lib.hid hb0
  have HK := Lib.hid (Blk.new w 37 #[.int .i64 q.e, .int .i64 q.no])
  clear hb0
  have T1 := Lib.hid (fun w1 => within_any q.e 1 255 w1)
  have T2 := Lib.hid (fun w1 => nonce_any q.no w1)
  cases h1 : inB q.e 1 255 with
  | false =>
    rw [h1] at T1
    have E := Lib.hid (show faB q = false by rw [faB, h1]; rfl)
    clear h1
    go_enter Try.func36, Try.ntmps36
    go_wp2_with (go_at_call 64; (with_reducible refine Calls.mono (T1.out _) ?_); rintro e w1 ⟨rfl, hw⟩; subst hw; clear T1)
    go_ret
    exact ⟨by rw [E.out]; rfl, HB.out⟩
  | true =>
    rw [h1] at T1
    have E := Lib.hid (show faB q = tmB q.no by rw [faB, h1]; rfl)
    clear h1
    go_enter Try.func36, Try.ntmps36
    go_wp2_with (first
      | (go_at_call 64; (with_reducible refine Calls.mono (T1.out _) ?_); rintro e w1 ⟨rfl, hw⟩; subst hw; clear T1)
      | (go_at_call 61; (with_reducible refine Calls.mono (T2.out _) ?_); rintro e w2 ⟨rfl, hw⟩; subst hw; clear T2))
    go_ret
    exact ⟨by rw [E.out]; rfl, HB.out⟩
end Go.Proofs.Yteeabfplnaknfaa.Mc
end

section
set_option linter.unusedVariables false
set_option linter.unusedSimpArgs false
namespace Go.Proofs.Yteeabfplnaknfaa.Mc
open Go.RowKit Go.Proofs.Yteeabfplnaknfaa.Mem Go.Proofs.Yteeabfplnaknfaa.DerP Go.Proofs.Yteeabfplnaknfaa.Ms

def trB (l : L) : Bool := decide (l.length ≤ 300) && txtB l
def ptB' (p : Pt) : Bool := prB p.c && (trB p.tr && (tmB p.st && tmB p.en))
theorem ptB_eq (p : Pt) : ptB' p = ptB p := by
  unfold ptB' ptB trB
  cases txtB p.tr <;> cases prB p.c <;> cases decide (p.tr.length ≤ 300) <;> rfl
theorem txtf {l : L} {k : Nat} (h : k < l.length) (hb : l[k].toNat < 32 ∨ 126 < l[k].toNat) : txtB l = false := txt_bad h hb
section
attribute [local go_sem] mk_at List.getElem_cons_zero List.getElem_cons_succ
set_option maxRecDepth 4000 in
set_option maxHeartbeats 1600000 in
theorem transited_any (l : L) (w : World) (ht : l.length ≤ 1000000000) : Calls Try.prog 43 #[.string ⟨l.toArray⟩] w fun e w' => e = .returned (.bool (trB l)) ∧ w = w' := by
  by_cases h3 : l.length ≤ 300
  · have g3 : decide ((300 : Int) < (l.length : Int)) = false := decide_eq_false (by omega)
    have E3 := Lib.hid (show trB l = txtB l by rw [trB, decide_eq_true h3]; rfl)
    rw [E3.out]
    clear h3
    go_enter Try.func43, Try.ntmps43
    go_wp2
    go_loop [9] (fun iv => ∃ k : Nat, k ≤ l.length ∧ iv = .int .i64 (k : Int) ∧ FitT l k) (fun iv => l.length - (intOf iv).toNat)
    case atStart => exact ⟨0, Nat.zero_le _, rfl, fun i _ h => by omega⟩
    case round =>
      obtain ⟨k, hk2, rfl, hf⟩ := hrel
      have HF := Lib.hid hf; clear hf
      by_cases hlt : k < l.length
      · have e1 : (k : Int) < (l.length : Int) := by omega
        by_cases b1 : l[k].toNat < 32
        · have E := Lib.hid (txtf hlt (Or.inl b1))
          have b1' : decide ((l[k].toNat : Int) < 32) = true := by simp; omega
          clear b1
          go_wp2
          go_ret
          exact ⟨by rw [E.out]; rfl, rfl⟩
        · have b1' : decide ((l[k].toNat : Int) < 32) = false := by simp; omega
          by_cases b2 : 126 < l[k].toNat
          · have E := Lib.hid (txtf hlt (Or.inr b2))
            have b2' : decide (126 < (l[k].toNat : Int)) = true := by simp; omega
            clear b1 b2
            go_wp2
            go_ret
            exact ⟨by rw [E.out]; rfl, rfl⟩
          · have b2' : decide (126 < (l[k].toNat : Int)) = false := by simp; omega
            have HP := Lib.hid (show 32 ≤ l[k].toNat ∧ l[k].toNat ≤ 126 from ⟨by omega, by omega⟩)
            clear b1 b2
            go_wp2
            go_round
            case rel => exact ⟨k + 1, by omega, by go_num, fun i hi hik => by
              by_cases q : i = k
              · subst q; exact HP.out
              · exact HF.out i hi (by omega)⟩
            case measure => simp [intOf]; omega
      · have HT := Lib.hid (txt_all (fun i hi _ => HF.out i hi (by omega)))
        have e1 : ¬ (k : Int) < (l.length : Int) := by omega
        clear HF
        go_wp2
        go_ret
        exact ⟨by rw [HT.out]; rfl, rfl⟩
  · have g3 : decide ((300 : Int) < (l.length : Int)) = true := decide_eq_true (by omega)
    have E := Lib.hid (show trB l = false by rw [trB, decide_eq_false h3]; rfl)
    clear h3
    go_enter Try.func43, Try.ntmps43
    go_wp2
    go_ret
    exact ⟨by rw [E.out]; rfl, rfl⟩
end
set_option maxHeartbeats 3200000 in
theorem ispart_any0 (p : Pt) (w : World) (hk : p.ss.length = 32) (hs : pSm p.c) (ht : p.tr.length ≤ 1000000000) : Calls Try.prog 24 #[.agg (ptC p).toArray] w fun e w' => e = .returned (.bool (ptB' p)) ∧ Below w.heap.size w w' := by
  have HI := Lib.hid (show (Try.prog.info? 50).map (·.size) = some (ptC p).toArray.size by rw [pt_size hk]; kernel_rfl)
  have CF := Lib.hid (show ∀ w' : World, Blk w' w.heap.size 50 (ptC p).toArray → w'.cell? ⟨w.heap.size, 0, none⟩ = some (.string ⟨p.c.1.toArray⟩) ∧ w'.cell? ⟨w.heap.size, 1, none⟩ = some (.string ⟨p.c.2.toArray⟩) ∧ w'.cell? ⟨w.heap.size, 34, none⟩ = some (.string ⟨p.tr.toArray⟩) ∧ w'.cell? ⟨w.heap.size, 35, none⟩ = some (.int .i64 p.st) ∧ w'.cell? ⟨w.heap.size, 36, none⟩ = some (.int .i64 p.en) from fun w' h => pt_cells hk h)
  obtain ⟨cs, ecs⟩ : ∃ cs, cs = (ptC p).toArray := ⟨_, rfl⟩
  rw [← ecs] at HI CF ⊢
  clear ecs
  have HB := Lib.hid ((Below.refl w.heap.size w).alloc (Nat.le_refl _) (.cells cs 50))
  have HK := Lib.hid (Blk.new w 50 cs)
  have T1 := Lib.hid (fun w1 => isprinc_any p.c w1 hs.1 hs.2)
  have T2 := Lib.hid (fun w1 => transited_any p.tr w1 ht)
  have T3 := Lib.hid (fun w1 => time_any p.st w1)
  have T4 := Lib.hid (fun w1 => time_any p.en w1)
  obtain ⟨k0, k1, k2, k3, k4⟩ := CF.out _ HK.out
  cases h1 : prB p.c with
  | false =>
    rw [h1] at T1
    have E := Lib.hid (show ptB' p = false by rw [ptB', h1]; rfl)
    clear h1
    go_enter Try.func24, Try.ntmps24
    go_wp2_with (go_at_call 42; (with_reducible refine Calls.mono (T1.out _) ?_); rintro e w1 ⟨rfl, hb⟩; replace HK := Lib.hid (HK.out.below hb); replace HB := Lib.hid (HB.out.trans (hb.mono HB.out.size)); clear hb T1; (try clear k0 k1 k2 k3 k4); obtain ⟨k0, k1, k2, k3, k4⟩ := CF.out _ HK.out)
    go_ret
    exact ⟨by rw [E.out]; rfl, HB.out⟩
  | true =>
    rw [h1] at T1
    cases h2 : trB p.tr with
    | false =>
      rw [h2] at T2
      have E := Lib.hid (show ptB' p = false by rw [ptB', h1, h2]; rfl)
      clear h1 h2
      go_enter Try.func24, Try.ntmps24
      go_wp2_with (first
        | (go_at_call 42; (with_reducible refine Calls.mono (T1.out _) ?_); rintro e w1 ⟨rfl, hb⟩; replace HK := Lib.hid (HK.out.below hb); replace HB := Lib.hid (HB.out.trans (hb.mono HB.out.size)); clear hb T1; (try clear k0 k1 k2 k3 k4); obtain ⟨k0, k1, k2, k3, k4⟩ := CF.out _ HK.out)
        | (go_at_call 43; (with_reducible refine Calls.mono (T2.out _) ?_); rintro e w2 ⟨rfl, hw⟩; subst hw; clear T2))
      go_ret
      exact ⟨by rw [E.out]; rfl, HB.out⟩
    | true =>
      rw [h2] at T2
      cases h3 : tmB p.st with
      | false =>
        rw [h3] at T3
        have E := Lib.hid (show ptB' p = false by rw [ptB', h1, h2, h3]; rfl)
        clear h1 h2 h3
        go_enter Try.func24, Try.ntmps24
        go_wp2_with (first
          | (go_at_call 42; (with_reducible refine Calls.mono (T1.out _) ?_); rintro e w1 ⟨rfl, hb⟩; replace HK := Lib.hid (HK.out.below hb); replace HB := Lib.hid (HB.out.trans (hb.mono HB.out.size)); clear hb T1; (try clear k0 k1 k2 k3 k4); obtain ⟨k0, k1, k2, k3, k4⟩ := CF.out _ HK.out)
          | (go_at_call 43; (with_reducible refine Calls.mono (T2.out _) ?_); rintro e w2 ⟨rfl, hw⟩; subst hw; clear T2)
          | (go_at_call 44; (with_reducible refine Calls.mono (T3.out _) ?_); rintro e w3 ⟨rfl, hw⟩; subst hw; clear T3))
        go_ret
        exact ⟨by rw [E.out]; rfl, HB.out⟩
      | true =>
        rw [h3] at T3
        have E := Lib.hid (show ptB' p = tmB p.en by rw [ptB', h1, h2, h3]; rfl)
        clear h1 h2 h3
        go_enter Try.func24, Try.ntmps24
        go_wp2_with (first
          | (go_at_call 42; (with_reducible refine Calls.mono (T1.out _) ?_); rintro e w1 ⟨rfl, hb⟩; replace HK := Lib.hid (HK.out.below hb); replace HB := Lib.hid (HB.out.trans (hb.mono HB.out.size)); clear hb T1; (try clear k0 k1 k2 k3 k4); obtain ⟨k0, k1, k2, k3, k4⟩ := CF.out _ HK.out)
          | (go_at_call 43; (with_reducible refine Calls.mono (T2.out _) ?_); rintro e w2 ⟨rfl, hw⟩; subst hw; clear T2)
          | (go_at_call 44; (with_reducible refine Calls.mono (T3.out _) ?_); rintro e w3 ⟨rfl, hw⟩; subst hw; clear T3)
          | (go_at_call 44; (with_reducible refine Calls.mono (T4.out _) ?_); rintro e w4 ⟨rfl, hw⟩; subst hw; clear T4))
        go_ret
        exact ⟨by rw [E.out]; rfl, HB.out⟩
theorem ispart_any (p : Pt) (w : World) (hk : p.ss.length = 32) (hs : pSm p.c) (ht : p.tr.length ≤ 1000000000) : Calls Try.prog 24 #[.agg (ptC p).toArray] w fun e w' => e = .returned (.bool (ptB p)) ∧ Below w.heap.size w w' := by
  rw [← ptB_eq]; exact ispart_any0 p w hk hs ht
end Go.Proofs.Yteeabfplnaknfaa.Mc
end
