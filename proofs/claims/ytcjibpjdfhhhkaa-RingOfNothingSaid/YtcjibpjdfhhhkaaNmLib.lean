/-
  The library's functions that chapter 5 calls, at this program: strings cut at a byte, a prefix taken off, the last place of a byte, a copy of a text.
-/
import Derived.Test.YtcjibpjdfhhhkaaMem
import Derived.Test.YtcjibpjdfhhhkaaNmPlain2
import Derived.Test.YtcjibpjdfhhhkaaProg
import Derived.Lib.Strings
import Derived.Lib.Walk
import Derived.Lib.Bytealg
import Derived.Lib.BufferWrite
import Derived.Lib.UnsafeStr
import Derived.Laws.MakeOwn
import Derived.Laws.OwnMore
import Derived.Deep.WholeRow
set_option linter.unusedVariables false
namespace Go.Proofs.Ytcjibpjdfhhhkaa.Nm
open Go.RowKit Go.Proofs.Ytcjibpjdfhhhkaa.Mem
theorem ext_take (l : List UInt8) (k : Nat) : (ByteArray.mk l.toArray).extract 0 k = ByteArray.mk (l.take k).toArray := by
  rw [ByteArray.extract_mk]; simp
attribute [local go_sem] mk_at List.getElem_cons_zero List.getElem_cons_succ ext_tail ext_drop ext_mid ext_take

theorem u8_back (b : UInt8) : ((b.toNat : Int)).toNat.toUInt8 = b := by simp
theorem idx_miss {c : UInt8} {l : L} (h : c ∉ l) : Lib.indexByte l c = -1 := by
  induction l with
  | nil => rfl
  | cons x r ih =>
    simp only [List.mem_cons, not_or] at h
    rw [Lib.indexByte, if_neg (by simpa using fun e : x = c => h.1 e.symm), ih h.2]; rfl
theorem idx_hit {c : UInt8} {l : L} (h : c ∈ l) : Lib.indexByte l c = ((bef c l).length : Int) := by
  induction l with
  | nil => simp at h
  | cons x r ih =>
    rw [Lib.indexByte, bef]
    by_cases e : x = c
    · rw [if_pos (by simpa using e), if_pos e]; rfl
    · have hm : c ∈ r := (List.mem_cons.1 h).resolve_left fun g => e g.symm
      rw [if_neg (by simpa using e), if_neg e, ih hm, if_neg (by simp)]
      simp
theorem take_bef {c : UInt8} {l : L} (h : c ∈ l) : l.take (bef c l).length = bef c l := by
  have e := cut_eq h
  have g : (bef c l ++ c :: aft c l).take (bef c l).length = bef c l := by simp
  rwa [← e] at g
theorem drop_bef {c : UInt8} {l : L} (h : c ∈ l) : l.drop ((bef c l).length + 1) = aft c l := by
  have e := cut_eq h
  have g : (bef c l ++ c :: aft c l).drop ((bef c l).length + 1) = aft c l := by simp
  rwa [← e] at g
theorem bef_lt {c : UInt8} {l : L} (h : c ∈ l) : (bef c l).length < l.length := by
  have := congrArg List.length (cut_eq h)
  simp at this; omega

theorem ibs_run (l : L) (b : UInt8) (w : World) : (callFunc 105 #[.string ⟨l.toArray⟩, .int .u8 (b.toNat : Int)]).run Try.prog w = .ok (.value (.int .i64 (Lib.indexByte l b))) w := by
  rw [run_callFunc_extern Try.func105 (by kernel_rfl) (by kernel_rfl) (by kernel_rfl) (e := Extern.BytealgIndexByte.indexByte) (by kernel_rfl), Lib.run_indexByteString]
  simp only [Result.andThen, u8_back]

theorem indexbyte_any (l : L) (b : UInt8) (w : World) : Calls Try.prog 94 #[.string ⟨l.toArray⟩, .int .u8 (b.toNat : Int)] w fun e w' => e = .returned (.int .i64 (Lib.indexByte l b)) ∧ w = w' := by
  have h := fun w => ibs_run l b w
  go_enter Try.func94, Try.ntmps94
  go_wp2
  go_ret
  exact ⟨rfl, rfl⟩

theorem size_mk (l : L) : (ByteArray.mk l.toArray).size = l.length := by simp [ByteArray.size]
theorem toList_mk (l : L) : (ByteArray.mk l.toArray).toList = l := by rw [Lib.toList_data]

set_option maxHeartbeats 400000 in
theorem index_one (l : L) (b : UInt8) (w : World) : Calls Try.prog 85 #[.string ⟨l.toArray⟩, .string ⟨#[b]⟩] w fun e w' => e = .returned (.int .i64 (Lib.indexByte l b)) ∧ w = w' := by
  have c1 := indexbyte_any l b w
  by_cases e : l = [b]
  · subst e
    have E := Lib.hid (show Lib.indexByte [b] b = 0 by simp [Lib.indexByte])
    go_enter Try.func85, Try.ntmps85
    go_wp2_with fail
    go_ret
    exact ⟨by rw [E.out]; rfl, rfl⟩
  · have t1 : ([b] == l) = false := by simpa using fun g : [b] = l => e g.symm
    clear e
    go_enter Try.func85, Try.ntmps85
    go_wp2_with (go_at_call 94; refine Calls.mono c1 ?_; rintro e w1 ⟨rfl, rfl⟩)
    go_ret
    exact ⟨rfl, rfl⟩

def Drawn (w w' : World) : Prop := ∃ n, w' = w.drewN n
theorem Drawn.refl (w : World) : Drawn w w := ⟨0, rfl⟩
theorem Drawn.below {w w' : World} (h : Drawn w w') : Below w.heap.size w w' := by
  obtain ⟨n, rfl⟩ := h
  exact below_drewN (Below.refl _ _) n

set_option maxHeartbeats 400000 in
theorem litecut_one (l : L) (b : UInt8) (w : World) (hs : l.length ≤ 1000000000) : Calls Try.prog 80 #[.string ⟨l.toArray⟩, .string ⟨#[b]⟩] w fun e w' =>
    e = .returned (.tuple #[.string ⟨(bef b l).toArray⟩, .string ⟨(aft b l).toArray⟩, .bool (hasC b l)]) ∧ Drawn w w' := by
  have c1 := index_one l b w
  by_cases h : b ∈ l
  · have E1 := Lib.hid (show hasC b l = true from (hasC_iff _ _).2 h)
    have E2 := Lib.hid (take_bef h)
    have E3 := Lib.hid (drop_bef h)
    have hl := bef_lt h
    obtain ⟨n, en⟩ : ∃ n, n = (bef b l).length := ⟨_, rfl⟩
    rw [idx_hit h, ← en] at c1
    rw [← en] at E2 E3 hl
    have EN := Lib.hid en; clear en h
    go_enter Try.func80, Try.ntmps80
    go_wp2_with (go_at_call 85; refine Calls.mono c1 ?_; rintro e w1 ⟨rfl, rfl⟩)
    go_quiet (fail)
    go_wp2
    go_ret3
    rename_i q _
    exact ⟨by rw [E1.out, ← E2.out, ← E3.out]; rfl, ⟨_, rfl⟩⟩
  · have E1 := Lib.hid (show hasC b l = false from (hasC_false _ _).2 h)
    have E2 := Lib.hid (bef_none h)
    have E3 := Lib.hid (aft_none h)
    rw [idx_miss h] at c1
    clear h
    go_enter Try.func80, Try.ntmps80
    go_wp2_with (go_at_call 85; refine Calls.mono c1 ?_; rintro e w1 ⟨rfl, rfl⟩)
    go_ret3
    exact ⟨by rw [E1.out, E2.out, E3.out]; rfl, Drawn.refl _⟩

theorem cut_one (l : L) (b : UInt8) (w : World) (hs : l.length ≤ 1000000000) : Calls Try.prog 70 #[.string ⟨l.toArray⟩, .string ⟨#[b]⟩] w fun e w' =>
    e = .returned (.tuple #[.string ⟨(bef b l).toArray⟩, .string ⟨(aft b l).toArray⟩, .bool (hasC b l)]) ∧ Drawn w w' := by
  have c1 := litecut_one l b w hs
  go_enter Try.func70, Try.ntmps70
  go_wp2_with (go_at_call 80; refine Calls.mono c1 ?_; rintro e w1 ⟨rfl, hd⟩)
  go_ret3
  exact ⟨rfl, hd⟩

/-! ### a prefix -/
def preL (p l : L) : Bool := p.isPrefixOf l
theorem pre_take (p l : L) : (l.take p.length == p) = preL p l := by
  rw [preL, Bool.eq_iff_iff]
  simp only [beq_iff_eq, List.isPrefixOf_iff_prefix]
  rw [List.prefix_iff_eq_take]
  exact eq_comm
theorem pre_len {p l : L} (h : preL p l = true) : p.length ≤ l.length := (List.isPrefixOf_iff_prefix.1 h).length_le
theorem pre_iff {p l : L} : preL p l = true ↔ l = p ++ l.drop p.length := by
  constructor
  · intro h
    obtain ⟨t, e⟩ := List.isPrefixOf_iff_prefix.1 h
    rw [← e]; simp
  · intro h
    rw [preL, List.isPrefixOf_iff_prefix]
    exact ⟨_, h.symm⟩
set_option maxHeartbeats 400000 in
theorem hasprefix_any (l p : L) (w : World) (hs : l.length ≤ 1000000000) (hp : p.length ≤ 1000000000) : Calls Try.prog 72 #[.string ⟨l.toArray⟩, .string ⟨p.toArray⟩] w fun e w' =>
    e = .returned (.bool (preL p l)) ∧ w = w' := by
  by_cases h : p.length ≤ l.length
  · have e1 : (p.length : Int) ≤ (l.length : Int) := by omega
    have E := Lib.hid (pre_take p l)
    clear h
    go_enter Try.func72, Try.ntmps72
    go_wp2
    go_ret
    exact ⟨by rw [← E.out]; rfl, rfl⟩
  · have E := Lib.hid (show preL p l = false by
      cases q : preL p l with
      | false => rfl
      | true => exact absurd (pre_len q) h)
    have e1 : ¬ (p.length : Int) ≤ (l.length : Int) := by omega
    clear h
    go_enter Try.func72, Try.ntmps72
    go_wp2
    go_ret
    exact ⟨by rw [E.out]; rfl, rfl⟩
def cpL (p l : L) : L := if preL p l then l.drop p.length else l
set_option maxHeartbeats 400000 in
theorem litecutprefix_any (l p : L) (w : World) (hs : l.length ≤ 1000000000) (hp : p.length ≤ 1000000000) : Calls Try.prog 60 #[.string ⟨l.toArray⟩, .string ⟨p.toArray⟩] w fun e w' =>
    e = .returned (.tuple #[.string ⟨(cpL p l).toArray⟩, .bool (preL p l)]) ∧ w = w' := by
  have c1 := hasprefix_any l p w hs hp
  by_cases h : preL p l = true
  · have e1 : (p.length : Int) ≤ (l.length : Int) := by have := pre_len h; omega
    have E := Lib.hid (show cpL p l = l.drop p.length by rw [cpL, if_pos h])
    have E2 := Lib.hid h
    rw [h] at c1
    clear h
    go_enter Try.func60, Try.ntmps60
    go_wp2_with (go_at_call 72; refine Calls.mono c1 ?_; rintro e w1 ⟨rfl, rfl⟩)
    go_ret2
    exact ⟨by rw [E.out, E2.out]; rfl, rfl⟩
  · have h : preL p l = false := by simpa using h
    have E := Lib.hid (show cpL p l = l by rw [cpL, if_neg (by simp [h])])
    have E2 := Lib.hid h
    rw [h] at c1
    clear h
    go_enter Try.func60, Try.ntmps60
    go_wp2_with (go_at_call 72; refine Calls.mono c1 ?_; rintro e w1 ⟨rfl, rfl⟩)
    go_ret2
    exact ⟨by rw [E.out, E2.out]; rfl, rfl⟩
theorem cutprefix_any (l p : L) (w : World) (hs : l.length ≤ 1000000000) (hp : p.length ≤ 1000000000) : Calls Try.prog 46 #[.string ⟨l.toArray⟩, .string ⟨p.toArray⟩] w fun e w' =>
    e = .returned (.tuple #[.string ⟨(cpL p l).toArray⟩, .bool (preL p l)]) ∧ w = w' := by
  have c1 := litecutprefix_any l p w hs hp
  go_enter Try.func46, Try.ntmps46
  go_wp2_with (go_at_call 60; refine Calls.mono c1 ?_; rintro e w1 ⟨rfl, rfl⟩)
  go_ret2
  exact ⟨rfl, rfl⟩

/-! ### the last place of a byte -/
/-! ### a copy of a text -/
theorem u8_row : (Try.prog.info? 5).map (fun i => (i.zero, i.size, i.bytes)) = some (some (.int .u8 0), 1, 1) := by kernel_rfl
/-- room for n bytes -/
theorem room_any (n : Nat) (hn : n ≤ 1000000000) (w : World) : (Instr.makeSlice 34 (.int .i64 (n : Int)) (.int .i64 (n : Int))).run Try.prog w = .ok (.slice (some ⟨w.heap.size, 0, none⟩) n n) (w.alloc (.cells (zeros n) 5)) := by
  obtain ⟨i0, hi, hz, hs, hb⟩ := info_parts u8_row
  have h := run_make (P := Try.prog) w 34 5 i0 _ Try.underlying34 hi hz .i64 .i64 (n : Int) (n : Int) (by omega) (by omega) (by rw [hb]; omega) (by omega)
  have e : madeCells (Value.int .u8 0).cells (((n : Int)).toNat * i0.size) = zeros n := by
    rw [hs, Nat.mul_one, Int.toNat_natCast]
    refine Array.toList_inj.1 ?_
    show (madeCells #[Value.int .u8 0] n).toList = _
    rw [toList_madeCells_one]; simp [zeros, bv]
  rw [e] at h
  simpa using h
/-- the bytes of a text laid into it -/
theorem laid_any (s : L) (w : World) : (Builtin.copy_ #[34, 9] 3 #[.slice (some ⟨w.heap.size, 0, none⟩) s.length s.length, .string ⟨s.toArray⟩]).run Try.prog (w.alloc (.cells (zeros s.length) 5)) = .ok (goInt s.length) (w.alloc (.cells (bvs s).toArray 5)) := by
  obtain ⟨i0, hi, _, hs, _⟩ := info_parts u8_row
  have hk := Blk.new w 5 (zeros s.length)
  have h := Lib.run_copy_row_string (P := Try.prog) _ 34 9 3 5 w.heap.size 0 s.length s.length ⟨s.toArray⟩ _ 5 Try.underlying34 (by rw [hi]; simp [hs]) hk (by rw [size_mk]; exact Nat.le_refl _) (by rw [size_mk, zeros_size]; omega)
  rw [size_mk, World.setRow_alloc_new] at h
  have e : (zeros s.length).toList.take 0 ++ Lib.byteCells s ++ (zeros s.length).toList.drop (0 + s.length) = bvs s := by
    rw [List.drop_of_length_le (by rw [Array.length_toList, zeros_size]; omega)]
    simp [Lib.byteCells, bvs, bv]
  rw [e] at h
  exact h
/-- these bytes as a text -/
theorem told_any (s : L) (h0 : s ≠ []) (hs : s.length ≤ 1000000000) (w : World) : (Builtin.unsafeString_ #[120, 3] 9 #[.pointer (some ⟨w.heap.size, 0, none⟩), .int .i64 (s.length : Int)]).run Try.prog (w.alloc (.cells (bvs s).toArray 5)) = .ok (.string ⟨s.toArray⟩) ((w.alloc (.cells (bvs s).toArray 5)).freeze ⟨w.heap.size, 0, none⟩ s.length) := by
  obtain ⟨i0, hi, _, hz, _⟩ := info_parts u8_row
  have hk := Blk.new w 5 (bvs s).toArray
  refine Lib.run_unsafeString_row (P := Try.prog) _ _ _ _ 5 Try.underlying120 (by simp [Program.cellsOf, hi, hz]) w.heap.size s.length ?_ s h0 (Nat.le_refl _) (by omega) fun j x hx => ?_
  · unfold World.shape?
    rw [show (w.alloc (.cells (bvs s).toArray 5)).heap[w.heap.size]? = _ from hk]
    simp [bvs_length]
  · obtain ⟨hj, e⟩ := List.getElem?_eq_some_iff.1 hx
    rw [addr_add, Nat.zero_add, hk.cell, List.getElem?_toArray, bvs_at hj, e]; rfl
set_option maxHeartbeats 800000 in
set_option maxRecDepth 100000 in
theorem liteclone_any (s : L) (w : World) (hlim : s.length ≤ 1000000000) : Calls Try.prog 48 #[.string ⟨s.toArray⟩] w fun e w' => e = .returned (.string ⟨s.toArray⟩) ∧ Below w.heap.size w w' := by
  by_cases h0 : s = []
  · subst h0
    go_enter Try.func48, Try.ntmps48
    go_wp2
    go_ret
    exact ⟨rfl, Below.refl _ _⟩
  · have hmk := room_any s.length hlim w
    have hcp := laid_any s w
    have hus := told_any s h0 hlim w
    have hl : 1 ≤ s.length := by
      cases s with
      | nil => exact absurd rfl h0
      | cons a r => simp
    have t0 : ((s.length : Int) == 0) = false := by simp; omega
    have HB := Lib.hid (Lib.below_freeze ((Below.refl w.heap.size w).alloc (Nat.le_refl _) (.cells (bvs s).toArray 5)) (p := ⟨w.heap.size, 0, none⟩) (Nat.le_refl _) s.length)
    clear h0
    go_enter Try.func48, Try.ntmps48
    go_wp2
    go_ret
    exact ⟨rfl, HB.out⟩
theorem clone_any (s : L) (w : World) (hlim : s.length ≤ 1000000000) : Calls Try.prog 38 #[.string ⟨s.toArray⟩] w fun e w' => e = .returned (.string ⟨s.toArray⟩) ∧ Below w.heap.size w w' := by
  have c1 := liteclone_any s w hlim
  go_enter Try.func38, Try.ntmps38
  go_wp2_with (go_at_call 48; refine Calls.mono c1 ?_; rintro e w' ⟨rfl, hb⟩)
  go_ret
  exact ⟨rfl, hb⟩

end Go.Proofs.Ytcjibpjdfhhhkaa.Nm
