import Derived.Test.YteeabfplnaknfaaProg
import Derived.Lib.Strings
import Derived.Lib.Walk
import Derived.Lib.Bytealg
import Derived.Lib.BufferWrite
import Derived.Lib.UnsafeStr
import Derived.Laws.MakeOwn
import Derived.Laws.OwnMore
import Derived.Deep.WholeRow
import Derived.Lib.BitFns
import Derived.Lib.Tables
import Derived.Test.YteeabfplnaknfaaZMsgOthers1
section
set_option linter.unusedVariables false
namespace Go.Proofs.Yteeabfplnaknfaa.Nm
open Go.RowKit Go.Proofs.Yteeabfplnaknfaa.Mem
theorem ext_take (l : List UInt8) (k : Nat) : (ByteArray.mk l.toArray).extract 0 k = ByteArray.mk (l.take k).toArray := by
  rw [ByteArray.extract_mk]; simp
attribute [local go_sem] mk_at List.getElem_cons_zero List.getElem_cons_succ ext_tail ext_drop ext_mid ext_take

theorem u8_back (b : UInt8) : ((b.toNat : Int)).toNat.toUInt8 = b := by simp
theorem idx_miss {c : UInt8} {l : L} (h : c ∉ l) : Lib.indexByte l c = -1 := by
  induction l with
  | nil => rfl
  | cons x r ih =>
    simp only [List.mem_cons, not_or] at h
    rw [Lib.indexByte, if_neg (by simpa using fun e : x = c => h.1 e.symm), ih h.2]; rfl
theorem idx_hit {c : UInt8} {l : L} (h : c ∈ l) : Lib.indexByte l c = ((bef c l).length : Int) := by
  induction l with
  | nil => simp at h
  | cons x r ih =>
    rw [Lib.indexByte, bef]
    by_cases e : x = c
    · rw [if_pos (by simpa using e), if_pos e]; rfl
    · have hm : c ∈ r := (List.mem_cons.1 h).resolve_left fun g => e g.symm
      rw [if_neg (by simpa using e), if_neg e, ih hm, if_neg (by simp)]
      simp
theorem take_bef {c : UInt8} {l : L} (h : c ∈ l) : l.take (bef c l).length = bef c l := by
  have e := cut_eq h
  have g : (bef c l ++ c :: aft c l).take (bef c l).length = bef c l := by simp
  rwa [← e] at g
theorem drop_bef {c : UInt8} {l : L} (h : c ∈ l) : l.drop ((bef c l).length + 1) = aft c l := by
  have e := cut_eq h
  have g : (bef c l ++ c :: aft c l).drop ((bef c l).length + 1) = aft c l := by simp
  rwa [← e] at g
theorem bef_lt {c : UInt8} {l : L} (h : c ∈ l) : (bef c l).length < l.length := by
  have := congrArg List.length (cut_eq h)
  simp at this; omega

theorem ibs_run (l : L) (b : UInt8) (w : World) : (callFunc 101 #[.string ⟨l.toArray⟩, .int .u8 (b.toNat : Int)]).run Try.prog w = .ok (.value (.int .i64 (Lib.indexByte l b))) w := by
  rw [run_callFunc_extern Try.func101 (by kernel_rfl) (by kernel_rfl) (by kernel_rfl) (e := Extern.BytealgIndexByte.indexByte) (by kernel_rfl), Lib.run_indexByteString]
  simp only [Result.andThen, u8_back]

theorem indexbyte_any (l : L) (b : UInt8) (w : World) : Calls Try.prog 97 #[.string ⟨l.toArray⟩, .int .u8 (b.toNat : Int)] w fun e w' => e = .returned (.int .i64 (Lib.indexByte l b)) ∧ w = w' := by
  have h := fun w => ibs_run l b w
  go_enter Try.func97, Try.ntmps97
  go_wp2
  go_ret
  exact ⟨rfl, rfl⟩

theorem size_mk (l : L) : (ByteArray.mk l.toArray).size = l.length := by simp [ByteArray.size]
set_option maxHeartbeats 400000 in
theorem index_one (l : L) (b : UInt8) (w : World) : Calls Try.prog 96 #[.string ⟨l.toArray⟩, .string ⟨#[b]⟩] w fun e w' => e = .returned (.int .i64 (Lib.indexByte l b)) ∧ w = w' := by
  have c1 := indexbyte_any l b w
  by_cases e : l = [b]
  · subst e
    have E := Lib.hid (show Lib.indexByte [b] b = 0 by simp [Lib.indexByte])
    go_enter Try.func96, Try.ntmps96
    go_wp2_with fail
    go_ret
    exact ⟨by rw [E.out]; rfl, rfl⟩
  · have t1 : ([b] == l) = false := by simpa using fun g : [b] = l => e g.symm
    clear e
    go_enter Try.func96, Try.ntmps96
    go_wp2_with (go_at_call 97; refine Calls.mono c1 ?_; rintro e w1 ⟨rfl, rfl⟩)
    go_ret
    exact ⟨rfl, rfl⟩

def Drawn (w w' : World) : Prop := ∃ n, w' = w.drewN n
theorem Drawn.refl (w : World) : Drawn w w := ⟨0, rfl⟩
theorem Drawn.below {w w' : World} (h : Drawn w w') : Below w.heap.size w w' := by
  obtain ⟨n, rfl⟩ := h
  exact below_drewN (Below.refl _ _) n

set_option maxHeartbeats 400000 in
theorem litecut_one (l : L) (b : UInt8) (w : World) (hs : l.length ≤ 1000000000) : Calls Try.prog 95 #[.string ⟨l.toArray⟩, .string ⟨#[b]⟩] w fun e w' =>
    e = .returned (.tuple #[.string ⟨(bef b l).toArray⟩, .string ⟨(aft b l).toArray⟩, .bool (hasC b l)]) ∧ Drawn w w' := by
  have c1 := index_one l b w
  by_cases h : b ∈ l
  · have E1 := Lib.hid (show hasC b l = true from (hasC_iff _ _).2 h)
    have E2 := Lib.hid (take_bef h)
    have E3 := Lib.hid (drop_bef h)
    have hl := bef_lt h
    obtain ⟨n, en⟩ : ∃ n, n = (bef b l).length := ⟨_, rfl⟩
    rw [idx_hit h, ← en] at c1
    rw [← en] at E2 E3 hl
    have EN := Lib.hid en; clear en h
    go_enter Try.func95, Try.ntmps95
    go_wp2_with (go_at_call 96; refine Calls.mono c1 ?_; rintro e w1 ⟨rfl, rfl⟩)
    go_quiet (fail)
    go_wp2
    go_ret3
    rename_i q _
    exact ⟨by rw [E1.out, ← E2.out, ← E3.out]; rfl, ⟨_, rfl⟩⟩
  · have E1 := Lib.hid (show hasC b l = false from (hasC_false _ _).2 h)
    have E2 := Lib.hid (bef_none h)
    have E3 := Lib.hid (aft_none h)
    rw [idx_miss h] at c1
    clear h
    go_enter Try.func95, Try.ntmps95
    go_wp2_with (go_at_call 96; refine Calls.mono c1 ?_; rintro e w1 ⟨rfl, rfl⟩)
    go_ret3
    exact ⟨by rw [E1.out, E2.out, E3.out]; rfl, Drawn.refl _⟩

theorem cut_one (l : L) (b : UInt8) (w : World) (hs : l.length ≤ 1000000000) : Calls Try.prog 92 #[.string ⟨l.toArray⟩, .string ⟨#[b]⟩] w fun e w' =>
    e = .returned (.tuple #[.string ⟨(bef b l).toArray⟩, .string ⟨(aft b l).toArray⟩, .bool (hasC b l)]) ∧ Drawn w w' := by
  have c1 := litecut_one l b w hs
  go_enter Try.func92, Try.ntmps92
  go_wp2_with (go_at_call 95; refine Calls.mono c1 ?_; rintro e w1 ⟨rfl, hd⟩)
  go_ret3
  exact ⟨rfl, hd⟩

def preL (p l : L) : Bool := p.isPrefixOf l
theorem pre_take (p l : L) : (l.take p.length == p) = preL p l := by
  rw [preL, Bool.eq_iff_iff]
  simp only [beq_iff_eq, List.isPrefixOf_iff_prefix]
  rw [List.prefix_iff_eq_take]
  exact eq_comm
theorem pre_len {p l : L} (h : preL p l = true) : p.length ≤ l.length := (List.isPrefixOf_iff_prefix.1 h).length_le
theorem pre_iff {p l : L} : preL p l = true ↔ l = p ++ l.drop p.length := by
  constructor
  · intro h
    obtain ⟨t, e⟩ := List.isPrefixOf_iff_prefix.1 h
    rw [← e]; simp
  · intro h
    rw [preL, List.isPrefixOf_iff_prefix]
    exact ⟨_, h.symm⟩
set_option maxHeartbeats 400000 in
theorem hasprefix_any (l p : L) (w : World) (hs : l.length ≤ 1000000000) (hp : p.length ≤ 1000000000) : Calls Try.prog 94 #[.string ⟨l.toArray⟩, .string ⟨p.toArray⟩] w fun e w' =>
    e = .returned (.bool (preL p l)) ∧ w = w' := by
  by_cases h : p.length ≤ l.length
  · have e1 : (p.length : Int) ≤ (l.length : Int) := by omega
    have E := Lib.hid (pre_take p l)
    clear h
    go_enter Try.func94, Try.ntmps94
    go_wp2
    go_ret
    exact ⟨by rw [← E.out]; rfl, rfl⟩
  · have E := Lib.hid (show preL p l = false by
      cases q : preL p l with
      | false => rfl
      | true => exact absurd (pre_len q) h)
    have e1 : ¬ (p.length : Int) ≤ (l.length : Int) := by omega
    clear h
    go_enter Try.func94, Try.ntmps94
    go_wp2
    go_ret
    exact ⟨by rw [E.out]; rfl, rfl⟩
def cpL (p l : L) : L := if preL p l then l.drop p.length else l
set_option maxHeartbeats 400000 in
theorem litecutprefix_any (l p : L) (w : World) (hs : l.length ≤ 1000000000) (hp : p.length ≤ 1000000000) : Calls Try.prog 88 #[.string ⟨l.toArray⟩, .string ⟨p.toArray⟩] w fun e w' =>
    e = .returned (.tuple #[.string ⟨(cpL p l).toArray⟩, .bool (preL p l)]) ∧ w = w' := by
  have c1 := hasprefix_any l p w hs hp
  by_cases h : preL p l = true
  · have e1 : (p.length : Int) ≤ (l.length : Int) := by have := pre_len h; omega
    have E := Lib.hid (show cpL p l = l.drop p.length by rw [cpL, if_pos h])
    have E2 := Lib.hid h
    rw [h] at c1
    clear h
    go_enter Try.func88, Try.ntmps88
    go_wp2_with (go_at_call 94; refine Calls.mono c1 ?_; rintro e w1 ⟨rfl, rfl⟩)
    go_ret2
    exact ⟨by rw [E.out, E2.out]; rfl, rfl⟩
  · have h : preL p l = false := by simpa using h
    have E := Lib.hid (show cpL p l = l by rw [cpL, if_neg (by simp [h])])
    have E2 := Lib.hid h
    rw [h] at c1
    clear h
    go_enter Try.func88, Try.ntmps88
    go_wp2_with (go_at_call 94; refine Calls.mono c1 ?_; rintro e w1 ⟨rfl, rfl⟩)
    go_ret2
    exact ⟨by rw [E.out, E2.out]; rfl, rfl⟩
theorem cutprefix_any (l p : L) (w : World) (hs : l.length ≤ 1000000000) (hp : p.length ≤ 1000000000) : Calls Try.prog 81 #[.string ⟨l.toArray⟩, .string ⟨p.toArray⟩] w fun e w' =>
    e = .returned (.tuple #[.string ⟨(cpL p l).toArray⟩, .bool (preL p l)]) ∧ w = w' := by
  have c1 := litecutprefix_any l p w hs hp
  go_enter Try.func81, Try.ntmps81
  go_wp2_with (go_at_call 88; refine Calls.mono c1 ?_; rintro e w1 ⟨rfl, rfl⟩)
  go_ret2
  exact ⟨rfl, rfl⟩

theorem u8_row : (Try.prog.info? 5).map (fun i => (i.zero, i.size, i.bytes)) = some (some (.int .u8 0), 1, 1) := by kernel_rfl
theorem room_any (n : Nat) (hn : n ≤ 1000000000) (w : World) : (Instr.makeSlice 26 (.int .i64 (n : Int)) (.int .i64 (n : Int))).run Try.prog w = .ok (.slice (some ⟨w.heap.size, 0, none⟩) n n) (w.alloc (.cells (zeros n) 5)) := by
  obtain ⟨i0, hi, hz, hs, hb⟩ := info_parts u8_row
  have h := run_make (P := Try.prog) w 26 5 i0 _ Try.underlying26 hi hz .i64 .i64 (n : Int) (n : Int) (by omega) (by omega) (by rw [hb]; omega) (by omega)
  have e : madeCells (Value.int .u8 0).cells (((n : Int)).toNat * i0.size) = zeros n := by
    rw [hs, Nat.mul_one, Int.toNat_natCast]
    refine Array.toList_inj.1 ?_
    show (madeCells #[Value.int .u8 0] n).toList = _
    rw [toList_madeCells_one]; simp [zeros, bv]
  rw [e] at h
  simpa using h
theorem laid_any (s : L) (w : World) : (Builtin.copy_ #[26, 9] 3 #[.slice (some ⟨w.heap.size, 0, none⟩) s.length s.length, .string ⟨s.toArray⟩]).run Try.prog (w.alloc (.cells (zeros s.length) 5)) = .ok (goInt s.length) (w.alloc (.cells (bvs s).toArray 5)) := by
  obtain ⟨i0, hi, _, hs, _⟩ := info_parts u8_row
  have hk := Blk.new w 5 (zeros s.length)
  have h := Lib.run_copy_row_string (P := Try.prog) _ 26 9 3 5 w.heap.size 0 s.length s.length ⟨s.toArray⟩ _ 5 Try.underlying26 (by rw [hi]; simp [hs]) hk (by rw [size_mk]; exact Nat.le_refl _) (by rw [size_mk, zeros_size]; omega)
  rw [size_mk, World.setRow_alloc_new] at h
  have e : (zeros s.length).toList.take 0 ++ Lib.byteCells s ++ (zeros s.length).toList.drop (0 + s.length) = bvs s := by
    rw [List.drop_of_length_le (by rw [Array.length_toList, zeros_size]; omega)]
    simp [Lib.byteCells, bvs, bv]
  rw [e] at h
  exact h
theorem told_any (s : L) (h0 : s ≠ []) (hs : s.length ≤ 1000000000) (w : World) : (Builtin.unsafeString_ #[127, 3] 9 #[.pointer (some ⟨w.heap.size, 0, none⟩), .int .i64 (s.length : Int)]).run Try.prog (w.alloc (.cells (bvs s).toArray 5)) = .ok (.string ⟨s.toArray⟩) ((w.alloc (.cells (bvs s).toArray 5)).freeze ⟨w.heap.size, 0, none⟩ s.length) := by
  obtain ⟨i0, hi, _, hz, _⟩ := info_parts u8_row
  have hk := Blk.new w 5 (bvs s).toArray
  refine Lib.run_unsafeString_row (P := Try.prog) _ _ _ _ 5 Try.underlying127 (by simp [Program.cellsOf, hi, hz]) w.heap.size s.length ?_ s h0 (Nat.le_refl _) (by omega) fun j x hx => ?_
  · unfold World.shape?
    rw [show (w.alloc (.cells (bvs s).toArray 5)).heap[w.heap.size]? = _ from hk]
    simp [bvs_length]
  · obtain ⟨hj, e⟩ := List.getElem?_eq_some_iff.1 hx
    rw [addr_add, Nat.zero_add, hk.cell, List.getElem?_toArray, bvs_at hj, e]; rfl
set_option maxHeartbeats 800000 in
set_option maxRecDepth 100000 in
theorem liteclone_any (s : L) (w : World) (hlim : s.length ≤ 1000000000) : Calls Try.prog 86 #[.string ⟨s.toArray⟩] w fun e w' => e = .returned (.string ⟨s.toArray⟩) ∧ Below w.heap.size w w' := by
  by_cases h0 : s = []
  · subst h0
    go_enter Try.func86, Try.ntmps86
    go_wp2
    go_ret
    exact ⟨rfl, Below.refl _ _⟩
  · have hmk := room_any s.length hlim w
    have hcp := laid_any s w
    have hus := told_any s h0 hlim w
    have hl : 1 ≤ s.length := by
      cases s with
      | nil => exact absurd rfl h0
      | cons a r => simp
    have t0 : ((s.length : Int) == 0) = false := by simp; omega
    have HB := Lib.hid (Lib.below_freeze ((Below.refl w.heap.size w).alloc (Nat.le_refl _) (.cells (bvs s).toArray 5)) (p := ⟨w.heap.size, 0, none⟩) (Nat.le_refl _) s.length)
    clear h0
    go_enter Try.func86, Try.ntmps86
    go_wp2
    go_ret
    exact ⟨rfl, HB.out⟩
theorem clone_any (s : L) (w : World) (hlim : s.length ≤ 1000000000) : Calls Try.prog 74 #[.string ⟨s.toArray⟩] w fun e w' => e = .returned (.string ⟨s.toArray⟩) ∧ Below w.heap.size w w' := by
  have c1 := liteclone_any s w hlim
  go_enter Try.func74, Try.ntmps74
  go_wp2_with (go_at_call 86; refine Calls.mono c1 ?_; rintro e w' ⟨rfl, hb⟩)
  go_ret
  exact ⟨rfl, hb⟩

end Go.Proofs.Yteeabfplnaknfaa.Nm
end

section
namespace Go.Proofs.Yteeabfplnaknfaa.DerLib
open Go.RowKit Go.Proofs.Yteeabfplnaknfaa.Mem

theorem tab_eq : (⟨((([0, 1, 2, 2, 3, 3, 3, 3, 4, 4, 4, 4, 4, 4, 4, 4, 5, 5, 5, 5, 5, 5, 5, 5, 5, 5, 5, 5, 5, 5, 5, 5, 6, 6, 6, 6, 6, 6, 6, 6, 6, 6, 6, 6, 6, 6, 6, 6, 6, 6, 6, 6, 6, 6, 6, 6, 6, 6, 6, 6, 6, 6, 6, 6] : List UInt8).append [7, 7, 7, 7, 7, 7, 7, 7, 7, 7, 7, 7, 7, 7, 7, 7, 7, 7, 7, 7, 7, 7, 7, 7, 7, 7, 7, 7, 7, 7, 7, 7, 7, 7, 7, 7, 7, 7, 7, 7, 7, 7, 7, 7, 7, 7, 7, 7, 7, 7, 7, 7, 7, 7, 7, 7, 7, 7, 7, 7, 7, 7, 7, 7]).append (([8, 8, 8, 8, 8, 8, 8, 8, 8, 8, 8, 8, 8, 8, 8, 8, 8, 8, 8, 8, 8, 8, 8, 8, 8, 8, 8, 8, 8, 8, 8, 8, 8, 8, 8, 8, 8, 8, 8, 8, 8, 8, 8, 8, 8, 8, 8, 8, 8, 8, 8, 8, 8, 8, 8, 8, 8, 8, 8, 8, 8, 8, 8, 8] : List UInt8).append [8, 8, 8, 8, 8, 8, 8, 8, 8, 8, 8, 8, 8, 8, 8, 8, 8, 8, 8, 8, 8, 8, 8, 8, 8, 8, 8, 8, 8, 8, 8, 8, 8, 8, 8, 8, 8, 8, 8, 8, 8, 8, 8, 8, 8, 8, 8, 8, 8, 8, 8, 8, 8, 8, 8, 8, 8, 8, 8, 8, 8, 8, 8, 8])).toArray⟩ : ByteArray) = Lib.len8tab := by kernel_rfl

theorem at_leaf (m k p : Nat) (x : Int) (hp : p = 2 ^ k) (hx : x = ((m / p : Nat) : Int)) (hs : m / p < 256) (hlo : p ≤ m ∨ k = 0) (hm : m < 18446744073709551616) :
    Lib.len8 x + (k : Int) = (Lib.bitLen m : Int) ∧ Lib.len8 x ≤ 8 ∧ 0 ≤ Lib.len8 x := by
  have l := Lib.bitLen_le8 ⟨m / p, hs⟩
  have v := Lib.len8_eq ⟨m / p, hs⟩
  simp only at l v
  rw [hx, v]
  have hb : Lib.bitLen m = k + Lib.bitLen (m / p) := by
    rcases hlo with h | h
    · rw [hp] at h ⊢; exact Lib.bitLen_shift k m h hm
    · subst h; rw [hp]; simp
  omega
set_option maxHeartbeats 4000000 in
theorem len64_any (m : Nat) (w : World) (hm : m < 9223372036854775808) : Calls Try.prog 90 #[.int .u64 (m : Int)] w fun e w' => e = .returned (.int .i64 (Lib.bitLen m : Int)) ∧ w = w' := by
  by_cases h1 : 4294967296 ≤ m
  · by_cases h2 : 65536 ≤ m / 4294967296
    · by_cases h3 : 256 ≤ m / 4294967296 / 65536
      · have t1 : decide ((4294967296 : Int) ≤ (m : Int)) = true := decide_eq_true (by omega)
        have t2 : decide ((65536 : Int) ≤ (m : Int) / 4294967296) = true := decide_eq_true (by omega)
        have t3 : decide ((256 : Int) ≤ (m : Int) / 4294967296 / 65536) = true := decide_eq_true (by omega)
        have AL := at_leaf m 56 72057594037927936 ((m : Int) / 4294967296 / 65536 / 256 % 256) rfl (by omega) (by omega) (by omega) (by omega)
        have AH := Lib.hid AL
        clear AL hm h1 h2 h3
        go_enter Try.func90, Try.ntmps90
        rw [tab_eq]
        go_wp2
        go_ret
        have AL := AH.out
        refine ⟨congrArg Ending.returned (congrArg (Value.int IntKind.i64) ?_), rfl⟩
        (first | (unfold wrap64; omega) | omega | skip)
      · have t1 : decide ((4294967296 : Int) ≤ (m : Int)) = true := decide_eq_true (by omega)
        have t2 : decide ((65536 : Int) ≤ (m : Int) / 4294967296) = true := decide_eq_true (by omega)
        have t3 : decide ((256 : Int) ≤ (m : Int) / 4294967296 / 65536) = false := decide_eq_false (by omega)
        have AL := at_leaf m 48 281474976710656 ((m : Int) / 4294967296 / 65536 % 256) rfl (by omega) (by omega) (by omega) (by omega)
        have AH := Lib.hid AL
        clear AL hm h1 h2 h3
        go_enter Try.func90, Try.ntmps90
        rw [tab_eq]
        go_wp2
        go_ret
        have AL := AH.out
        refine ⟨congrArg Ending.returned (congrArg (Value.int IntKind.i64) ?_), rfl⟩
        (first | (unfold wrap64; omega) | omega | skip)
    · by_cases h3 : 256 ≤ m / 4294967296
      · have t1 : decide ((4294967296 : Int) ≤ (m : Int)) = true := decide_eq_true (by omega)
        have t2 : decide ((65536 : Int) ≤ (m : Int) / 4294967296) = false := decide_eq_false (by omega)
        have t3 : decide ((256 : Int) ≤ (m : Int) / 4294967296) = true := decide_eq_true (by omega)
        have AL := at_leaf m 40 1099511627776 ((m : Int) / 4294967296 / 256 % 256) rfl (by omega) (by omega) (by omega) (by omega)
        have AH := Lib.hid AL
        clear AL hm h1 h2 h3
        go_enter Try.func90, Try.ntmps90
        rw [tab_eq]
        go_wp2
        go_ret
        have AL := AH.out
        refine ⟨congrArg Ending.returned (congrArg (Value.int IntKind.i64) ?_), rfl⟩
        (first | (unfold wrap64; omega) | omega | skip)
      · have t1 : decide ((4294967296 : Int) ≤ (m : Int)) = true := decide_eq_true (by omega)
        have t2 : decide ((65536 : Int) ≤ (m : Int) / 4294967296) = false := decide_eq_false (by omega)
        have t3 : decide ((256 : Int) ≤ (m : Int) / 4294967296) = false := decide_eq_false (by omega)
        have AL := at_leaf m 32 4294967296 ((m : Int) / 4294967296 % 256) rfl (by omega) (by omega) (by omega) (by omega)
        have AH := Lib.hid AL
        clear AL hm h1 h2 h3
        go_enter Try.func90, Try.ntmps90
        rw [tab_eq]
        go_wp2
        go_ret
        have AL := AH.out
        refine ⟨congrArg Ending.returned (congrArg (Value.int IntKind.i64) ?_), rfl⟩
        (first | (unfold wrap64; omega) | omega | skip)
  · by_cases h2 : 65536 ≤ m
    · by_cases h3 : 256 ≤ m / 65536
      · have t1 : decide ((4294967296 : Int) ≤ (m : Int)) = false := decide_eq_false (by omega)
        have t2 : decide ((65536 : Int) ≤ (m : Int)) = true := decide_eq_true (by omega)
        have t3 : decide ((256 : Int) ≤ (m : Int) / 65536) = true := decide_eq_true (by omega)
        have AL := at_leaf m 24 16777216 ((m : Int) / 65536 / 256 % 256) rfl (by omega) (by omega) (by omega) (by omega)
        have AH := Lib.hid AL
        clear AL hm h1 h2 h3
        go_enter Try.func90, Try.ntmps90
        rw [tab_eq]
        go_wp2
        go_ret
        have AL := AH.out
        refine ⟨congrArg Ending.returned (congrArg (Value.int IntKind.i64) ?_), rfl⟩
        (first | (unfold wrap64; omega) | omega | skip)
      · have t1 : decide ((4294967296 : Int) ≤ (m : Int)) = false := decide_eq_false (by omega)
        have t2 : decide ((65536 : Int) ≤ (m : Int)) = true := decide_eq_true (by omega)
        have t3 : decide ((256 : Int) ≤ (m : Int) / 65536) = false := decide_eq_false (by omega)
        have AL := at_leaf m 16 65536 ((m : Int) / 65536 % 256) rfl (by omega) (by omega) (by omega) (by omega)
        have AH := Lib.hid AL
        clear AL hm h1 h2 h3
        go_enter Try.func90, Try.ntmps90
        rw [tab_eq]
        go_wp2
        go_ret
        have AL := AH.out
        refine ⟨congrArg Ending.returned (congrArg (Value.int IntKind.i64) ?_), rfl⟩
        (first | (unfold wrap64; omega) | omega | skip)
    · by_cases h3 : 256 ≤ m
      · have t1 : decide ((4294967296 : Int) ≤ (m : Int)) = false := decide_eq_false (by omega)
        have t2 : decide ((65536 : Int) ≤ (m : Int)) = false := decide_eq_false (by omega)
        have t3 : decide ((256 : Int) ≤ (m : Int)) = true := decide_eq_true (by omega)
        have AL := at_leaf m 8 256 ((m : Int) / 256 % 256) rfl (by omega) (by omega) (by omega) (by omega)
        have AH := Lib.hid AL
        clear AL hm h1 h2 h3
        go_enter Try.func90, Try.ntmps90
        rw [tab_eq]
        go_wp2
        go_ret
        have AL := AH.out
        refine ⟨congrArg Ending.returned (congrArg (Value.int IntKind.i64) ?_), rfl⟩
        (first | (unfold wrap64; omega) | omega | skip)
      · have t1 : decide ((4294967296 : Int) ≤ (m : Int)) = false := decide_eq_false (by omega)
        have t2 : decide ((65536 : Int) ≤ (m : Int)) = false := decide_eq_false (by omega)
        have t3 : decide ((256 : Int) ≤ (m : Int)) = false := decide_eq_false (by omega)
        have AL := at_leaf m 0 1 ((m : Int) % 256) rfl (by omega) (by omega) (by omega) (by omega)
        have AH := Lib.hid AL
        clear AL hm h1 h2 h3
        go_enter Try.func90, Try.ntmps90
        rw [tab_eq]
        go_wp2
        go_ret
        have AL := AH.out
        refine ⟨congrArg Ending.returned (congrArg (Value.int IntKind.i64) ?_), rfl⟩
        (first | (unfold wrap64; omega) | omega | skip)
theorem bits_len (m : Nat) (w : World) (hm : m < 9223372036854775808) : Calls Try.prog 83 #[.int .u64 (m : Int)] w fun e w' => e = .returned (.int .i64 (Lib.bitLen m : Int)) ∧ w = w' := by
  have c1 := len64_any m w hm
  clear hm
  go_enter Try.func83, Try.ntmps83
  go_wp2_with (go_at_call 90; refine Calls.mono c1 ?_; rintro e w' ⟨rfl, rfl⟩)
  go_ret
  exact ⟨rfl, rfl⟩
end Go.Proofs.Yteeabfplnaknfaa.DerLib
end

section
namespace Go.Proofs.Yteeabfplnaknfaa.DerC
open Go.RowKit Go.Proofs.Yteeabfplnaknfaa.Mem Go.Proofs.Yteeabfplnaknfaa.DerP
attribute [local go_sem] mk_at List.getElem_cons_zero List.getElem_cons_succ ext_tail ext_drop ext_mid

def Drawn (w w' : World) : Prop := ∃ n, w' = w.drewN n
theorem Drawn.refl (w : World) : Drawn w w := ⟨0, rfl⟩

def curCells : Option L → Array Value
  | none => #[.string ⟨([] : List UInt8).toArray⟩, .bool true]
  | some s => #[.string ⟨s.toArray⟩, .bool false]
def Cur (w : World) (g : Nat) (c : Option L) : Prop := Blk w g 105 (curCells c)

set_option maxRecDepth 100000 in
set_option maxHeartbeats 400000 in
theorem len_any (s : L) (w : World) : Calls Try.prog 91 #[.string ⟨s.toArray⟩] w fun e w' =>
    e = .returned (.tuple #[.int .i64 ((lenR s).1 : Int), .int .i64 ((lenR s).2.1 : Int), .bool (lenR s).2.2]) ∧ Drawn w w' := by
  cases s with
  | nil =>
    go_enter Try.func91, Try.ntmps91
    go_wp2
    go_ret3
    exact ⟨rfl, Drawn.refl _⟩
  | cons a r =>
    by_cases h1 : a.toNat < 128
    · have g1 : decide ((a.toNat : Int) < 128) = true := by simp; omega
      have E : Hid (lenR (a :: r) = (a.toNat, 1, true)) := lenR_small h1
      have H := Lib.hid h1; clear h1
      have ha := u8_le a
      go_enter Try.func91, Try.ntmps91
      go_wp2
      go_ret3
      exact ⟨by rw [E.out]; rfl, Drawn.refl _⟩
    · have g1 : decide ((a.toNat : Int) < 128) = false := by simp; omega
      by_cases h2 : a.toNat = 129
      · have g2 : ((a.toNat : Int) == 129) = true := by simp; omega
        have g3 : ((a.toNat : Int) == 130) = false := by simp; omega
        have H1 := Lib.hid h1; clear h1
        have H2 := Lib.hid h2; clear h2
        cases r with
        | nil =>
          have E : Hid (lenR [a] = (0, 0, false)) := lenR_129_nil H2.out
          go_enter Try.func91, Try.ntmps91
          go_wp2
          go_ret3
          exact ⟨by rw [E.out]; rfl, Drawn.refl _⟩
        | cons b q =>
          have hb := u8_le b
          have E : Hid (lenR (a :: b :: q) = (b.toNat, 2, decide (128 ≤ b.toNat))) := lenR_129 H2.out
          have F : Hid (decide ((128 : Int) ≤ (b.toNat : Int)) = decide (128 ≤ b.toNat)) := by show _ = _; simp; omega
          go_enter Try.func91, Try.ntmps91
          go_wp2
          go_ret3
          exact ⟨by rw [E.out, ← F.out]; rfl, Drawn.refl _⟩
      · have g2 : ((a.toNat : Int) == 129) = false := by simp; omega
        by_cases h3 : a.toNat = 130
        · have g3 : ((a.toNat : Int) == 130) = true := by simp; omega
          have H1 := Lib.hid h1; clear h1
          have H2 := Lib.hid h2; clear h2
          have H3 := Lib.hid h3; clear h3
          rcases r with _ | ⟨b, _ | ⟨c, q⟩⟩
          · have E : Hid (lenR [a] = (0, 0, false)) := lenR_130_nil H3.out
            go_enter Try.func91, Try.ntmps91
            go_wp2
            go_ret3
            exact ⟨by rw [E.out]; rfl, Drawn.refl _⟩
          · have E : Hid (lenR [a, b] = (0, 0, false)) := lenR_130_one H3.out
            go_enter Try.func91, Try.ntmps91
            go_wp2
            go_ret3
            exact ⟨by rw [E.out]; rfl, Drawn.refl _⟩
          · have hb := u8_le b
            have hc := u8_le c
            have E : Hid (lenR (a :: b :: c :: q) = (b.toNat * 256 + c.toNat, 3, decide (255 < b.toNat * 256 + c.toNat))) := lenR_130 H3.out
            go_enter Try.func91, Try.ntmps91
            go_wp2
            go_quiet (fail)
            go_wp2
            go_ret3
            have F : (decide ((255 : Int) < (b.toNat : Int) * 256 + (c.toNat : Int))) = decide (255 < b.toNat * 256 + c.toNat) := by simp; omega
            have G := or_low b.toNat c.toNat (by omega) (by omega)
            exact ⟨by rw [E.out, ← F, ← G]; simp [G], ⟨_, rfl⟩⟩
        · have g3 : ((a.toNat : Int) == 130) = false := by simp; omega
          have E : Hid (lenR (a :: r) = (0, 0, false)) := lenR_else h1 h2 h3
          have H1 := Lib.hid h1; clear h1
          have H2 := Lib.hid h2; clear h2
          have H3 := Lib.hid h3; clear h3
          go_enter Try.func91, Try.ntmps91
          go_wp2
          go_ret3
          exact ⟨by rw [E.out]; rfl, Drawn.refl _⟩


theorem cur_cells {w : World} {g : Nat} {c : Option L} (h : Cur w g c) : w.cell? ⟨g, 0, none⟩ = some (.string ⟨(c.getD []).toArray⟩) ∧ w.cell? ⟨g, 1, none⟩ = some (.bool (!c.isSome)) := by
  have h0 := h.cell 0
  have h1 := h.cell 1
  cases c <;> exact ⟨h0, h1⟩
theorem cur_frozen {w : World} {g : Nat} {c : Option L} (h : Cur w g c) : w.frozen? ⟨g, 0, none⟩ = false ∧ w.frozen? ⟨g, 1, none⟩ = false := ⟨h.frozen 0, h.frozen 1⟩
theorem good_any (g : Nat) (c : Option L) (w : World) (h : Cur w g c) : Calls Try.prog 84 #[.pointer (some ⟨g, 0, none⟩)] w fun e w' => e = .returned (.bool c.isSome) ∧ w = w' := by
  obtain ⟨_, h1⟩ := cur_cells h
  go_enter Try.func84, Try.ntmps84
  go_wp2
  go_ret
  exact ⟨by simp, rfl⟩
theorem fail_any (g : Nat) (c : Option L) (w : World) (h : Cur w g c) : Calls Try.prog 76 #[.pointer (some ⟨g, 0, none⟩)] w fun e w' => e = .returned (.tuple #[]) ∧ Cur w' g none ∧ w.grownBy w' (some g) := by
  obtain ⟨h0, h1⟩ := cur_cells h
  obtain ⟨f0, f1⟩ := cur_frozen h
  go_enter Try.func76, Try.ntmps76
  go_wp2
  go_end0
  exact ⟨rfl, by have := (h.set 0 (.string ⟨#[]⟩)).set 1 (.bool true); cases c <;> exact this, by repeat (first | exact World.grownBy.refl _ _ | refine g_set ?_ (.inl rfl) _)⟩

theorem split_nil (t : UInt8) (w : World) : Calls Try.prog 85 #[.string ⟨([] : List UInt8).toArray⟩, .int .u8 t.toNat] w fun e w' =>
    e = .returned (.tuple #[.string ⟨([] : List UInt8).toArray⟩, .string ⟨([] : List UInt8).toArray⟩, .bool false]) ∧ Drawn w w' := by
  go_enter Try.func85, Try.ntmps85
  go_wp2
  go_ret3
  exact ⟨rfl, Drawn.refl _⟩
theorem split_other (a t : UInt8) (r : L) (w : World) (hne : a ≠ t) : Calls Try.prog 85 #[.string ⟨(a :: r).toArray⟩, .int .u8 t.toNat] w fun e w' =>
    e = .returned (.tuple #[.string ⟨([] : List UInt8).toArray⟩, .string ⟨([] : List UInt8).toArray⟩, .bool false]) ∧ Drawn w w' := by
  have h1 : ((a.toNat : Int) == (t.toNat : Int)) = false := by simp; exact fun g => hne (UInt8.toNat_inj.1 (by omega))
  have h2 : ((a.toNat : Int) != (t.toNat : Int)) = true := by simp; exact fun g => hne (UInt8.toNat_inj.1 (by omega))
  have H := Lib.hid hne; clear hne
  go_enter Try.func85, Try.ntmps85
  go_wp2
  go_ret3
  exact ⟨rfl, Drawn.refl _⟩
theorem split_some (t : UInt8) (r : L) (w : World) (hs : (r.length : Int) ≤ 100000) (hk : (lenR r).2.2 = true) (hf : (lenR r).1 + (lenR r).2.1 ≤ r.length) : Calls Try.prog 85 #[.string ⟨(t :: r).toArray⟩, .int .u8 t.toNat] w fun e w' =>
    e = .returned (.tuple #[.string ⟨((r.drop (lenR r).2.1).take (lenR r).1).toArray⟩, .string ⟨((r.drop (lenR r).2.1).drop (lenR r).1).toArray⟩, .bool true]) ∧ Drawn w w' := by
  have hl := lenR_le r
  generalize hx : lenR r = x at *
  obtain ⟨n, k, ok⟩ := x
  simp only at hk hf hl ⊢
  have hf1 : ((r.length : Int) - (k : Int) < (n : Int)) = False := by simp; omega
  have hf2 : decide ((r.length : Int) - (k : Int) < (n : Int)) = false := by simp; omega
  have hf3 : (k : Int) + (n : Int) ≤ (r.length : Int) := by omega
  have hl1 : (n : Int) ≤ 65535 := by omega
  have hl2 : (k : Int) ≤ 3 := by omega
  have hc : ∀ W, Calls Try.prog 91 #[.string ⟨r.toArray⟩] W fun e w' => e = .returned (.tuple #[.int .i64 (n : Int), .int .i64 (k : Int), .bool true]) ∧ Drawn W w' := by
    intro W
    have := len_any r W
    rw [hx] at this
    subst hk
    exact this
  have HC := Lib.hid hc; clear hc
  have HX := Lib.hid hx; clear hx
  have HK := Lib.hid hk; clear hk
  clear hf hl
  go_enter Try.func85, Try.ntmps85
  go_wp2_with (go_at_call 91; refine (HC.out _).mono ?_; rintro e w' ⟨rfl, q, rfl⟩)
  go_quiet (fail)
  go_wp2
  go_ret3
  exact ⟨by rw [← ext_mid r k n, List.drop_drop]; rfl, ⟨_, World.drewN_drewN _ _ _⟩⟩
theorem split_bad (t : UInt8) (r : L) (w : World) (hk : (lenR r).2.2 = false) : Calls Try.prog 85 #[.string ⟨(t :: r).toArray⟩, .int .u8 t.toNat] w fun e w' =>
    e = .returned (.tuple #[.string ⟨([] : List UInt8).toArray⟩, .string ⟨([] : List UInt8).toArray⟩, .bool false]) ∧ Drawn w w' := by
  have hc : ∀ W, Calls Try.prog 91 #[.string ⟨r.toArray⟩] W fun e w' => e = .returned (.tuple #[.int .i64 ((lenR r).1 : Int), .int .i64 ((lenR r).2.1 : Int), .bool false]) ∧ Drawn W w' := by
    intro W
    have := len_any r W
    rw [hk] at this
    exact this
  have HC := Lib.hid hc; clear hc
  have HK := Lib.hid hk; clear hk
  go_enter Try.func85, Try.ntmps85
  go_wp2_with (go_at_call 91; refine (HC.out _).mono ?_; rintro e w' ⟨rfl, q, rfl⟩)
  go_ret3
  exact ⟨rfl, ⟨_, rfl⟩⟩
theorem split_short (t : UInt8) (r : L) (w : World) (hs : (r.length : Int) ≤ 100000) (hk : (lenR r).2.2 = true) (hf : ¬ (lenR r).1 + (lenR r).2.1 ≤ r.length) : Calls Try.prog 85 #[.string ⟨(t :: r).toArray⟩, .int .u8 t.toNat] w fun e w' =>
    e = .returned (.tuple #[.string ⟨([] : List UInt8).toArray⟩, .string ⟨([] : List UInt8).toArray⟩, .bool false]) ∧ Drawn w w' := by
  have hl := lenR_le r
  have hc : ∀ W, Calls Try.prog 91 #[.string ⟨r.toArray⟩] W fun e w' => e = .returned (.tuple #[.int .i64 ((lenR r).1 : Int), .int .i64 ((lenR r).2.1 : Int), .bool true]) ∧ Drawn W w' := by
    intro W
    have := len_any r W
    rw [hk] at this
    exact this
  have HC := Lib.hid hc; clear hc
  have HK := Lib.hid hk; clear hk
  generalize (lenR r).1 = n at *
  generalize (lenR r).2.1 = k at *
  have hf2 : decide ((r.length : Int) - (k : Int) < (n : Int)) = true := by simp; omega
  have hl1 : (n : Int) ≤ 65535 := by omega
  have hl2 : (k : Int) ≤ 3 := by omega
  clear hf hl
  go_enter Try.func85, Try.ntmps85
  go_wp2_with (go_at_call 91; refine (HC.out _).mono ?_; rintro e w' ⟨rfl, q, rfl⟩)
  go_ret3
  exact ⟨rfl, ⟨_, rfl⟩⟩
def splitV (o : Option (L × L)) : Value := .tuple #[.string ⟨((o.map (·.1)).getD []).toArray⟩, .string ⟨((o.map (·.2)).getD []).toArray⟩, .bool o.isSome]
theorem split_any (t : UInt8) (s : L) (w : World) (hs : (s.length : Int) ≤ 100000) : Calls Try.prog 85 #[.string ⟨s.toArray⟩, .int .u8 t.toNat] w fun e w' =>
    e = .returned (splitV (splitL t s)) ∧ Drawn w w' := by
  cases s with
  | nil => exact split_nil t w
  | cons a r =>
    simp only [List.length_cons] at hs
    by_cases h1 : a = t
    · subst h1
      cases hk : (lenR r).2.2 with
      | false =>
        rw [show splitL a (a :: r) = none by simp [splitL, hk]]
        exact split_bad a r w hk
      | true =>
        by_cases hf : (lenR r).1 + (lenR r).2.1 ≤ r.length
        · rw [show splitL a (a :: r) = some ((r.drop (lenR r).2.1).take (lenR r).1, (r.drop (lenR r).2.1).drop (lenR r).1) by rw [splitL, if_pos ⟨rfl, hk, hf⟩]]
          exact split_some a r w (by omega) hk hf
        · rw [show splitL a (a :: r) = none by rw [splitL, if_neg (fun h => hf h.2.2)]]
          exact split_short a r w (by omega) hk hf
    · rw [show splitL t (a :: r) = none by rw [splitL, if_neg (fun h => h1 h.1)]]
      exact split_other a t r w h1

theorem take_any (t : UInt8) (g : Nat) (c : Option L) (w : World) (h : Cur w g c) (hs : ((c.getD []).length : Int) ≤ 100000) : Calls Try.prog 72 #[.pointer (some ⟨g, 0, none⟩), .int .u8 t.toNat] w fun e w' =>
    e = .returned (.tuple #[.string ⟨((bodyC t c).getD []).toArray⟩, .bool (bodyC t c).isSome]) ∧ Cur w' g (nextC t c) ∧ w.grownBy w' (some g) := by
  obtain ⟨h0, h1⟩ := cur_cells h
  obtain ⟨f0, f1⟩ := cur_frozen h
  cases c with
  | none =>
    go_enter Try.func72, Try.ntmps72
    go_wp2_with (go_at_call 84; refine (good_any _ _ _ h).mono ?_; rintro e w' ⟨rfl, rfl⟩)
    go_ret2
    exact ⟨rfl, h, World.grownBy.refl _ _⟩
  | some s =>
    have hc : ∀ W, Calls Try.prog 85 #[.string ⟨s.toArray⟩, .int .u8 t.toNat] W fun e w' => e = .returned (splitV (splitL t s)) ∧ Drawn W w' := fun W => split_any t s W hs
    cases hx : splitL t s with
    | none =>
      rw [hx] at hc
      simp only [splitV, Option.map_none, Option.getD_none, Option.isSome_none] at hc
      have HC := Lib.hid hc; clear hc
      have HX := Lib.hid hx; clear hx
      go_enter Try.func72, Try.ntmps72
      go_wp2_with (first
        | (go_at_call 84; refine (good_any _ _ _ h).mono ?_; rintro e w' ⟨rfl, rfl⟩)
        | (go_at_call 85; refine (HC.out _).mono ?_; rintro e w' ⟨rfl, q, rfl⟩)
        | (go_at_call 76; refine (fail_any _ _ _ (h.drewN q)).mono ?_; rintro e w' ⟨rfl, hc1, hg1⟩))
      go_ret2
      obtain ⟨e1, e2⟩ := body_none HX.out
      rw [e1, e2]
      exact ⟨rfl, hc1, (g_drewN (World.grownBy.refl w _) q).trans hg1⟩
    | some x =>
      obtain ⟨b, r⟩ := x
      rw [hx] at hc
      simp only [splitV, Option.map_some, Option.getD_some, Option.isSome_some] at hc
      have HC := Lib.hid hc; clear hc
      have HX := Lib.hid hx; clear hx
      go_enter Try.func72, Try.ntmps72
      go_wp2_with (first
        | (go_at_call 84; refine (good_any _ _ _ h).mono ?_; rintro e w' ⟨rfl, rfl⟩)
        | (go_at_call 85; refine (HC.out _).mono ?_; rintro e w' ⟨rfl, q, rfl⟩))
      go_ret2
      obtain ⟨e1, e2⟩ := body_some HX.out
      rw [e1, e2]
      exact ⟨rfl, (h.drewN q).set 0 (.string ⟨r.toArray⟩), g_set (g_drewN (World.grownBy.refl w _) q) (.inl rfl) _⟩

end Go.Proofs.Yteeabfplnaknfaa.DerC
end

section
namespace Go.Proofs.Yteeabfplnaknfaa.DerC
open Go.RowKit Go.Proofs.Yteeabfplnaknfaa.Mem Go.Proofs.Yteeabfplnaknfaa.DerP
attribute [local go_sem] mk_at List.getElem_cons_zero List.getElem_cons_succ ext_tail ext_drop ext_mid

def numV (p : Nat × Bool) : Value := .tuple #[.int .i64 (p.1 : Int), .bool p.2]
set_option maxRecDepth 100000 in
theorem number_nil (w : World) : Calls Try.prog 75 #[.string ⟨([] : List UInt8).toArray⟩] w fun e w' => e = .returned (numV (numR [])) ∧ Drawn w w' := by
  go_enter Try.func75, Try.ntmps75
  go_wp2
  go_ret2
  exact ⟨rfl, Drawn.refl _⟩
set_option maxRecDepth 100000 in
theorem number_long (a : UInt8) (r : L) (h : 7 < r.length) (hs : (r.length : Int) ≤ 100000) (w : World) : Calls Try.prog 75 #[.string ⟨(a :: r).toArray⟩] w fun e w' => e = .returned (numV (numR (a :: r))) ∧ Drawn w w' := by
  have g1 : decide ((8 : Int) < (r.length : Int) + 1) = true := by simp; omega
  have E := Lib.hid (numR_long (a := a) h)
  clear h
  go_enter Try.func75, Try.ntmps75
  go_wp2
  go_ret2
  exact ⟨by rw [E.out]; rfl, Drawn.refl _⟩
set_option maxRecDepth 100000 in
theorem number_high (a : UInt8) (r : L) (h : ¬ 7 < r.length) (h2 : 128 ≤ a.toNat) (w : World) : Calls Try.prog 75 #[.string ⟨(a :: r).toArray⟩] w fun e w' => e = .returned (numV (numR (a :: r))) ∧ Drawn w w' := by
  have g1 : decide ((8 : Int) < (r.length : Int) + 1) = false := by simp; omega
  have g2 : decide ((128 : Int) ≤ (a.toNat : Int)) = true := by simp; omega
  have E := Lib.hid (numR_high (r := r) h2)
  have hr : (r.length : Int) ≤ 7 := by omega
  clear h h2
  go_enter Try.func75, Try.ntmps75
  go_wp2
  go_ret2
  exact ⟨by rw [E.out]; rfl, Drawn.refl _⟩
set_option maxRecDepth 100000 in
theorem number_lead (a b : UInt8) (r : L) (h : ¬ 7 < (b :: r).length) (h2 : a.toNat = 0) (hb : b.toNat < 128) (w : World) : Calls Try.prog 75 #[.string ⟨(a :: b :: r).toArray⟩] w fun e w' => e = .returned (numV (numR (a :: b :: r))) ∧ Drawn w w' := by
  simp only [List.length_cons] at h
  have g1 : decide ((8 : Int) < (r.length : Int) + 1 + 1) = false := by simp; omega
  have g2 : decide ((128 : Int) ≤ (a.toNat : Int)) = false := by simp; omega
  have g3 : ((a.toNat : Int) == 0) = true := by simp; omega
  have g4 : decide ((b.toNat : Int) < 128) = true := by simp; omega
  have g5 : decide ((1 : Int) < (r.length : Int) + 1 + 1) = true := by simp; omega
  have E := Lib.hid (numR_lead (r := r) h2 hb)
  have hr : (r.length : Int) ≤ 6 := by omega
  clear h h2 hb
  go_enter Try.func75, Try.ntmps75
  go_wp2
  go_ret2
  exact ⟨by rw [E.out]; rfl, Drawn.refl _⟩
set_option maxRecDepth 100000 in
theorem number_loop (s : L) (ha : 0 < s.length) (h8 : s.length ≤ 8) (ge : s.isEmpty = false)
    (a : UInt8) (r : L) (hs : s = a :: r) (h2 : a.toNat < 128) (h3 : ¬ (a.toNat = 0 ∧ headSmall r = true)) (w : World) : Calls Try.prog 75 #[.string ⟨s.toArray⟩] w fun e w' => e = .returned (numV (numR s)) ∧ Drawn w w' := by
  subst hs
  have hb : ∀ i, val ((a :: r).take i) < 9223372036854775808 := val_take_lt h2 (by simpa using h8)
  have g2 : decide ((128 : Int) ≤ (a.toNat : Int)) = false := by simp; omega
  have hr : (r.length : Int) ≤ 7 := by simp at h8; omega
  have H3 := Lib.hid h3
  have H2 := Lib.hid h2
  have HB := Lib.hid hb
  have g1 : decide ((8 : Int) < (r.length : Int) + 1) = false := by simp; omega
  clear ge ha h8 hb h2
  have key : decide ((1 : Int) < (r.length : Int) + 1) = false ∨ (decide ((1 : Int) < (r.length : Int) + 1) = true ∧ ((a.toNat : Int) == 0) = false) ∨
      (∃ h : 0 < r.length, decide ((1 : Int) < (r.length : Int) + 1) = true ∧ ((a.toNat : Int) == 0) = true ∧ decide (((r[0]'h).toNat : Int) < 128) = false) := by
    cases r with
    | nil => left; simp
    | cons b q =>
      right
      by_cases h0 : a.toNat = 0
      · right
        have : ¬ headSmall (b :: q) = true := fun g => h3 ⟨h0, g⟩
        simp only [headSmall, decide_eq_true_eq] at this
        refine ⟨by simp, by simp; omega, by simp; omega, ?_⟩
        simp; omega
      · left
        refine ⟨by simp; omega, by simp; omega⟩
  clear h3
  by_cases hbig : 4611686018427387904 < val (a :: r)
  · have B1 : decide ((4611686018427387904 : Int) < ((val (a :: r) : Nat) : Int)) = true := by simp; omega
    have E := Lib.hid (numR_great hbig)
    clear hbig
    rcases key with k1 | ⟨k1, k2⟩ | ⟨k0, k1, k2, k3⟩
    all_goals
      go_enter Try.func75, Try.ntmps75
      go_wp2
      go_loop [4, 33] (fun n i => ∃ k : Nat, k ≤ r.length + 1 ∧ i = .int .i64 (k : Int) ∧ n = .int .i64 ((val ((a :: r).take k) : Nat) : Int)) (fun _ i => r.length + 1 - (intOf i).toNat)
      case atStart => exact ⟨0, by omega, rfl, rfl⟩
      case round =>
        obtain ⟨k, hk, rfl, rfl⟩ := hrel
        by_cases hlt : k < r.length + 1
        · have hlt' : k < (a :: r).length := by simpa using hlt
          have V := Lib.hid (val_take_snoc (a :: r) k hlt')
          have hx1 := HB.out k
          have hx2 := HB.out (k + 1)
          rw [V.out] at hx2
          have hu := u8_le ((a :: r)[k])
          go_wp2
          refine ⟨⟨k + 1, by omega, by go_num, ?_⟩, by simp [intOf]; omega⟩
          rw [or_low _ _ (by omega) (by omega), V.out]
          go_num
        · obtain rfl : k = r.length + 1 := by omega
          have e : (a :: r).take (r.length + 1) = a :: r := List.take_of_length_le (by simp)
          rw [e]
          clear e hk hlt
          go_wp2
          go_ret2
          exact ⟨by rw [E.out]; rfl, Drawn.refl _⟩
  · have B1 : decide ((4611686018427387904 : Int) < ((val (a :: r) : Nat) : Int)) = false := by simp; omega
    have E := Lib.hid (numR_good (by omega) H2.out H3.out (by omega))
    clear hbig
    rcases key with k1 | ⟨k1, k2⟩ | ⟨k0, k1, k2, k3⟩
    all_goals
      go_enter Try.func75, Try.ntmps75
      go_wp2
      go_loop [4, 33] (fun n i => ∃ k : Nat, k ≤ r.length + 1 ∧ i = .int .i64 (k : Int) ∧ n = .int .i64 ((val ((a :: r).take k) : Nat) : Int)) (fun _ i => r.length + 1 - (intOf i).toNat)
      case atStart => exact ⟨0, by omega, rfl, rfl⟩
      case round =>
        obtain ⟨k, hk, rfl, rfl⟩ := hrel
        by_cases hlt : k < r.length + 1
        · have hlt' : k < (a :: r).length := by simpa using hlt
          have V := Lib.hid (val_take_snoc (a :: r) k hlt')
          have hx1 := HB.out k
          have hx2 := HB.out (k + 1)
          rw [V.out] at hx2
          have hu := u8_le ((a :: r)[k])
          go_wp2
          refine ⟨⟨k + 1, by omega, by go_num, ?_⟩, by simp [intOf]; omega⟩
          rw [or_low _ _ (by omega) (by omega), V.out]
          go_num
        · obtain rfl : k = r.length + 1 := by omega
          have e : (a :: r).take (r.length + 1) = a :: r := List.take_of_length_le (by simp)
          rw [e]
          clear e hk hlt
          go_wp2
          go_ret2
          exact ⟨by rw [E.out]; rfl, Drawn.refl _⟩
theorem number_any (s : L) (hs : (s.length : Int) ≤ 100000) (w : World) : Calls Try.prog 75 #[.string ⟨s.toArray⟩] w fun e w' => e = .returned (numV (numR s)) ∧ Drawn w w' := by
  cases s with
  | nil => exact number_nil w
  | cons a r =>
    simp only [List.length_cons] at hs
    by_cases h1 : 7 < r.length
    · exact number_long a r h1 (by omega) w
    · by_cases h2 : 128 ≤ a.toNat
      · exact number_high a r h1 h2 w
      · by_cases h3 : a.toNat = 0 ∧ headSmall r = true
        · obtain ⟨h3, h4⟩ := h3
          cases r with
          | nil => simp [headSmall] at h4
          | cons b q => exact number_lead a b q h1 h3 (by simpa [headSmall] using h4) w
        · exact number_loop (a :: r) (by simp) (by simp; omega) rfl a r rfl (by omega) h3 w
end Go.Proofs.Yteeabfplnaknfaa.DerC
end

section
namespace Go.Proofs.Yteeabfplnaknfaa.DerC
open Go.RowKit Go.Proofs.Yteeabfplnaknfaa.Mem Go.Proofs.Yteeabfplnaknfaa.DerP
attribute [local go_sem] mk_at List.getElem_cons_zero List.getElem_cons_succ ext_tail ext_drop ext_mid

theorem int_any (g : Nat) (c : Option L) (w : World) (h : Cur w g c) (hs : ((c.getD []).length : Int) ≤ 100000) : Calls Try.prog 56 #[.pointer (some ⟨g, 0, none⟩)] w fun e w' =>
    e = .returned (.int .i64 ((intC c).1 : Int)) ∧ Cur w' g (intC c).2 ∧ w.grownBy w' (some g) := by
  have ht : ∀ W, Cur W g c → Calls Try.prog 72 #[.pointer (some ⟨g, 0, none⟩), .int .u8 2] W fun e w' =>
      e = .returned (.tuple #[.string ⟨((bodyC 2 c).getD []).toArray⟩, .bool (bodyC 2 c).isSome]) ∧ Cur w' g (nextC 2 c) ∧ W.grownBy w' (some g) := fun W hW => take_any 2 g c W hW hs
  have HT := Lib.hid ht; clear ht
  have hbl := (body_len 2 c).1
  cases hb : bodyC 2 c with
  | none =>
    have E := Lib.hid (show intC c = (0, none) by simp only [intC, hb])
    have hn := Lib.hid (body_next 2 c hb)
    rw [hb] at HT
    have HB := Lib.hid hb; clear hb hbl
    go_enter Try.func56, Try.ntmps56
    go_wp2_with (go_at_call 72; refine (HT.out _ h).mono ?_; rintro e w' ⟨rfl, hc, hg⟩)
    go_ret
    rw [E.out]
    exact ⟨rfl, by rw [← hn.out]; exact hc, hg⟩
  | some b =>
    rw [hb] at HT
    rw [hb] at hbl
    simp only [Option.getD_some] at hbl
    have hn : ∀ W, Calls Try.prog 75 #[.string ⟨b.toArray⟩] W fun e w' => e = .returned (numV (numR b)) ∧ Drawn W w' := fun W => number_any b (by omega) W
    cases hx : numL b with
    | none =>
      have E := Lib.hid (show intC c = (0, none) by simp only [intC, hb, hx])
      rw [numR_none hx] at hn
      simp only [numV] at hn
      have HN := Lib.hid hn; clear hn
      have HB := Lib.hid hb; clear hb hbl hx
      go_enter Try.func56, Try.ntmps56
      go_wp2_with (first
        | (go_at_call 72; refine (HT.out _ h).mono ?_; rintro e w1 ⟨rfl, hc, hg⟩)
        | (go_at_call 75; refine (HN.out _).mono ?_; rintro e w' ⟨rfl, q, rfl⟩)
        | (go_at_call 76; refine (fail_any _ _ _ (hc.drewN q)).mono ?_; rintro e w' ⟨rfl, hc1, hg1⟩))
      go_ret
      rw [E.out]
      exact ⟨rfl, hc1, (g_drewN hg q).trans hg1⟩
    | some n =>
      have E := Lib.hid (show intC c = (n, nextC 2 c) by simp only [intC, hb, hx])
      rw [numR, hx] at hn
      simp only [numV, Option.getD_some, Option.isSome_some] at hn
      have HN := Lib.hid hn; clear hn
      have HB := Lib.hid hb; clear hb hbl hx
      go_enter Try.func56, Try.ntmps56
      go_wp2_with (first
        | (go_at_call 72; refine (HT.out _ h).mono ?_; rintro e w1 ⟨rfl, hc, hg⟩)
        | (go_at_call 75; refine (HN.out _).mono ?_; rintro e w' ⟨rfl, q, rfl⟩))
      go_ret
      rw [E.out]
      exact ⟨rfl, hc.drewN q, g_drewN hg q⟩

theorem octets_any (g : Nat) (c : Option L) (w : World) (h : Cur w g c) (hs : ((c.getD []).length : Int) ≤ 100000) : Calls Try.prog 73 #[.pointer (some ⟨g, 0, none⟩)] w fun e w' =>
    (∃ b cap, e = .returned (.slice (some ⟨b, 0, none⟩) ((bodyC 4 c).getD []).length cap) ∧ ((bodyC 4 c).getD []).length ≤ cap ∧ Fresh w' w.heap.size b ((bodyC 4 c).getD [])) ∧ Cur w' g (nextC 4 c) ∧ w.grownBy w' (some g) := by
  have hcv := fun (W : World) => Lib.run_convert_string_bytes (P := Try.prog) W 9 26 5 ⟨((bodyC 4 c).getD []).toArray⟩ Try.underlying9 Try.underlying26 Try.underlying5
  go_enter Try.func73, Try.ntmps73
  go_wp2_with (go_at_call 72; refine (take_any 4 g c _ h hs).mono ?_; rintro e w1 ⟨rfl, hc, hg⟩)
  go_ret
  exact ⟨⟨_, _, rfl, grownCap_ge _ _ _ _, by have := bytes_fresh w1 5 ((bodyC 4 c).getD []); exact ⟨Nat.le_trans hg.size this.1, this.2⟩⟩, hc.below (bytes_below _ _ _), g_then hg (bytes_below _ _ _)⟩
theorem text_any (g : Nat) (c : Option L) (w : World) (h : Cur w g c) (hs : ((c.getD []).length : Int) ≤ 100000) : Calls Try.prog 55 #[.pointer (some ⟨g, 0, none⟩)] w fun e w' =>
    e = .returned (.string ⟨((bodyC 27 c).getD []).toArray⟩) ∧ Cur w' g (nextC 27 c) ∧ w.grownBy w' (some g) := by
  have hl : ((bodyC 27 c).getD []).length ≤ 1000000000 := by
    have := (body_len 27 c).1
    omega
  have HL := Lib.hid hl; clear hl
  go_enter Try.func55, Try.ntmps55
  go_wp2_with (first
    | (go_at_call 72; refine (take_any 27 g c _ h hs).mono ?_; rintro e w1 ⟨rfl, hc, hg⟩)
    | (go_at_call 74; refine (Nm.clone_any _ _ HL.out).mono ?_; rintro e w2 ⟨rfl, hb⟩))
  go_ret
  exact ⟨rfl, hc.below hb, g_then hg hb⟩
theorem into_any (t : UInt8) (g : Nat) (c : Option L) (w : World) (h : Cur w g c) (hs : ((c.getD []).length : Int) ≤ 100000) : Calls Try.prog 52 #[.pointer (some ⟨g, 0, none⟩), .int .u8 t.toNat] w fun e w' =>
    (∃ g', e = .returned (.pointer (some ⟨g', 0, none⟩)) ∧ w.heap.size ≤ g' ∧ Cur w' g' (bodyC t c)) ∧ Cur w' g (nextC t c) ∧ w.grownBy w' (some g) := by
  go_enter Try.func52, Try.ntmps52
  go_wp2_with (go_at_call 72; refine (take_any t g c _ h hs).mono ?_; rintro e w1 ⟨rfl, hc, hg⟩)
  go_ret
  refine ⟨⟨_, rfl, hg.size, ?_⟩, hc.alloc _, g_alloc hg _⟩
  have := Blk.new w1 105 (curCells (bodyC t c))
  cases hb : bodyC t c <;> (rw [hb] at this; exact this)
theorem open_any (B : Nat) (A : Option Addr) (l : L) (n cap : Nat) (w : World) (h : Rd w B A (bvs l)) (hn : n = l.length) : Calls Try.prog 51 #[.slice A n cap] w fun e w' =>
    ∃ g', e = .returned (.pointer (some ⟨g', 0, none⟩)) ∧ w.heap.size ≤ g' ∧ Cur w' g' (some l) ∧ Below w.heap.size w w' := by
  have hcv := run_bytes_str (P := Try.prog) w 26 5 Try.underlying26 Try.underlying5 h n cap hn 9 Try.underlying9
  have HN := Lib.hid hn; clear hn
  go_enter Try.func51, Try.ntmps51
  go_wp2
  go_ret
  exact ⟨_, rfl, Nat.le_refl _, Blk.new w 105 (curCells (some l)), (Below.refl _ _).alloc (Nat.le_refl _) _⟩

end Go.Proofs.Yteeabfplnaknfaa.DerC
end
