import Derived.WalkKit
import Derived.WalkSpells
import Derived.WalkLawsBesides
import Derived.LaidEqlPtr
import Derived.Maps.AppendAt
import Derived.Maps.Range
import Derived.Maps.RangeWalk
import Derived.Deep.AppendLies
import Derived.Deep.Draws
import Derived.Deep.Onto
import Derived.Lib.ConvBytes
import Derived.Lib.Hide
import Derived.RegionTactic
import Derived.Deep.QuietTactic
import Derived.BigQuiet
import Derived.Laws.BitsAllLaws
import Derived.Laws.BitsLemmas
import Derived.Lib.ItoaNum
import Derived.Test.YteeabfplnaknfaaProg
section
namespace Go.Proofs.Yteeabfplnaknfaa.Mem
open Go.RowKit

theorem mk_at (l : List UInt8) (i : Nat) (h : i < (ByteArray.mk l.toArray).size) : (ByteArray.mk l.toArray)[i]'h = l[i]'(by simpa [ByteArray.size] using h) := rfl
theorem ext_tail (a : UInt8) (r : List UInt8) : (ByteArray.mk (a :: r).toArray).extract 1 (r.length + 1) = ByteArray.mk r.toArray := by
  rw [ByteArray.extract_mk]; simp
theorem ext_drop (l : List UInt8) (k : Nat) : (ByteArray.mk l.toArray).extract k l.length = ByteArray.mk (l.drop k).toArray := by
  rw [ByteArray.extract_mk, List.take_of_length_le (by simp)]
theorem ext_mid (l : List UInt8) (k n : Nat) : (ByteArray.mk l.toArray).extract k (k + n) = ByteArray.mk ((l.drop k).take n).toArray := by
  rw [ByteArray.extract_mk, Nat.add_sub_cancel_left]
theorem u8_le (a : UInt8) : (a.toNat : Int) ≤ 255 := by have := a.toNat_lt; omega
theorem bytes_eta (s : ByteArray) : s = ⟨s.data.toList.toArray⟩ := by cases s; simp

theorem i64_nat (a : Nat) (ha : a < 9223372036854775808) : (BitVec.ofInt 64 (a : Int)).toNat = a := by
  rw [BitVec.ofInt_natCast, BitVec.toNat_ofNat]; exact Nat.mod_eq_of_lt (by omega)
theorem or_low (x y : Nat) (hy : y < 256) (hx : x * 256 + y < 9223372036854775808) : bits .or .i64 ((x : Int) * 256) (y : Int) = (x : Int) * 256 + y := by
  have g1 := i64_nat (x * 256) (Nat.lt_of_le_of_lt (Nat.le_add_right _ _) hx)
  have g2 := i64_nat y (Nat.lt_of_le_of_lt (Nat.le_add_left _ _) hx)
  have e : ((x : Int) * 256) = ((x * 256 : Nat) : Int) := by omega
  have h1 : x * 256 ||| y = x * 256 + y := by
    have h := Nat.shiftLeft_add_eq_or_of_lt (show y < 2 ^ 8 by omega) x
    rw [Nat.shiftLeft_eq] at h
    simpa using h.symm
  rw [e]
  show IntKind.i64.wrap ((BitVec.ofInt 64 ((x * 256 : Nat) : Int) ||| BitVec.ofInt 64 (y : Int)).toNat : Int) = _
  rw [BitVec.toNat_or, g1, g2, h1, IntKind.wrap_i64]
  omega

def bv (b : UInt8) : Value := .int .u8 (b.toNat : Int)
def bvs (l : List UInt8) : List Value := l.map bv
theorem bvs_length (l : List UInt8) : (bvs l).length = l.length := by simp [bvs]
theorem bvs_append (l m : List UInt8) : bvs (l ++ m) = bvs l ++ bvs m := by simp [bvs]
theorem bvs_one (l : List UInt8) : ∀ u ∈ bvs l, u.oneCell' = true := by
  intro u hu
  obtain ⟨b, _, rfl⟩ := List.mem_map.1 hu
  rfl
theorem bvs_at {l : List UInt8} {i : Nat} (h : i < l.length) : (bvs l)[i]? = some (bv l[i]) := by simp [bvs, h]
def Rd (w : World) (B : Nat) (A : Option Addr) (xs : List Value) : Prop :=
  xs = [] ∨ ∃ b o, A = some ⟨b, o, none⟩ ∧ b < B ∧ ∀ i u, xs[i]? = some u → w.cell? ⟨b, o + i, none⟩ = some u

def Blk (w : World) (g : Nat) (t : TypeId) (cs : Array Value) : Prop := w.heap[g]? = some (.cells cs t (0, 0))

theorem addr_add (b o j : Nat) : (⟨b, o, none⟩ : Addr).add j = ⟨b, o + j, none⟩ := by unfold Addr.add; split <;> simp_all

section
variable {w w' a c : World} {B B' g : Nat} {A : Option Addr} {xs : List Value} {t : TypeId} {cs : Array Value}

theorem below_drewN (h : Below B a w) (n : Nat) : Below B a (w.drewN n) := ⟨h.os, h.tape, h.output, h.size, h.block⟩
theorem g_drewN {row : Option Nat} (h : a.grownBy w row) (n : Nat) : a.grownBy (w.drewN n) row := ⟨h.os, h.tape, h.output, h.size, h.block⟩
theorem g_alloc {row : Option Nat} (h : a.grownBy w row) (o : Obj) : a.grownBy (w.alloc o) row :=
  ⟨h.os, h.tape, h.output, Nat.le_trans h.size (by simp), fun i hi hne => (Below.heap_alloc w o i (Nat.lt_of_lt_of_le hi h.size)).trans (h.block i hi hne)⟩
theorem g_set {row : Option Nat} (h : a.grownBy w row) {p : Addr} (hp : row = some p.block ∨ a.heap.size ≤ p.block) (u : Value) : a.grownBy (w.setCell p u) row :=
  ⟨h.os, h.tape, h.output, by simpa [World.setCell] using h.size, fun i hi hne => (Below.heap_setCell w p u i (by
    rintro rfl
    rcases hp with hp | hp
    · exact hne hp.symm
    · omega)).trans (h.block i hi hne)⟩
theorem g_of_below (h : Below a.heap.size a w) (row : Option Nat) : a.grownBy w row := ⟨h.os, h.tape, h.output, h.size, fun i hi _ => h.block i hi⟩
theorem g_then {row : Option Nat} (h : a.grownBy w row) (k : Below w.heap.size w c) : a.grownBy c row :=
  ⟨k.os.trans h.os, k.tape.trans h.tape, k.output.trans h.output, Nat.le_trans h.size k.size, fun i hi hn => (k.block i (Nat.lt_of_lt_of_le hi h.size)).trans (h.block i hi hn)⟩
theorem below_then (h : Below B a w) (hB : B ≤ w.heap.size) (k : Below w.heap.size w c) : Below B a c := h.trans (k.mono hB)
theorem below_g (h : Below B a w) (k : w.grownBy c (some g)) (hB : B ≤ w.heap.size) (hg : B ≤ g) : Below B a c :=
  h.grown k hB (fun j hj => by injection hj with hj; omega)
theorem bt (h : Below a.heap.size a w) (k : Below w.heap.size w c) : Below a.heap.size a c := h.trans (k.mono h.size)
theorem Blk.lt (h : Blk w g t cs) : g < w.heap.size := by
  rcases Nat.lt_or_ge g w.heap.size with h1 | h1
  · exact h1
  · unfold Blk at h; rw [Array.getElem?_eq_none h1] at h; cases h
theorem Blk.cell (h : Blk w g t cs) (i : Nat) : w.cell? ⟨g, i, none⟩ = cs[i]? := cell_of_row w g i cs t (0, 0) h
theorem Blk.frozen (h : Blk w g t cs) (i : Nat) : w.frozen? ⟨g, i, none⟩ = false := by
  unfold Blk at h
  simp [World.frozen?, h]
theorem Blk.new (w : World) (t : TypeId) (cs : Array Value) : Blk (w.alloc (.cells cs t)) w.heap.size t cs := heap_alloc_new w _
theorem Blk.drewN (h : Blk w g t cs) (n : Nat) : Blk (w.drewN n) g t cs := h
theorem Blk.alloc (h : Blk w g t cs) (o : Obj) : Blk (w.alloc o) g t cs := (Below.heap_alloc w o g h.lt).trans h
theorem Blk.set (h : Blk w g t cs) (i : Nat) (u : Value) : Blk (w.setCell ⟨g, i, none⟩ u) g t (cs.setIfInBounds i u) := by
  unfold Blk at h ⊢
  simp [World.setCell, Array.getElem?_modify, h]
theorem Blk.below (h : Blk w g t cs) (hb : Below w.heap.size w w') : Blk w' g t cs := (hb.block g h.lt).trans h
theorem Blk.grown {row : Option Nat} (h : Blk w g t cs) (hb : w.grownBy w' row) (hg : row ≠ some g) : Blk w' g t cs := (hb.block g h.lt (fun e => hg e.symm)).trans h

theorem Rd.nil : Rd w B A [] := .inl rfl
theorem Rd.keep (h : Rd w B A xs) (hk : ∀ b o, b < B → w'.cell? ⟨b, o, none⟩ = w.cell? ⟨b, o, none⟩) : Rd w' B A xs := by
  rcases h with h | ⟨b, o, h1, h2, h3⟩
  · exact .inl h
  · exact .inr ⟨b, o, h1, h2, fun i u hu => (hk _ _ h2).trans (h3 i u hu)⟩
theorem Rd.more (h : Rd w B A xs) (hB : B ≤ B') : Rd w B' A xs := by
  rcases h with h | ⟨b, o, h1, h2, h3⟩
  · exact .inl h
  · exact .inr ⟨b, o, h1, by omega, h3⟩
theorem Rd.below (h : Rd w B A xs) (hb : Below B w w') : Rd w' B A xs := h.keep fun _ _ hp => hb.cell hp
theorem Rd.drewN (h : Rd w B A xs) (n : Nat) : Rd (w.drewN n) B A xs := h.keep fun _ _ _ => rfl
theorem Rd.alloc (h : Rd w B A xs) (hB : B ≤ w.heap.size) (o : Obj) : Rd (w.alloc o) B A xs :=
  h.below ((Below.refl B w).alloc hB o)
theorem Rd.grown {row : Option Nat} (h : Rd w B A xs) (hg : w.grownBy w' row) (hB : B ≤ w.heap.size) (hr : ∀ k, row = some k → B ≤ k) : Rd w' B A xs :=
  h.below ((Below.refl B w).grown hg hB hr)
theorem Rd.of_own {base n cap : Nat} (h : w.ownsRow base t 1 (.slice A n cap) n xs) : Rd w w.heap.size A xs := by
  rcases h.2 with ⟨_, h2⟩ | ⟨g, cap', cur, hv, _, hh, _⟩
  · left
    have h1 := h.1
    rw [h2] at h1
    exact List.eq_nil_of_length_eq_zero (by simpa using h1)
  · right
    injection hv with hA _ _
    subst hA
    exact ⟨g, 0, rfl, (Array.getElem?_eq_some_iff.1 hh).1, fun i u hu => by
      have := h.cells (g := g) rfl i u hu
      rwa [addr_add] at this⟩
theorem own_kept {base n size : Nat} {v : Value} (h : w.ownsRow base t size v n xs) (hb : Below w.heap.size w w') : w'.ownsRow base t size v n xs :=
  h.kept (g_of_below hb none) (by cases v.ownBlock <;> simp)
theorem Rd.at_ {i : Nat} {u : Value} (h : Rd w B A xs) (hi : xs[i]? = some u) : ∃ b o, A = some ⟨b, o, none⟩ ∧ b < B ∧ w.cell? ⟨b, o + i, none⟩ = some u := by
  rcases h with h | ⟨b, o, h1, h2, h3⟩
  · subst h; simp at hi
  · exact ⟨b, o, h1, h2, h3 i u hi⟩
end

section
variable {P : Program} (w : World)

theorem run_bytes_str {B : Nat} {A : Option Addr} {l : List UInt8} (src e : TypeId) (hs : P.underlying src = some (.slice e)) (he : P.underlying e = some (.int .u8)) (h : Rd w B A (bvs l)) (n c : Nat) (hn : n = l.length)
    (dst : TypeId) (hd : P.underlying dst = some .string) : (convert src dst (.slice A n c)).run P w = .ok (.string ⟨l.toArray⟩) w := by
  subst hn
  have key : ∀ a : Addr, A = some a → (∀ i u, (bvs l)[i]? = some u → w.cell? (a.add i) = some u) → (convert src dst (.slice A l.length c)).run P w = .ok (.string ⟨l.toArray⟩) w := by
    intro a ha hc
    subst ha
    have e1 : (l.map fun b => (b.toNat : Int)).map (Value.int .u8) = bvs l := by simp [bvs, bv, Function.comp_def]
    have hl : (loadCells a l.length).run P w = .ok ((l.map fun b => (b.toNat : Int)).map (Value.int .u8)).toArray w := by
      have := run_loadCells_list (P := P) w a (bvs l) hc
      rw [bvs_length] at this
      rw [e1]; exact this
    rw [run_convert_bytes_string w src dst e _ _ c hs he hd, run_bytesToString w a l.length c _ hl, foldl_push_bytes]
    have e2 : ((l.map fun b => (b.toNat : Int)).map fun n => UInt8.ofNat n.toNat) = l := by
      rw [List.map_map]
      conv => rhs; rw [← List.map_id l]
      apply List.map_congr_left
      intro b _
      simp
    rw [e2]
    simp [ByteArray.empty, ByteArray.emptyWithCapacity]
    rfl
  cases hA : A with
  | some a =>
    rw [← hA]
    refine key a hA ?_
    rcases h with h | ⟨b, o, h1, _, h3⟩
    · rw [h]; intro i u hu; simp at hu
    · rw [hA] at h1
      injection h1 with h1
      subst h1
      intro i u hu
      rw [addr_add]; exact h3 i u hu
  | none =>
    have hl : l = [] := by
      rcases h with h | ⟨b, o, h1, _, _⟩
      · exact List.map_eq_nil_iff.1 h
      · rw [hA] at h1; cases h1
    subst hl
    rw [run_convert_bytes_nil w src e hs he _ c dst hd]
    rfl

theorem run_append_rd (base : Nat) (t ty e : TypeId) (i : TypeInfo) (z : Value) (bytes : Nat) (ht : P.underlying t = some (.slice e)) (hi : P.info? e = some i) (hz : i.zero = some z)
    (hsize : i.size = 1) (hby : i.bytes = bytes) (hzs : z.cells.size = 1)
    (v : Value) (n : Nat) (xs : List Value) (hown : w.ownsRow base e 1 v n xs)
    (B : Nat) (A : Option Addr) (m c : Nat) (news : List Value) (hm : m = news.length) (hr : Rd w B A news) (h1 : ∀ u ∈ news, u.oneCell' = true)
    (h63 : n + m ≤ maxLen) (hbytes : (n + m) * bytes ≤ 140737488355328) (hbase : base ≤ w.heap.size) :
    ∃ v' w', (Builtin.append_ #[t, t] ty #[v, .slice A m c]).run P w = .ok v' w' ∧ w'.ownsRow base e 1 v' (n + m) (xs ++ news) ∧ w.grownBy w' v.ownBlock ∧
      (v'.ownBlock = v.ownBlock ∨ v'.ownBlock = some w.heap.size) := by
  subst hm
  cases hA : A with
  | some a =>
    have hc : ∀ j u, news[j]? = some u → w.cell? (a.add j) = some u := by
      rcases hr with h | ⟨b, o, h1, _, h3⟩
      · rw [h]; intro i u hu; simp at hu
      · rw [hA] at h1
        injection h1 with h1
        subst h1
        intro i u hu
        rw [addr_add]; exact h3 i u hu
    obtain ⟨v', w', hrun, h2, h3, _, h5⟩ := run_append_own_at (P := P) w base t ty e i z 1 bytes ht hi hz hsize hby hzs (by omega) v n xs hown a news.length c news (by omega) hc h1 h63 hbytes hbase
    exact ⟨v', w', hrun, h2, h3, h5⟩
  | none =>
    have hn : news = [] := by
      rcases hr with h | ⟨b, o, h1, _, _⟩
      · exact h
      · rw [hA] at h1; cases h1
    subst hn
    refine ⟨v, w, ?_, by simpa using hown, World.grownBy.refl w _, .inl rfl⟩
    rcases hown.2 with ⟨rfl, rfl⟩ | ⟨g, cap, cur, rfl, _, _, hnc, _⟩
    · simp [Builtin.append_, run_underlying ht, sizeOf, typeInfo, hi, Builtin.lenOf, Builtin.firstCells]
    · simp [Builtin.append_, run_underlying ht, sizeOf, typeInfo, hi, Builtin.lenOf, Builtin.firstCells, hnc, storeCells]

theorem wp_append_rd {o : Oper} {a : Act} {K : Act → World → Prop} {Q : Exit → Act → World → Prop} (s x : Operand) (t : TypeId)
    (ho : o.op = .call { callee := .builtin .append, args := #[s, x], argTypes := #[t, t] })
    (base : Nat) (e : TypeId) (i : TypeInfo) (z : Value) (bytes : Nat) (ht : P.underlying t = some (.slice e)) (hi : P.info? e = some i) (hz : i.zero = some z)
    (hsize : i.size = 1) (hby : i.bytes = bytes) (hzs : z.cells.size = 1)
    (v : Value) (n : Nat) (xs : List Value) (hs : a.eval s = v) (hown : w.ownsRow base e 1 v n xs)
    (B : Nat) (A : Option Addr) (m c : Nat) (news : List Value) (hx : a.eval x = .slice A m c) (hm : m = news.length) (hr : Rd w B A news) (h1 : ∀ u ∈ news, u.oneCell' = true)
    (h63 : n + m ≤ maxLen) (hbytes : (n + m) * bytes ≤ 140737488355328) (hbase : base ≤ w.heap.size)
    (h : ∀ v' w', w'.ownsRow base e 1 v' (n + m) (xs ++ news) → w.grownBy w' v.ownBlock → (v'.ownBlock = v.ownBlock ∨ v'.ownBlock = some w.heap.size) → K (a.put o.dst v') w') : o.wp P a w K Q := by
  obtain ⟨v', w', hrun, h2, h3, h4⟩ := run_append_rd (P := P) w base t o.type e i z bytes ht hi hz hsize hby hzs v n xs hown B A m c news hm hr h1 h63 hbytes hbase
  unfold Oper.wp execOp
  simp only [ho, resolve, invoke, builtin, Sem.run_bind, Sem.run_pure, Result.andThen_ok, List.map_toArray, List.map_cons, List.map_nil, hs, hx, hrun]
  exact h v' w' h2 h3 h4

theorem wpList_append_rd {ops : Array Oper} {rest : List Oper} {o : Oper} {a : Act} {Q : Exit → Act → World → Prop} (hgd : o.guard = none) (s x : Operand) (t : TypeId)
    (ho : o.op = .call { callee := .builtin .append, args := #[s, x], argTypes := #[t, t] })
    (base : Nat) (e : TypeId) (i : TypeInfo) (z : Value) (bytes : Nat) (ht : P.underlying t = some (.slice e)) (hi : P.info? e = some i) (hz : i.zero = some z)
    (hsize : i.size = 1) (hby : i.bytes = bytes) (hzs : z.cells.size = 1)
    (v : Value) (n : Nat) (xs : List Value) (hs : a.eval s = v) (hown : w.ownsRow base e 1 v n xs)
    (B : Nat) (A : Option Addr) (m c : Nat) (news : List Value) (hx : a.eval x = .slice A m c) (hm : m = news.length) (hr : Rd w B A news) (h1 : ∀ u ∈ news, u.oneCell' = true)
    (h63 : n + m ≤ maxLen) (hbytes : (n + m) * bytes ≤ 140737488355328) (hbase : base ≤ w.heap.size)
    (h : ∀ v' w', w'.ownsRow base e 1 v' (n + m) (xs ++ news) → w.grownBy w' v.ownBlock → (v'.ownBlock = v.ownBlock ∨ v'.ownBlock = some w.heap.size) → wpList P ops Q rest (a.put o.dst v') w') : wpList P ops Q (o :: rest) a w :=
  wpList_plain hgd fun _ hK => wp_append_rd w s x t ho base e i z bytes ht hi hz hsize hby hzs v n xs hs hown B A m c news hx hm hr h1 h63 hbytes hbase fun v' w' h2 h3 h4 => hK _ _ (h v' w' h2 h3 h4)
end

def zeros (n : Nat) : Array Value := (List.replicate n (bv 0)).toArray
theorem zeros_size (n : Nat) : (zeros n).size = n := by simp [zeros]
theorem run_make_bytes {P : Program} {t e : TypeId} {i : TypeInfo} (ht : P.underlying t = some (.slice e)) (hi : P.info? e = some i) (hz : i.zero = some (.int .u8 0)) (hs : i.size = 1) (hb : i.bytes = 1)
    (C : Int) (n : Nat) (hC : C = (n : Int)) (hn : n ≤ 1000000) (w : World) :
    (Instr.makeSlice t (.int .i64 C) (.int .i64 C)).run P w = .ok (.slice (some ⟨w.heap.size, 0, none⟩) n n) (w.alloc (.cells (zeros n) e)) := by
  subst hC
  have h := run_make (P := P) w t e i _ ht hi hz .i64 .i64 (n : Int) (n : Int) (by omega) (by omega) (by rw [hb]; omega) (by omega)
  rw [Int.toNat_natCast, hs, Nat.mul_one] at h
  rw [h]
  have e1 : madeCells (Value.int .u8 0).cells n = zeros n := by
    apply Array.toList_inj.1
    rw [show (Value.int .u8 0).cells = #[Value.int .u8 0] from rfl, toList_madeCells_one]
    simp [zeros, bv]
  rw [e1]
theorem run_make_room {P : Program} {t e : TypeId} {i : TypeInfo} (ht : P.underlying t = some (.slice e)) (hi : P.info? e = some i) (hz : i.zero = some (.int .u8 0)) (hs : i.size = 1) (hb : i.bytes = 1)
    (C : Int) (n : Nat) (hC : C = (n : Int)) (hn : n ≤ 1000000) (w : World) :
    (Instr.makeSlice t (.int .i64 0) (.int .i64 C)).run P w = .ok (.slice (some ⟨w.heap.size, 0, none⟩) 0 n) (w.alloc (.cells (zeros n) e)) := by
  subst hC
  have h := run_make (P := P) w t e i _ ht hi hz .i64 .i64 0 (n : Int) (by omega) (by omega) (by rw [hb]; omega) (by omega)
  rw [Int.toNat_natCast, hs, Nat.mul_one] at h
  rw [h]
  have e1 : madeCells (Value.int .u8 0).cells n = zeros n := by
    apply Array.toList_inj.1
    rw [show (Value.int .u8 0).cells = #[Value.int .u8 0] from rfl, toList_madeCells_one]
    simp [zeros, bv]
  rw [e1]
  rfl

theorem bytes_below (w : World) (e : TypeId) (s : ByteArray) : Below w.heap.size w (Lib.bytesWorld w e s) :=
  ⟨rfl, rfl, rfl, by rw [Lib.bytesWorld_size]; omega, fun k hk => Lib.bytesWorld_at_old w e s k hk⟩

def Fresh (w : World) (base b : Nat) (l : List UInt8) : Prop :=
  base ≤ b ∧ b < w.heap.size ∧ ∀ i (h : i < l.length), w.cell? ⟨b, i, none⟩ = some (bv l[i]) ∧ w.frozen? ⟨b, i, none⟩ = false
theorem bytes_fresh (w : World) (e : TypeId) (l : List UInt8) : Fresh (Lib.bytesWorld w e ⟨l.toArray⟩) w.heap.size w.heap.size l := by
  refine ⟨Nat.le_refl _, by rw [Lib.bytesWorld_size]; omega, fun i h => ⟨?_, ?_⟩⟩
  · rw [Lib.bytesWorld_cell w e ⟨l.toArray⟩ i (by simpa [ByteArray.size] using h)]
    simp [bv, List.getD, h]
  · have hsz : i < (Lib.bytesCells w e ⟨l.toArray⟩).size := by
      simp only [Lib.bytesCells, Array.size_append, Array.size_map, Array.size_replicate]
      simp
      omega
    simp only [World.frozen?, Lib.bytesWorld_at_new]
    simp
    omega
theorem Fresh.rd {w : World} {base b : Nat} {l : List UInt8} (h : Fresh w base b l) : Rd w w.heap.size (some ⟨b, 0, none⟩) (bvs l) := by
  refine .inr ⟨b, 0, rfl, h.2.1, fun i u hu => ?_⟩
  have hi : i < l.length := by
    rcases Nat.lt_or_ge i l.length with g | g
    · exact g
    · rw [List.getElem?_eq_none (by rw [bvs_length]; exact g)] at hu; cases hu
  rw [bvs_at hi] at hu
  injection hu with hu
  subst hu
  rw [Nat.zero_add]
  exact (h.2.2 i hi).1

end Go.Proofs.Yteeabfplnaknfaa.Mem
end

section
namespace Go.Proofs.Yteeabfplnaknfaa.DerP

abbrev L := List UInt8

def szL (n : Nat) : L := if n < 128 then [UInt8.ofNat n] else if n ≤ 255 then [129, UInt8.ofNat n] else [130, UInt8.ofNat (n / 256), UInt8.ofNat n]
def elem (t : UInt8) (p : L) : L := t :: (szL p.length ++ p)

def lenR : L → Nat × Nat × Bool
  | [] => (0, 0, false)
  | a :: r =>
    if a.toNat < 128 then (a.toNat, 1, true)
    else if a.toNat = 129 then
      match r with
      | [] => (0, 0, false)
      | b :: _ => (b.toNat, 2, decide (128 ≤ b.toNat))
    else if a.toNat = 130 then
      match r with
      | b :: c :: _ => (b.toNat * 256 + c.toNat, 3, decide (255 < b.toNat * 256 + c.toNat))
      | _ => (0, 0, false)
    else (0, 0, false)

def splitL (t : UInt8) : L → Option (L × L)
  | [] => none
  | a :: s =>
    if a = t ∧ (lenR s).2.2 = true ∧ (lenR s).1 + (lenR s).2.1 ≤ s.length
    then some ((s.drop (lenR s).2.1).take (lenR s).1, (s.drop (lenR s).2.1).drop (lenR s).1) else none

def nextC (t : UInt8) (c : Option L) : Option L := (c.bind (splitL t)).map (·.2)
def bodyC (t : UInt8) (c : Option L) : Option L := (c.bind (splitL t)).map (·.1)

theorem body_none {t : UInt8} {s : L} (h : splitL t s = none) : bodyC t (some s) = none ∧ nextC t (some s) = none := by simp [bodyC, nextC, h]
theorem body_some {t : UInt8} {s b r : L} (h : splitL t s = some (b, r)) : bodyC t (some s) = some b ∧ nextC t (some s) = some r := by simp [bodyC, nextC, h]
def val (l : L) : Nat := l.foldl (fun a b => a * 256 + b.toNat) 0
def headSmall : L → Bool
  | [] => false
  | b :: _ => decide (b.toNat < 128)
def numL : L → Option Nat
  | [] => none
  | a :: r =>
    if 7 < r.length ∨ 128 ≤ a.toNat then none
    else if a.toNat = 0 ∧ headSmall r = true then none
    else if 4611686018427387904 < val (a :: r) then none
    else some (val (a :: r))
def digK : Nat → Nat → L
  | 0, _ => []
  | k + 1, n => digK k (n / 256) ++ [UInt8.ofNat n]
def dig (n : Nat) : L := digK (Lib.bitLen n / 8 + 1) n
def clampN (n : Int) : Nat := (min (max n 0) 4611686018427387904).toNat
def encI (n : Int) : L := elem 2 (dig (clampN n))

def intC (c : Option L) : Nat × Option L :=
  match bodyC 2 c with
  | none => (0, none)
  | some b => match numL b with
    | none => (0, none)
    | some n => (n, nextC 2 c)

theorem clampN_le (n : Int) : clampN n ≤ 4611686018427387904 := by unfold clampN; omega
theorem clampN_of (n : Int) (h0 : 0 ≤ n) (h1 : n ≤ 4611686018427387904) : clampN n = n.toNat := by unfold clampN; omega
theorem clampN_int (n : Int) : ((clampN n : Nat) : Int) = min (max n 0) 4611686018427387904 := by unfold clampN; omega

theorem length_digK (k n : Nat) : (digK k n).length = k := by
  induction k generalizing n with
  | zero => rfl
  | succ k ih => simp [digK, ih]
theorem val_snoc (l : L) (b : UInt8) : val (l ++ [b]) = val l * 256 + b.toNat := by simp [val]
theorem val_digK (k n : Nat) : val (digK k n) = n % 256 ^ k := by
  induction k generalizing n with
  | zero => simp [digK, val, Nat.mod_one]
  | succ k ih =>
    rw [digK, val_snoc, ih]
    have h1 : (UInt8.ofNat n).toNat = n % 256 := by simp
    rw [h1, Nat.pow_succ, Nat.mul_comm (256 ^ k) 256, Nat.mod_mul]
    omega
theorem snoc_cases (l : L) (k : Nat) (h : l.length = k + 1) : ∃ m b, l = m ++ [b] ∧ m.length = k := by
  refine ⟨l.take k, l[k]'(by omega), ?_, by simp; omega⟩
  rw [List.take_append_getElem]
  rw [List.take_of_length_le (by omega)]
theorem digK_val (k : Nat) (l : L) (h : l.length = k) : digK k (val l) = l := by
  induction k generalizing l with
  | zero => rw [List.length_eq_zero_iff.1 h]; rfl
  | succ k ih =>
    obtain ⟨m, b, rfl, hm⟩ := snoc_cases l k h
    rw [digK, val_snoc]
    have hb := b.toNat_lt
    have e : (val m * 256 + b.toNat) / 256 = val m := by omega
    rw [e, ih m hm]
    congr 1
    simp only [List.cons.injEq, and_true]
    apply UInt8.toNat_inj.1
    simp
theorem digK_at (k n j : Nat) (h : j < k) : (digK k n)[j]? = some (UInt8.ofNat (n / 256 ^ (k - 1 - j))) := by
  induction k generalizing n with
  | zero => omega
  | succ k ih =>
    rw [digK]
    by_cases hj : j < k
    · rw [List.getElem?_append_left (by rw [length_digK]; exact hj), ih _ hj]
      congr 2
      rw [Nat.div_div_eq_div_mul]
      congr 1
      rw [show k + 1 - 1 - j = (k - 1 - j) + 1 by omega, Nat.pow_succ, Nat.mul_comm]
    · obtain rfl : j = k := by omega
      rw [List.getElem?_append_right (by rw [length_digK]; omega), length_digK]
      simp
theorem drop_step (l : L) (j : Nat) (b : UInt8) (h : l[j]? = some b) : l.drop j = b :: l.drop (j + 1) := by
  obtain ⟨hj, e⟩ := List.getElem?_eq_some_iff.1 h
  rw [List.drop_eq_getElem_cons hj, e]
theorem val_lt (l : L) : val l < 256 ^ l.length := by
  have h := val_digK l.length (val l)
  rw [digK_val l.length l rfl] at h
  have hp : 0 < 256 ^ l.length := Nat.pow_pos (by omega)
  rw [h]; exact Nat.mod_lt _ hp
theorem val_foldl (l : L) (x : Nat) : l.foldl (fun a b => a * 256 + b.toNat) x = x * 256 ^ l.length + val l := by
  induction l generalizing x with
  | nil => simp [val]
  | cons a r ih =>
    have e : val (a :: r) = a.toNat * 256 ^ r.length + val r := by
      show List.foldl _ (0 * 256 + a.toNat) r = _
      rw [ih]; simp
    rw [List.foldl_cons, ih, e, List.length_cons, Nat.pow_succ, Nat.add_mul, Nat.mul_assoc, Nat.mul_comm 256, Nat.add_assoc]
theorem val_cons (a : UInt8) (r : L) : val (a :: r) = a.toNat * 256 ^ r.length + val r := by
  show List.foldl _ (0 * 256 + a.toNat) r = _
  rw [val_foldl]; simp

theorem bitLen_ge (x : Nat) (hx : x < 18446744073709551616) (k : Nat) (h : 2 ^ k ≤ x) : k + 1 ≤ Lib.bitLen x := by
  have h0 : x ≠ 0 := by
    have := Nat.pow_pos (n := k) (show 0 < 2 by omega); omega
  obtain ⟨_, _, h3⟩ := Lib.bitLenAux_bounds 64 x (by simpa using hx) h0
  have h4 : 2 ^ k < 2 ^ Lib.bitLen x := Nat.lt_of_le_of_lt h h3
  have := (Nat.pow_lt_pow_iff_right (a := 2) (by omega)).1 h4
  omega
theorem bitLen_bound (x k : Nat) (hk : k ≤ 64) (h : x < 2 ^ k) : Lib.bitLen x ≤ k := Lib.bitLen_le x k hk h
theorem lt_bitLen (x : Nat) (hx : x < 18446744073709551616) : x < 2 ^ Lib.bitLen x := by
  by_cases h0 : x = 0
  · subst h0; exact Nat.pow_pos (by omega)
  · exact (Lib.bitLenAux_bounds 64 x (by simpa using hx) h0).2.2
theorem bitLen_62 (n : Nat) (h : n ≤ 4611686018427387904) : Lib.bitLen n ≤ 63 := bitLen_bound n 63 (by omega) (by omega)
theorem length_dig (n : Nat) : (dig n).length = Lib.bitLen n / 8 + 1 := length_digK _ _
theorem dig_len (n : Nat) (h : n ≤ 4611686018427387904) : (dig n).length ≤ 8 := by
  rw [length_dig]; have := bitLen_62 n h; omega
theorem pow256 (k : Nat) : 256 ^ k = 2 ^ (8 * k) := by rw [Nat.pow_mul]
theorem val_dig (n : Nat) (h : n ≤ 4611686018427387904) : val (dig n) = n := by
  rw [dig, val_digK]
  apply Nat.mod_eq_of_lt
  rw [pow256]
  refine Nat.lt_of_lt_of_le (lt_bitLen n (by omega)) (Nat.pow_le_pow_right (by omega) (by omega))

theorem num_dig (n : Nat) (h : n ≤ 4611686018427387904) : numL (dig n) = some n := by
  have hv := val_dig n h
  have hl := length_dig n
  have h62 := bitLen_62 n h
  have hlt := lt_bitLen n (by omega)
  cases hd : dig n with
  | nil => rw [hd] at hl; simp at hl
  | cons a r =>
    rw [hd] at hv hl
    simp only [List.length_cons] at hl
    have hr : r.length = Lib.bitLen n / 8 := by omega
    have hc := val_cons a r
    rw [hv] at hc
    have ha : a.toNat < 128 := by
      rcases Nat.lt_or_ge a.toNat 128 with g | g
      · exact g
      · exfalso
        have h1 : 128 * 256 ^ r.length ≤ n := by
          have := Nat.mul_le_mul_right (256 ^ r.length) g; omega
        have h2 : 2 ^ (8 * r.length + 7) ≤ n := by
          rw [Nat.pow_add, ← pow256, Nat.mul_comm]; simpa using h1
        have h3 := bitLen_ge n (by omega) _ h2
        omega
    have hs : ¬ (a.toNat = 0 ∧ headSmall r = true) := by
      rintro ⟨h0, h1⟩
      cases r with
      | nil => simp [headSmall] at h1
      | cons b q =>
        simp only [headSmall, decide_eq_true_eq] at h1
        have hq := val_cons b q
        have hb := val_lt q
        simp only [List.length_cons] at hr hc
        rw [h0] at hc
        have h4 : n < 128 * 256 ^ q.length := by
          have : (b.toNat + 1) * 256 ^ q.length ≤ 128 * 256 ^ q.length := Nat.mul_le_mul_right _ (by omega)
          rw [Nat.add_mul] at this; omega
        have h5 : n < 2 ^ (8 * q.length + 7) := by
          rw [Nat.pow_add, ← pow256, Nat.mul_comm]; simpa using h4
        have h6 := bitLen_bound n (8 * q.length + 7) (by omega) h5
        omega
    simp only [numL]
    rw [if_neg (by omega), if_neg hs, if_neg (by omega), hv]

theorem val_take_snoc (l : L) (i : Nat) (h : i < l.length) : val (l.take (i + 1)) = val (l.take i) * 256 + (l[i]).toNat := by
  rw [List.take_succ_eq_append_getElem h, val_snoc]
theorem val_take_lt {a : UInt8} {r : L} (ha : a.toNat < 128) (hr : r.length ≤ 7) (i : Nat) : val ((a :: r).take i) < 9223372036854775808 := by
  cases i with
  | zero => simp [val]
  | succ i =>
    rw [List.take_succ_cons, val_cons]
    have h1 := val_lt (r.take i)
    have h2 : (r.take i).length ≤ 7 := by have := List.length_take_le i r; have := List.length_take_le' i r; omega
    have h3 : 256 ^ (r.take i).length ≤ 256 ^ 7 := Nat.pow_le_pow_right (by omega) h2
    have h4 : (a.toNat + 1) * 256 ^ (r.take i).length ≤ 128 * 256 ^ 7 := Nat.mul_le_mul (by omega) h3
    rw [Nat.add_mul] at h4
    have h5 : (128 : Nat) * 256 ^ 7 = 9223372036854775808 := by decide
    omega
def numR (s : L) : Nat × Bool := ((numL s).getD 0, (numL s).isSome)
theorem numL_none {a : UInt8} {r : L} (h : (7 < r.length ∨ 128 ≤ a.toNat) ∨ (a.toNat = 0 ∧ headSmall r = true) ∨ 4611686018427387904 < val (a :: r)) : numL (a :: r) = none := by
  rw [numL]
  by_cases h1 : 7 < r.length ∨ 128 ≤ a.toNat
  · rw [if_pos h1]
  · rw [if_neg h1]
    by_cases h2 : a.toNat = 0 ∧ headSmall r = true
    · rw [if_pos h2]
    · rw [if_neg h2]
      rcases h with h | h | h
      · exact absurd h h1
      · exact absurd h h2
      · rw [if_pos h]
theorem numR_none {s : L} (h : numL s = none) : numR s = (0, false) := by rw [numR, h]; rfl
theorem numR_long {a : UInt8} {r : L} (h : 7 < r.length) : numR (a :: r) = (0, false) := numR_none (numL_none (.inl (.inl h)))
theorem numR_high {a : UInt8} {r : L} (h : 128 ≤ a.toNat) : numR (a :: r) = (0, false) := numR_none (numL_none (.inl (.inr h)))
theorem numR_lead {a b : UInt8} {r : L} (h : a.toNat = 0) (hb : b.toNat < 128) : numR (a :: b :: r) = (0, false) := numR_none (numL_none (.inr (.inl ⟨h, by simpa [headSmall] using hb⟩)))
theorem numR_great {a : UInt8} {r : L} (h : 4611686018427387904 < val (a :: r)) : numR (a :: r) = (0, false) := numR_none (numL_none (.inr (.inr h)))
theorem numR_good {a : UInt8} {r : L} (h1 : r.length ≤ 7) (h2 : a.toNat < 128) (h3 : ¬ (a.toNat = 0 ∧ headSmall r = true)) (h4 : val (a :: r) ≤ 4611686018427387904) : numR (a :: r) = (val (a :: r), true) := by
  simp only [numR, numL]
  rw [if_neg (by omega), if_neg h3, if_neg (by omega)]; rfl

theorem lenR_small {a : UInt8} {r : L} (h : a.toNat < 128) : lenR (a :: r) = (a.toNat, 1, true) := by simp [lenR, h]
theorem lenR_129_nil {a : UInt8} (h : a.toNat = 129) : lenR [a] = (0, 0, false) := by simp [lenR, h]
theorem lenR_129 {a b : UInt8} {r : L} (h : a.toNat = 129) : lenR (a :: b :: r) = (b.toNat, 2, decide (128 ≤ b.toNat)) := by simp [lenR, h]
theorem lenR_130_nil {a : UInt8} (h : a.toNat = 130) : lenR [a] = (0, 0, false) := by simp [lenR, h]
theorem lenR_130_one {a b : UInt8} (h : a.toNat = 130) : lenR [a, b] = (0, 0, false) := by simp [lenR, h]
theorem lenR_130 {a b c : UInt8} {r : L} (h : a.toNat = 130) : lenR (a :: b :: c :: r) = (b.toNat * 256 + c.toNat, 3, decide (255 < b.toNat * 256 + c.toNat)) := by simp [lenR, h]
theorem lenR_else {a : UInt8} {r : L} (h1 : ¬ a.toNat < 128) (h2 : ¬ a.toNat = 129) (h3 : ¬ a.toNat = 130) : lenR (a :: r) = (0, 0, false) := by simp [lenR, h1, h2, h3]
theorem lenR_le (s : L) : (lenR s).1 ≤ 65535 ∧ (lenR s).2.1 ≤ 3 := by
  cases s with
  | nil => simp [lenR]
  | cons a r =>
    have ha := a.toNat_lt
    by_cases h1 : a.toNat < 128
    · rw [lenR_small h1]; simp; omega
    · by_cases h2 : a.toNat = 129
      · cases r with
        | nil => rw [lenR_129_nil h2]; simp
        | cons b q => rw [lenR_129 h2]; have := b.toNat_lt; simp; omega
      · by_cases h3 : a.toNat = 130
        · rcases r with _ | ⟨b, _ | ⟨c, q⟩⟩
          · rw [lenR_130_nil h3]; simp
          · rw [lenR_130_one h3]; simp
          · rw [lenR_130 h3]; have := b.toNat_lt; have := c.toNat_lt; simp; omega
        · rw [lenR_else h1 h2 h3]; simp
theorem length_szL (n : Nat) : (szL n).length = if n < 128 then 1 else if n ≤ 255 then 2 else 3 := by
  unfold szL; split
  · rfl
  · split <;> rfl
theorem length_elem (t : UInt8) (p : L) : (elem t p).length = 1 + (szL p.length).length + p.length := by
  simp [elem]; omega
theorem lenR_szL (n : Nat) (h : n ≤ 65535) (r : L) : lenR (szL n ++ r) = (n, (szL n).length, true) := by
  unfold szL
  by_cases h1 : n < 128
  · have e : n % 256 = n := by omega
    simp [h1, lenR, e]
  · by_cases h2 : n ≤ 255
    · have e : (UInt8.ofNat n).toNat = n := by simp; omega
      simp [h1, h2, lenR]
      omega
    · have e1 : (UInt8.ofNat (n / 256)).toNat = n / 256 := by simp; omega
      have e2 : (UInt8.ofNat n).toNat = n % 256 := by simp
      have e3 : n / 256 % 256 * 256 + n % 256 = n := by omega
      simp [h1, h2, lenR, e3]
      omega
theorem szL_of_lenR {s : L} (h : (lenR s).2.2 = true) : szL (lenR s).1 = s.take (lenR s).2.1 ∧ (lenR s).2.1 = (szL (lenR s).1).length ∧ (lenR s).2.1 ≤ s.length ∧ (lenR s).1 ≤ 65535 := by
  have key : ∀ a : UInt8, UInt8.ofNat a.toNat = a := fun a => by simp
  cases s with
  | nil => simp [lenR] at h
  | cons a r =>
    have ha := a.toNat_lt
    by_cases h1 : a.toNat < 128
    · simp [lenR, h1, szL]; omega
    · by_cases h2 : a.toNat = 129
      · cases r with
        | nil => simp [lenR, h2] at h
        | cons b q =>
          have hb := b.toNat_lt
          have hae : a = 129 := UInt8.toNat_inj.1 h2
          subst hae
          simp [lenR] at h
          have h3 : ¬ b.toNat < 128 := by omega
          have h4 : b.toNat ≤ 255 := by omega
          simp [lenR, szL, h3, h4]
          omega
      · by_cases h3 : a.toNat = 130
        · rcases r with _ | ⟨b, _ | ⟨c, q⟩⟩
          · simp [lenR, h3] at h
          · simp [lenR, h3] at h
          · have hb := b.toNat_lt
            have hc := c.toNat_lt
            have hae : a = 130 := UInt8.toNat_inj.1 h3
            subst hae
            simp [lenR] at h
            have g1 : ¬ b.toNat * 256 + c.toNat < 128 := by omega
            have g2 : ¬ b.toNat * 256 + c.toNat ≤ 255 := by omega
            have e1 : UInt8.ofNat ((b.toNat * 256 + c.toNat) / 256) = b := by
              rw [show (b.toNat * 256 + c.toNat) / 256 = b.toNat by omega]; simp
            have e2 : UInt8.ofNat (b.toNat * 256 + c.toNat) = c := by
              apply UInt8.toNat_inj.1; simp
            simp only [lenR, szL]
            simp [g1, g2, e1, e2]
            omega
        · simp [lenR, h1, h2, h3] at h

theorem split_elem (t : UInt8) (p r : L) (h : p.length ≤ 65535) : splitL t (elem t p ++ r) = some (p, r) := by
  show splitL t (t :: (szL p.length ++ p ++ r)) = _
  rw [List.append_assoc, splitL, lenR_szL _ h]
  simp
  omega
theorem split_sound {t : UInt8} {s b r : L} (h : splitL t s = some (b, r)) : s = elem t b ++ r ∧ b.length ≤ 65535 := by
  cases s with
  | nil => simp [splitL] at h
  | cons a s =>
    simp only [splitL] at h
    by_cases hc : a = t ∧ (lenR s).2.2 = true ∧ (lenR s).1 + (lenR s).2.1 ≤ s.length
    · rw [if_pos hc] at h
      obtain ⟨rfl, h1, h2⟩ := hc
      obtain ⟨g1, g2, g3, g4⟩ := szL_of_lenR h1
      injection h with h
      injection h with hb hr
      have hl : b.length = (lenR s).1 := by rw [← hb]; simp; omega
      refine ⟨?_, by omega⟩
      rw [elem, hl, g1, ← hb, ← hr, List.cons_append, List.append_assoc, List.take_append_drop, List.take_append_drop]
    · rw [if_neg hc] at h; cases h
theorem elem_inj {t : UInt8} {p q r1 r2 : L} (hp : p.length ≤ 65535) (hq : q.length ≤ 65535) (h : elem t p ++ r1 = elem t q ++ r2) : p = q ∧ r1 = r2 := by
  have h1 := split_elem t p r1 hp
  rw [h, split_elem t q r2 hq] at h1
  injection h1 with h1
  injection h1 with h1 h2
  exact ⟨h1.symm, h2.symm⟩
theorem split_cut (t : UInt8) (p : L) (hp : p.length ≤ 65535) (k : Nat) (hk : k < (elem t p).length) : splitL t ((elem t p).take k) = none := by
  cases h : splitL t ((elem t p).take k) with
  | none => rfl
  | some x =>
    obtain ⟨b, r⟩ := x
    obtain ⟨h1, h2⟩ := split_sound h
    have h3 : elem t p ++ [] = elem t b ++ (r ++ (elem t p).drop k) := by
      rw [← List.append_assoc, ← h1, List.take_append_drop, List.append_nil]
    obtain ⟨_, h4⟩ := elem_inj hp h2 h3
    have h5 := congrArg List.length h4
    simp at h5
    omega
theorem split_len {t : UInt8} {s b r : L} (h : splitL t s = some (b, r)) : b.length ≤ s.length ∧ r.length ≤ s.length := by
  have := congrArg List.length (split_sound h).1
  simp [length_elem] at this
  omega
theorem body_len (t : UInt8) (c : Option L) : ((bodyC t c).getD []).length ≤ (c.getD []).length ∧ ((nextC t c).getD []).length ≤ (c.getD []).length := by
  cases c with
  | none => simp [bodyC, nextC]
  | some s =>
    cases h : splitL t s with
    | none => obtain ⟨e1, e2⟩ := body_none h; rw [e1, e2]; simp
    | some x =>
      obtain ⟨b, r⟩ := x
      obtain ⟨e1, e2⟩ := body_some h
      rw [e1, e2]
      exact split_len h
theorem body_next (t : UInt8) (c : Option L) (h : bodyC t c = none) : nextC t c = none := by
  unfold bodyC at h
  unfold nextC
  rw [Option.map_eq_none_iff] at h ⊢
  exact h
theorem encI_len (n : Int) : (dig (clampN n)).length ≤ 8 := dig_len _ (clampN_le n)
theorem int_enc (n : Int) (r : L) : intC (some (encI n ++ r)) = (clampN n, some r) := by
  have h := split_elem 2 (dig (clampN n)) r (by have := encI_len n; omega)
  simp only [intC, bodyC, nextC, encI, Option.bind_some, h, Option.map_some, num_dig _ (clampN_le n)]

end Go.Proofs.Yteeabfplnaknfaa.DerP
end

section
namespace Go.Proofs.Yteeabfplnaknfaa.Nm
abbrev L := List UInt8

def capB (b : UInt8) : Bool := decide (65 ≤ b.toNat) && decide (b.toNat ≤ 90)
def smallB (b : UInt8) : Bool := decide (97 ≤ b.toNat) && decide (b.toNat ≤ 122)
def wordB (b : UInt8) : Bool := smallB b || (decide (48 ≤ b.toNat) && decide (b.toNat ≤ 57))
def wordL (p : UInt8 → Bool) (l : L) : Bool := decide (1 ≤ l.length) && (decide (l.length ≤ 8) && l.all p)
theorem wordL_iff (p : UInt8 → Bool) (l : L) : wordL p l = true ↔ 1 ≤ l.length ∧ l.length ≤ 8 ∧ l.all p = true := by simp [wordL]

def hasC (c : UInt8) (l : L) : Bool := l.any fun x => decide (x = c)
def bef (c : UInt8) : L → L
  | [] => []
  | x :: r => if x = c then [] else x :: bef c r
def aft (c : UInt8) : L → L
  | [] => []
  | x :: r => if x = c then r else aft c r
theorem hasC_iff (c : UInt8) (l : L) : hasC c l = true ↔ c ∈ l := by simp [hasC]
theorem hasC_false (c : UInt8) (l : L) : hasC c l = false ↔ c ∉ l := by rw [← hasC_iff]; simp
theorem bef_none {c : UInt8} {l : L} (h : c ∉ l) : bef c l = l := by
  induction l with
  | nil => rfl
  | cons x r ih =>
    simp only [List.mem_cons, not_or] at h
    rw [bef, if_neg (fun e => h.1 e.symm), ih h.2]
theorem aft_none {c : UInt8} {l : L} (h : c ∉ l) : aft c l = [] := by
  induction l with
  | nil => rfl
  | cons x r ih =>
    simp only [List.mem_cons, not_or] at h
    rw [aft, if_neg (fun e => h.1 e.symm), ih h.2]
theorem bef_not (c : UInt8) (l : L) : c ∉ bef c l := by
  induction l with
  | nil => simp [bef]
  | cons x r ih =>
    rw [bef]; split
    · simp
    · rename_i h; simp only [List.mem_cons, not_or]; exact ⟨fun e => h e.symm, ih⟩
theorem cut_eq {c : UInt8} {l : L} (h : c ∈ l) : l = bef c l ++ c :: aft c l := by
  induction l with
  | nil => simp at h
  | cons x r ih =>
    by_cases e : x = c
    · simp [bef, aft, e]
    · rw [bef, aft, if_neg e, if_neg e]
      have : c ∈ r := (List.mem_cons.1 h).resolve_left fun g => e g.symm
      simpa using ih this
theorem aft_len (c : UInt8) (l : L) : (aft c l).length ≤ l.length := by
  induction l with
  | nil => simp [aft]
  | cons x r ih => rw [aft]; split <;> simp <;> omega
theorem bef_len (c : UInt8) (l : L) : (bef c l).length ≤ l.length := by
  induction l with
  | nil => simp [bef]
  | cons x r ih => rw [bef]; split <;> simp <;> omega
def split (c : UInt8) : L → List L
  | [] => [[]]
  | x :: r => if x = c then [] :: split c r else match split c r with
    | [] => [[x]]
    | a :: t => (x :: a) :: t
theorem split_ne (c : UInt8) (l : L) : split c l ≠ [] := by
  cases l with
  | nil => simp [split]
  | cons x r =>
    rw [split]; split
    · simp
    · split <;> simp
theorem split_len (c : UInt8) (l : L) : 1 ≤ (split c l).length := by
  have := split_ne c l
  cases h : split c l with
  | nil => exact absurd h this
  | cons a t => simp
theorem split_none {c : UInt8} {l : L} (h : c ∉ l) : split c l = [l] := by
  induction l with
  | nil => rfl
  | cons x r ih =>
    simp only [List.mem_cons, not_or] at h
    rw [split, if_neg (fun e => h.1 e.symm), ih h.2]
theorem split_at {c : UInt8} (u v : L) : split c (u ++ c :: v) = split c u ++ split c v := by
  induction u with
  | nil => simp [split]
  | cons x r ih =>
    rw [List.cons_append, split, split]
    split
    · rw [ih]; rfl
    · rw [ih]
      cases h : split c r with
      | nil => exact absurd h (split_ne c r)
      | cons a t => rfl
theorem split_head {c : UInt8} {u v : L} (h : c ∉ u) : split c (u ++ c :: v) = u :: split c v := by rw [split_at, split_none h]; rfl
theorem split_cut (c : UInt8) (l : L) : split c l = if hasC c l then bef c l :: split c (aft c l) else [l] := by
  by_cases h : c ∈ l
  · rw [if_pos ((hasC_iff c l).2 h)]
    conv => lhs; rw [cut_eq h]
    exact split_head (bef_not c l)
  · rw [if_neg (by rw [hasC_iff]; exact h)]; exact split_none h

def labsL (ls : List L) : Bool := decide (1 ≤ ls.length) && (decide (ls.length ≤ 4) && ls.all (wordL capB))
theorem labsL_iff (ls : List L) : labsL ls = true ↔ 1 ≤ ls.length ∧ ls.length ≤ 4 ∧ ls.all (wordL capB) = true := by simp [labsL]
def areL (c : UInt8) : Nat → L → Bool
  | 0, _ => false
  | n + 1, l => wordL capB (bef c l) && (if hasC c l then areL c n (aft c l) else true)
theorem areL_eq (c : UInt8) (n : Nat) : ∀ l : L, areL c n l = (decide ((split c l).length ≤ n) && (split c l).all (wordL capB)) := by
  induction n with
  | zero => intro l; have := split_len c l; rw [areL, decide_eq_false (by omega)]; rfl
  | succ n ih =>
    intro l
    rw [areL, ih, split_cut c l]
    by_cases h : c ∈ l
    · rw [(hasC_iff c l).2 h, if_pos rfl, if_pos rfl]
      simp only [List.length_cons, List.all_cons, Nat.add_le_add_iff_right]
      cases wordL capB (bef c l) <;> simp
    · rw [(hasC_false c l).2 h, if_neg (by simp), if_neg (by simp), bef_none h]
      simp
theorem areL_labs (c : UInt8) (l : L) : areL c 4 l = labsL (split c l) := by
  have := split_len c l
  rw [areL_eq, labsL, decide_eq_true this]; rfl

def slL (l : L) : Bool := decide (l.head? = some 47) && labsL (split 47 l.tail)
def kindL (l : L) : Nat := if slL l then 2 else if labsL (split 46 l) then 1 else 0
theorem dom_head {l : L} (h : labsL (split 46 l) = true) : l.head? ≠ some 47 := by
  intro e
  cases l with
  | nil => simp at e
  | cons x r =>
    simp only [List.head?_cons, Option.some.injEq] at e
    subst e
    have h2 : wordL capB (bef 46 (47 :: r)) = true := by
      have h3 := ((labsL_iff _).1 h).2.2
      rw [split_cut] at h3
      split at h3
      · simp only [List.all_cons, Bool.and_eq_true] at h3; exact h3.1
      · rename_i hn
        rw [bef_none ((hasC_false _ _).1 (by simpa using hn))]
        simpa using h3
    have e2 : bef 46 (47 :: r) = 47 :: bef 46 r := by rw [bef, if_neg (by decide)]
    have h4 := ((wordL_iff _ _).1 h2).2.2
    rw [e2] at h4
    simp [capB] at h4
theorem sl_dom {l : L} (h : labsL (split 46 l) = true) : slL l = false := by
  simp [slL, dom_head h]
theorem kind_dom {l : L} (h : labsL (split 46 l) = true) : kindL l = 1 := by rw [kindL, sl_dom h, h]; rfl
theorem kind_order (l : L) : kindL l = if labsL (split 46 l) then 1 else if slL l then 2 else 0 := by
  cases h : labsL (split 46 l) with
  | true => rw [kind_dom h]; rfl
  | false => rw [kindL, h]; rfl
theorem kind_le (l : L) : kindL l ≤ 2 := by rw [kindL]; split <;> (try split) <;> omega
theorem kind_nil : kindL [] = 0 := by decide
theorem kind_one {l : L} (h : kindL l = 1) : labsL (split 46 l) = true := by
  rw [kindL] at h
  split at h
  · omega
  · split at h
    · assumption
    · omega
theorem kind_two {l : L} (h : kindL l = 2) : slL l = true := by
  rw [kindL] at h
  split at h
  · assumption
  · split at h <;> omega

def isL (l : L) : Bool := decide (1 ≤ kindL l)
end Go.Proofs.Yteeabfplnaknfaa.Nm
end

section
namespace Go.Proofs.Yteeabfplnaknfaa.Nm

def pl (A : List L) (i : Nat) : L := A.getD i []
theorem pl_lt {A : List L} {i : Nat} (h : i < A.length) : pl A i = A[i] := by simp [pl, h]
theorem pl_mem {A : List L} {i : Nat} (h : i < A.length) : pl A i ∈ A := by rw [pl_lt h]; exact List.getElem_mem h
theorem mem_pl {A : List L} {x : L} (h : x ∈ A) : ∃ i, i < A.length ∧ pl A i = x := by
  obtain ⟨i, hi, e⟩ := List.getElem_of_mem h
  exact ⟨i, hi, by rw [pl_lt hi]; exact e⟩
end Go.Proofs.Yteeabfplnaknfaa.Nm
end

section
namespace Go.Proofs.Yteeabfplnaknfaa.Nm
open Go.RowKit Go.Proofs.Yteeabfplnaknfaa.Mem
attribute [local go_sem] mk_at List.getElem_cons_zero List.getElem_cons_succ

theorem capital_any (b : UInt8) (w : World) : Calls Try.prog 93 #[.int .u8 (b.toNat : Int)] w fun e w' => e = .returned (.bool (capB b)) ∧ w = w' := by
  have hb := u8_le b
  by_cases h1 : 65 ≤ b.toNat
  · have g1 : decide (65 ≤ (b.toNat : Int)) = true := by simp; omega
    by_cases h2 : b.toNat ≤ 90
    · have g2 : decide ((b.toNat : Int) ≤ 90) = true := by simp; omega
      have E := Lib.hid (show capB b = true by simp [capB, h1, h2])
      clear h1 h2
      go_enter Try.func93, Try.ntmps93
      go_wp2
      go_ret
      exact ⟨by rw [E.out]; rfl, rfl⟩
    · have g2 : decide ((b.toNat : Int) ≤ 90) = false := by simp; omega
      have E := Lib.hid (show capB b = false by simp [capB, h2])
      clear h1 h2
      go_enter Try.func93, Try.ntmps93
      go_wp2
      go_ret
      exact ⟨by rw [E.out]; rfl, rfl⟩
  · have g1 : decide (65 ≤ (b.toNat : Int)) = false := by simp; omega
    have E := Lib.hid (show capB b = false by simp [capB, h1])
    clear h1
    go_enter Try.func93, Try.ntmps93
    go_wp2
    go_ret
    exact ⟨by rw [E.out]; rfl, rfl⟩

theorem small_any (b : UInt8) (w : World) : Calls Try.prog 82 #[.int .u8 (b.toNat : Int)] w fun e w' => e = .returned (.bool (smallB b)) ∧ w = w' := by
  have hb := u8_le b
  by_cases h1 : 97 ≤ b.toNat
  · have g1 : decide (97 ≤ (b.toNat : Int)) = true := by simp; omega
    by_cases h2 : b.toNat ≤ 122
    · have g2 : decide ((b.toNat : Int) ≤ 122) = true := by simp; omega
      have E := Lib.hid (show smallB b = true by simp [smallB, h1, h2])
      clear h1 h2
      go_enter Try.func82, Try.ntmps82
      go_wp2
      go_ret
      exact ⟨by rw [E.out]; rfl, rfl⟩
    · have g2 : decide ((b.toNat : Int) ≤ 122) = false := by simp; omega
      have E := Lib.hid (show smallB b = false by simp [smallB, h2])
      clear h1 h2
      go_enter Try.func82, Try.ntmps82
      go_wp2
      go_ret
      exact ⟨by rw [E.out]; rfl, rfl⟩
  · have g1 : decide (97 ≤ (b.toNat : Int)) = false := by simp; omega
    have E := Lib.hid (show smallB b = false by simp [smallB, h1])
    clear h1
    go_enter Try.func82, Try.ntmps82
    go_wp2
    go_ret
    exact ⟨by rw [E.out]; rfl, rfl⟩

theorem smalldig_any (b : UInt8) (w : World) : Calls Try.prog 69 #[.int .u8 (b.toNat : Int)] w fun e w' => e = .returned (.bool (wordB b)) ∧ w = w' := by
  have hb := u8_le b
  have c1 := small_any b w
  by_cases h0 : smallB b = true
  · have E := Lib.hid (show wordB b = true by simp [wordB, h0])
    rw [h0] at c1
    clear h0
    go_enter Try.func69, Try.ntmps69
    go_wp2_with (go_at_call 82; refine Calls.mono c1 ?_; rintro e w1 ⟨rfl, rfl⟩)
    go_ret
    exact ⟨by rw [E.out]; rfl, rfl⟩
  · have h0 : smallB b = false := by simpa using h0
    rw [h0] at c1
    by_cases h1 : 48 ≤ b.toNat
    · have g1 : decide (48 ≤ (b.toNat : Int)) = true := by simp; omega
      by_cases h2 : b.toNat ≤ 57
      · have g2 : decide ((b.toNat : Int) ≤ 57) = true := by simp; omega
        have E := Lib.hid (show wordB b = true by simp [wordB, h1, h2])
        clear h1 h2 h0
        go_enter Try.func69, Try.ntmps69
        go_wp2_with (go_at_call 82; refine Calls.mono c1 ?_; rintro e w1 ⟨rfl, rfl⟩)
        go_ret
        exact ⟨by rw [E.out]; rfl, rfl⟩
      · have g2 : decide ((b.toNat : Int) ≤ 57) = false := by simp; omega
        have E := Lib.hid (show wordB b = false by simp [wordB, h2, h0])
        clear h1 h2 h0
        go_enter Try.func69, Try.ntmps69
        go_wp2_with (go_at_call 82; refine Calls.mono c1 ?_; rintro e w1 ⟨rfl, rfl⟩)
        go_ret
        exact ⟨by rw [E.out]; rfl, rfl⟩
    · have g1 : decide (48 ≤ (b.toNat : Int)) = false := by simp; omega
      have E := Lib.hid (show wordB b = false by simp [wordB, h1, h0])
      clear h1 h0
      go_enter Try.func69, Try.ntmps69
      go_wp2_with (go_at_call 82; refine Calls.mono c1 ?_; rintro e w1 ⟨rfl, rfl⟩)
      go_ret
      exact ⟨by rw [E.out]; rfl, rfl⟩

theorem word_all {p : UInt8 → Bool} {l : L} (h : ∀ i (h : i < l.length), p l[i] = true) (h1 : 1 ≤ l.length) (h8 : l.length ≤ 8) : wordL p l = true := by
  rw [wordL_iff]
  refine ⟨h1, h8, ?_⟩
  rw [List.all_eq_true]
  intro x hx
  obtain ⟨i, hi, rfl⟩ := List.getElem_of_mem hx
  exact h i hi
theorem word_bad {p : UInt8 → Bool} {l : L} {i : Nat} (hi : i < l.length) (h : p l[i] = false) : wordL p l = false := by
  cases e : wordL p l with
  | false => rfl
  | true =>
    have := ((wordL_iff p l).1 e).2.2
    rw [List.all_eq_true] at this
    have := this _ (List.getElem_mem hi)
    rw [h] at this; cases this
theorem word_short {p : UInt8 → Bool} {l : L} (h : l.length < 1) : wordL p l = false := by simp [wordL]; omega
theorem word_long {p : UInt8 → Bool} {l : L} (h : 8 < l.length) : wordL p l = false := by simp [wordL]; omega

def Fit (p : UInt8 → Bool) (l : L) (k : Nat) : Prop := ∀ i (h : i < l.length), i < k → p l[i] = true

set_option maxHeartbeats 800000 in
theorem isword_cap (l : L) (w : World) (hs : l.length ≤ 1000000000) : Calls Try.prog 68 #[.string ⟨l.toArray⟩, .func (.func 93) #[] #[]] w fun e w' => e = .returned (.bool (wordL capB l)) ∧ w = w' := by
  by_cases h1 : l.length < 1
  · have E := Lib.hid (word_short (p := capB) h1)
    have g1 : decide ((l.length : Int) < 1) = true := by simp; omega
    clear h1
    go_enter Try.func68, Try.ntmps68
    go_wp2
    go_ret
    exact ⟨by rw [E.out]; rfl, rfl⟩
  · have g1 : decide ((l.length : Int) < 1) = false := by simp; omega
    by_cases h2 : 8 < l.length
    · have E := Lib.hid (word_long (p := capB) h2)
      have g2 : decide (8 < (l.length : Int)) = true := by simp; omega
      clear h1 h2
      go_enter Try.func68, Try.ntmps68
      go_wp2
      go_ret
      exact ⟨by rw [E.out]; rfl, rfl⟩
    · have g2 : decide (8 < (l.length : Int)) = false := by simp; omega
      have HA := Lib.hid (fun h => word_all (p := capB) (l := l) h (by omega) (by omega))
      clear h1 h2
      go_enter Try.func68, Try.ntmps68
      go_wp2
      go_loop [16] (fun iv => ∃ k : Nat, k ≤ l.length ∧ iv = .int .i64 (k : Int) ∧ Fit capB l k) (fun iv => l.length - (intOf iv).toNat)
      case atStart => exact ⟨0, Nat.zero_le _, rfl, fun i _ h => by omega⟩
      case round =>
        obtain ⟨k, hk, rfl, hf⟩ := hrel
        by_cases hlt : k < l.length
        · have e1 : (k : Int) < (l.length : Int) := by omega
          have c1 := capital_any l[k] w
          have HF := Lib.hid hf; clear hf
          by_cases hp : capB l[k] = true
          · rw [hp] at c1
            have HP := Lib.hid hp; clear hp
            go_wp2_with (go_at_call 93; refine Calls.mono c1 ?_; rintro e w1 ⟨rfl, rfl⟩)
            go_round
            case rel => exact ⟨k + 1, by omega, by go_num, fun i hi hik => by
              by_cases q : i = k
              · subst q; exact HP.out
              · exact HF.out i hi (by omega)⟩
            case measure => simp [intOf]; omega
          · have hp : capB l[k] = false := by simpa using hp
            rw [hp] at c1
            have E := Lib.hid (word_bad hlt hp); clear hp
            go_wp2_with (go_at_call 93; refine Calls.mono c1 ?_; rintro e w1 ⟨rfl, rfl⟩)
            go_ret
            exact ⟨by rw [E.out]; rfl, rfl⟩
        · have HF := Lib.hid hf; clear hf
          have E := Lib.hid (HA.out (fun i hi => HF.out i hi (by omega)))
          have e1 : ¬ (k : Int) < (l.length : Int) := by omega
          go_wp2
          go_ret
          exact ⟨by rw [E.out]; rfl, rfl⟩

set_option maxHeartbeats 800000 in
theorem isword_sd (l : L) (w : World) (hs : l.length ≤ 1000000000) : Calls Try.prog 68 #[.string ⟨l.toArray⟩, .func (.func 69) #[] #[]] w fun e w' => e = .returned (.bool (wordL wordB l)) ∧ w = w' := by
  by_cases h1 : l.length < 1
  · have E := Lib.hid (word_short (p := wordB) h1)
    have g1 : decide ((l.length : Int) < 1) = true := by simp; omega
    clear h1
    go_enter Try.func68, Try.ntmps68
    go_wp2
    go_ret
    exact ⟨by rw [E.out]; rfl, rfl⟩
  · have g1 : decide ((l.length : Int) < 1) = false := by simp; omega
    by_cases h2 : 8 < l.length
    · have E := Lib.hid (word_long (p := wordB) h2)
      have g2 : decide (8 < (l.length : Int)) = true := by simp; omega
      clear h1 h2
      go_enter Try.func68, Try.ntmps68
      go_wp2
      go_ret
      exact ⟨by rw [E.out]; rfl, rfl⟩
    · have g2 : decide (8 < (l.length : Int)) = false := by simp; omega
      have HA := Lib.hid (fun h => word_all (p := wordB) (l := l) h (by omega) (by omega))
      clear h1 h2
      go_enter Try.func68, Try.ntmps68
      go_wp2
      go_loop [16] (fun iv => ∃ k : Nat, k ≤ l.length ∧ iv = .int .i64 (k : Int) ∧ Fit wordB l k) (fun iv => l.length - (intOf iv).toNat)
      case atStart => exact ⟨0, Nat.zero_le _, rfl, fun i _ h => by omega⟩
      case round =>
        obtain ⟨k, hk, rfl, hf⟩ := hrel
        by_cases hlt : k < l.length
        · have e1 : (k : Int) < (l.length : Int) := by omega
          have c1 := smalldig_any l[k] w
          have HF := Lib.hid hf; clear hf
          by_cases hp : wordB l[k] = true
          · rw [hp] at c1
            have HP := Lib.hid hp; clear hp
            go_wp2_with (go_at_call 69; refine Calls.mono c1 ?_; rintro e w1 ⟨rfl, rfl⟩)
            go_round
            case rel => exact ⟨k + 1, by omega, by go_num, fun i hi hik => by
              by_cases q : i = k
              · subst q; exact HP.out
              · exact HF.out i hi (by omega)⟩
            case measure => simp [intOf]; omega
          · have hp : wordB l[k] = false := by simpa using hp
            rw [hp] at c1
            have E := Lib.hid (word_bad hlt hp); clear hp
            go_wp2_with (go_at_call 69; refine Calls.mono c1 ?_; rintro e w1 ⟨rfl, rfl⟩)
            go_ret
            exact ⟨by rw [E.out]; rfl, rfl⟩
        · have HF := Lib.hid hf; clear hf
          have E := Lib.hid (HA.out (fun i hi => HF.out i hi (by omega)))
          have e1 : ¬ (k : Int) < (l.length : Int) := by omega
          go_wp2
          go_ret
          exact ⟨by rw [E.out]; rfl, rfl⟩

end Go.Proofs.Yteeabfplnaknfaa.Nm
end
