/-
  The law that asks the document's own answer for the block.
-/
import Derived.Test.YtmelmoideigocaaSpRef3
import Derived.Test.YtmelmoideigocaaSpLaw1
import Derived.Deep.CutBlock
set_option linter.unusedVariables false
namespace Go.Proofs.Ytmelmoideigocaa.SpL
open Go.RowKit Go.Proofs.Ytmelmoideigocaa.Mem Go.Proofs.Ytmelmoideigocaa.Sp

/-- an array's cells stand in block g -/
def Stands (w : World) (g : Nat) (cs : Array Value) : Prop := w.rangeAt g 0 cs.toList
theorem Stands.grown {w w' : World} {g : Nat} {cs : Array Value} {row : Option Nat} (h : Stands w g cs) (hg : g < w.heap.size) (hb : w.grownBy w' row) (hr : row ≠ some g) : Stands w' g cs := fun j v hv =>
  (World.cell?_of_block (a := ⟨g, 0 + j, none⟩) (hb.block g hg (fun e => hr e.symm))).trans (h j v hv)
theorem Stands.below {w w' : World} {g : Nat} {cs : Array Value} (h : Stands w g cs) (hg : g < w.heap.size) (hb : Below w.heap.size w w') : Stands w' g cs := h.grown hg (g_of_below hb none) (by simp)
theorem wpList_load_st {P : Program} {ops : Array Oper} {rest : List Oper} {op : Oper} {a : Act} {w : World} {Q : Exit → Act → World → Prop} (hgd : op.guard = none) (ty : TypeId) (x : Operand) (ho : op.op = .load ty x)
    (g : Nat) (hx : a.eval x = .pointer (some ⟨g, 0, none⟩)) (cs : Array Value) (d : TypeDesc) (hc : Stands w g cs)
    (hu : P.underlying ty = some d) (hd : d.isRow = true) (hi : (P.info? ty).map (·.size) = some cs.size)
    (h : wpList P ops Q rest (a.put op.dst (.agg cs)) w) : wpList P ops Q (op :: rest) a w :=
  wpList_load_mid hgd ty x ho g 0 hx cs.toList d hc hu hd (by rw [Array.length_toList]; exact hi) (by simpa using h)
theorem stands_store {w : World} {z : Array Value} {t : TypeId} {cs : Array Value} (hz : z.size = cs.size) : Stands ((w.alloc (.cells z t)).setCells w.heap.size 0 cs.toList) w.heap.size cs := by
  refine World.rangeAt_setCells_same _ _ _ _ ?_
  have := there_blk (Blk.new w t z)
  rwa [hz, ← Array.length_toList] at this

theorem setCells_size (b : Nat) : ∀ (vs : List Value) (o : Nat) (w : World), (w.setCells b o vs).heap.size = w.heap.size
  | [], _, _ => rfl
  | v :: r, o, w => by rw [World.setCells, setCells_size b r]; simp [World.setCell]
theorem size27 (K : Nat → Wd) : (cells27 K).size = 27 := by simp [cells27]
theorem info27 (K : Nat → Wd) : (Try.prog.info? 28).map (·.size) = some (cells27 K).size := by rw [size27]; kernel_rfl
theorem one27 (K : Nat → Wd) : (cells27 K).all (·.oneCell') = true := by simp [cells27, Value.oneCell']

set_option maxRecDepth 100000 in
set_option maxHeartbeats 1600000 in
theorem tells (A : Option Addr) (l : List UInt8) (c : Nat) (x y : Int) (w : World) (hr : Rd w w.heap.size A (bvs l)) (hc : l.length ≤ c) (hm : c ≤ maxLen) (wx : (Lit.int .u32 x).wf = true) (wy : (Lit.int .u32 y).wf = true) :
    Calls Try.prog 3 #[.slice A l.length c, .int .u32 x, .int .u32 y] w fun e w' => e = .returned (.bool true) ∧ Below w.heap.size w w' := by
  obtain ⟨u, rfl⟩ := Open.u32_of_wf wx
  obtain ⟨v, rfl⟩ := Open.u32_of_wf wy
  clear wx wy hc hm
  obtain ⟨ks, ek⟩ : ∃ ks, ks = ksOf l := ⟨_, rfl⟩
  have c1 := key_any A l.length c l w rfl hr
  have cq : ∀ w1, Below w.heap.size w w1 → _ := fun w1 h => key_any A l.length c l w1 rfl ((hr.below h).more h.size)
  rw [← ek] at c1
  rw [← ek] at cq
  clear hr ek
  obtain ⟨p, ep⟩ : ∃ p, p = blockK (kw ks) (u, v) := ⟨_, rfl⟩
  obtain ⟨q, eq⟩ : ∃ q, q = backK (kw ks) (u, v) := ⟨_, rfl⟩
  obtain ⟨cs, ecs⟩ : ∃ cs, cs = cells27 (kw ks) := ⟨_, rfl⟩
  have z27 : cs.size = 27 := by rw [ecs]; exact size27 _
  have i27 : (Try.prog.info? 28).map (·.size) = some cs.size := by rw [ecs]; exact info27 _
  have o27 : cs.all (·.oneCell') = true := by rw [ecs]; exact one27 _
  have cW := dwords ks
  have cB := dblock (kw ks) u v
  have cD := dback (kw ks) u v
  rw [← ecs] at cW cB cD
  rw [← ep] at cB
  rw [← eq] at cD
  have EP := Lib.hid ep; clear ep
  have EQ := Lib.hid eq; clear eq
  have Z27 := Lib.hid z27; clear z27
  have I27 := Lib.hid i27; clear i27
  have O27 := Lib.hid o27; clear o27
  clear ecs
  go_enter Try.func3, Try.ntmps3
  go_upto_region 4 with (first
    | (go_at_call 12; refine Calls.mono c1 ?_; rintro e w1 ⟨rfl, hb1⟩; have HB1 := Lib.hid hb1; clear hb1 c1; have c2 := new_any ks w1)
    | (go_at_call 11; refine Calls.mono c2 ?_; rintro e w2 ⟨b, rfl, hb, hk2, hb2⟩; clear c2; have c3 := cq w2 (bt HB1.out hb2); clear cq; have HBb := Lib.hid hb; have HK2 := Lib.hid hk2; have HB2 := Lib.hid hb2; clear hk2 hb hb2))
  go_cut [8] from 17 to 24 (fun pv wx => ∃ g, pv = .pointer (some ⟨g, 0, none⟩) ∧ w2.heap.size ≤ g ∧ g < wx.heap.size ∧ Below w2.heap.size w2 wx ∧ Stands wx g cs)
  case first =>
    go_wp2_with (first
      | (go_at_call 12; refine Calls.mono c3 ?_; rintro e w3 ⟨rfl, hb3⟩; have HB3 := Lib.hid hb3; clear hb3 c3; have c4 := cW w3; clear cW)
      | (go_at_call 13; refine Calls.mono c4 ?_; rintro e w4 ⟨rfl, hb4⟩; have HB4 := Lib.hid hb4; clear hb4 c4)
      | (refine wpList_store_mid (by rfl) 28 (.tmp 8) (.tmp 24) (by rfl) w4.heap.size 0 cs (by rfl) (by rfl) (by have := there_blk (Blk.new w4 28 (cells27 zeroW)); rw [size27, ← Z27.out] at this; exact this) I27.out O27.out ?_)
      | fail)
    go_meet
    have h4 := bt HB3.out HB4.out
    refine ⟨w4.heap.size, rfl, h4.size, ?_, ?_, stands_store (by rw [Z27.out]; rfl)⟩
    · have := (below_setCells (B := w2.heap.size) (a := w2) w4.heap.size h4.size cs.toList 0 _ (h4.alloc h4.size (Obj.cells (cells27 zeroW) 28)))
      exact Nat.lt_of_lt_of_le (Nat.lt_succ_self _) (by rw [setCells_size]; simp)
    · exact below_setCells w4.heap.size h4.size _ _ _ (h4.alloc h4.size _)
  case rest =>
    obtain ⟨g, rfl, hg, hgl, hbc, hst⟩ := hcut
    clear cW c3
    have hkc := HK2.out.below hbc
    have hgb : (some b : Option Nat) ≠ some g := fun h => by have := HK2.out.lt; injection h with h; omega
    have c5 := block_any b ks false u v wc hkc
    rw [← EP.out] at c5
    have HG := Lib.hid hg; clear hg
    have HGL := Lib.hid hgl; clear hgl
    have HBC := Lib.hid hbc; clear hbc
    have HST := Lib.hid hst; clear hst
    have HGB := Lib.hid hgb; clear hgb
    clear hkc
    go_wp2_with (first
      | (go_at_call 14; refine Calls.mono c5 ?_; rintro e w6 ⟨rfl, hk6, hg6, _⟩; clear c5; have hs6 := HST.out.grown HGL.out hg6 HGB.out; have hl6 := Nat.lt_of_lt_of_le HGL.out hg6.size; have c6 := cB w6; have HK6 := Lib.hid hk6; have HG6 := Lib.hid hg6; have HS6 := Lib.hid hs6; have HL6 := Lib.hid hl6; clear hk6 hg6 hs6 hl6 cB)
      | (refine wpList_load_st (by rfl) 28 (.tmp 8) (by rfl) g (by rfl) cs _ HS6.out Try.underlying28 (by rfl) I27.out ?_)
      | (go_at_call 15; refine Calls.mono c6 ?_; rintro e w7 ⟨rfl, hb7⟩; clear c6; have hk7 := HK6.out.below hb7; have hs7 := HS6.out.below HL6.out hb7; have c7 := back_made b ks u v w7 hk7; rw [← EQ.out] at c7; have c8 := cD w7; have HB7 := Lib.hid hb7; have HS7 := Lib.hid hs7; clear hk7 hb7 hs7 cD HS6)
      | (go_at_call 16; refine Calls.mono c7 ?_; rintro e w' ⟨rfl, rfl⟩; clear c7)
      | (refine wpList_load_st (by rfl) 28 (.tmp 8) (by rfl) g (by rfl) cs _ HS7.out Try.underlying28 (by rfl) I27.out ?_)
      | (go_at_call 17; refine Calls.mono c8 ?_; rintro e w8 ⟨rfl, hb8⟩; clear c8; have c9 := known_any w8; have HB8 := Lib.hid hb8; clear hb8)
      | (go_at_call 18; refine Calls.mono c9 ?_; rintro e w9 ⟨rfl, hb9⟩; have HB9 := Lib.hid hb9; clear hb9)
      | fail)
    go_ret
    have h3 := bt (bt HB1.out HB2.out) HBC.out
    have h6 := btg h3 HG6.out (Nat.le_trans HB1.out.size HBb.out)
    exact ⟨rfl, bt (bt (bt h6 HB7.out) HB8.out) HB9.out⟩
end Go.Proofs.Ytmelmoideigocaa.SpL
