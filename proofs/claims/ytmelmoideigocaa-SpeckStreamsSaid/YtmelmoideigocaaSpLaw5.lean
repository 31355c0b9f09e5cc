/-
  The law that asks the document's own answer for the stream.
-/
import Derived.Test.YtmelmoideigocaaSpRef4
import Derived.Test.YtmelmoideigocaaRegion
set_option linter.unusedVariables false
namespace Go.Proofs.Ytmelmoideigocaa.SpL
open Go.RowKit Go.Proofs.Ytmelmoideigocaa.Mem Go.Proofs.Ytmelmoideigocaa.Sp Go.Proofs.Ytmelmoideigocaa.Reg

/-- what Stream hands back: nothing, or a new block of the bytes -/
def SL (w : World) (lo : Nat) (A : Option Addr) (l : List UInt8) : Prop := (A = none ∧ l = []) ∨ ∃ g, A = some ⟨g, 0, none⟩ ∧ lo ≤ g ∧ Blk w g 5 (bvs l).toArray
theorem SL.grown {w w' : World} {lo b : Nat} {A : Option Addr} {l : List UInt8} (h : SL w lo A l) (hb : w.grownBy w' (some b)) (hl : b < lo) : SL w' lo A l := by
  rcases h with h | ⟨g, h1, h2, h3⟩
  · exact .inl h
  · exact .inr ⟨g, h1, h2, h3.grown hb (fun e => by injection e with e; omega)⟩
theorem SL.rd {w : World} {lo : Nat} {A : Option Addr} {l : List UInt8} (h : SL w lo A l) : Rd w w.heap.size A (bvs l) := by
  rcases h with ⟨_, h⟩ | ⟨g, h1, h2, h3⟩
  · rw [h]; exact .inl rfl
  · refine .inr ⟨g, 0, h1, h3.lt, fun i u hu => ?_⟩
    rw [Nat.zero_add, h3.cell, List.getElem?_toArray]
    exact hu
theorem stream_gen (b : Nat) (ks : Nat → UInt8) (mk : Bool) (N : Nat) (n : Int) (w : World) (hn : n ≤ 1000000) (hN : N < 18446744073709551616) (hK : Key w b ks mk) :
    Calls Try.prog 19 #[.pointer (some ⟨b, 0, none⟩), .int .u64 (N : Int), .int .i64 n] w fun e w' => ∃ A c mk', e = .returned (.slice A n.toNat c) ∧ n.toNat ≤ c ∧
      SL w' w.heap.size A (strm (kw ks) (upW N) (loW N) n.toNat) ∧ Key w' b ks mk' ∧ w.grownBy w' (some b) := by
  by_cases h : n < 1
  · have e : n.toNat = 0 := by omega
    refine (stream_nil _ _ n w (.inr h)).mono ?_
    rintro e' w' ⟨rfl, rfl⟩
    rw [e]
    exact ⟨none, 0, mk, rfl, Nat.le_refl _, .inl ⟨rfl, rfl⟩, hK, World.grownBy.refl _ _⟩
  · refine (stream_any b ks mk N n.toNat n w (by omega) (by omega) (by omega) hN hK).mono ?_
    rintro e w' ⟨g, rfl, hg, hB, hk, hgr, _⟩
    exact ⟨_, _, true, rfl, Nat.le_refl _, .inr ⟨g, rfl, hg, hB⟩, hk, hgr⟩

theorem bvs_take (l : List UInt8) (n : Nat) : (bvs l).take n = bvs (l.take n) := by simp [bvs, List.map_take]

set_option maxRecDepth 100000 in
set_option maxHeartbeats 3200000 in
theorem streamsNeg (A : Option Addr) (l : List UInt8) (c N m : Nat) (n : Int) (hs : n < 0) (w : World) (hN : N < 18446744073709551616) (hn1 : -5 ≤ n) (hn2 : n ≤ 1000) (hm : m ≤ 1000) (hr : Rd w w.heap.size A (bvs l)) :
    Calls Try.prog 5 #[.slice A l.length c, .int .u64 (N : Int), .int .i64 n, .int .i64 (m : Int)] w fun e w' => e = .returned (.bool true) ∧ Below w.heap.size w w' := by
  obtain ⟨ks, ek⟩ : ∃ ks, ks = ksOf l := ⟨_, rfl⟩
  have c1 := key_any A l.length c l w rfl hr
  have cq : ∀ w1, Below w.heap.size w w1 → _ := fun w1 h => key_any A l.length c l w1 rfl ((hr.below h).more h.size)
  rw [← ek] at c1
  rw [← ek] at cq
  clear hr ek
  have cW := dwords ks
  have g1 : decide (n < -5) = false := by simp <;> omega
  have g2 : decide ((1000 : Int) < n) = false := by simp <;> omega
  have g3 : decide ((m : Int) < 0) = false := by simp
  have g4 : decide ((1000 : Int) < (m : Int)) = false := by simp <;> omega
  have hk : n.toNat = 0 := by omega
  have w0 : (m : Int) ≤ 1000 := by omega
  have hz : IntKind.i64.wrap (m : Int) = (m : Int) := by rw [IntKind.wrap_i64]; omega
  have zk : Hid (0 ≤ m) := Nat.zero_le _
  have CQ := Lib.hid cq
  have CW := Lib.hid cW
  clear cq cW
  have NN := Lib.hid hN; clear hN
  have N1 := Lib.hid hn1; clear hn1
  have N2 := Lib.hid hn2; clear hn2
  have HM := Lib.hid hm; clear hm
  have HK := Lib.hid hk; clear hk
  go_enter Try.func5, Try.ntmps5
  go_wp2_with (first
    | (go_at_call 12; refine Calls.mono c1 ?_; rintro e w1 ⟨rfl, hb1⟩; have HB1 := Lib.hid hb1; clear hb1 c1; have c2 := new_any ks w1)
    | (go_at_call 11; refine Calls.mono c2 ?_; rintro e w2 ⟨b, rfl, hb, hk2, hb2⟩; clear c2; have c3 := stream_gen b ks false N n w2 (by have := N2.out; omega) NN.out hk2; rw [HK.out] at c3; have hlt := hk2.lt; have HLT := Lib.hid hlt; have HBb := Lib.hid hb; have HB2 := Lib.hid hb2; clear hk2 hb hb2 hlt)
    | (go_at_call 19; refine Calls.mono c3 ?_; rintro e w3 ⟨A3, d3, mk3, rfl, hd3, hs3, hk3, hg3⟩; clear c3; have c4 := stream_gen b ks mk3 N (m : Int) w3 (by omega) NN.out hk3; rw [Int.toNat_natCast] at c4; have HD3 := Lib.hid hd3; have HS3 := Lib.hid hs3; have HG3 := Lib.hid hg3; clear hd3 hs3 hk3 hg3)
    | (go_at_call 19; refine Calls.mono c4 ?_; rintro e w4 ⟨A4, d4, mk4, rfl, hd4, hs4, hk4, hg4⟩; clear c4; have HD4 := Lib.hid hd4; have HS4 := Lib.hid hs4; have HG4 := Lib.hid hg4; clear hd4 hs4 hk4 hg4))
  have ht3 := btg (bt HB1.out HB2.out) HG3.out (Nat.le_trans HB1.out.size HBb.out)
  have ht4 := btg ht3 HG4.out (Nat.le_trans HB1.out.size HBb.out)
  have HT4 : Hid (Below w.heap.size w w4.drew) := ht4.drew
  have rs3 := (HS3.out.grown HG4.out HLT.out).rd
  have rs4 := HS4.out.rd
  have RS3 : Hid (Rd w4.drew w4.drew.heap.size A3 (bvs (strm (kw ks) (upW N) (loW N) 0))) := rs3
  have RS4 : Hid (Rd w4.drew w4.drew.heap.size A4 (bvs (strm (kw ks) (upW N) (loW N) m))) := rs4
  have hkd : 0 ≤ d4 := Nat.le_trans zk.out HD4.out
  have hkd2 : ((0 : Nat) : Int) ≤ (d4 : Int) := by omega
  clear rs3 rs4 ht3 ht4
  have cq := CQ.out
  have cW := CW.out
  refine region_begin 33 rfl (by kernel_rfl) ?_
  refine take_op 0 (v := ?vstreamsNeg0) rfl (by kernel_rfl) (by kernel_rfl) (by kernel_rfl) (fun _ _ _ h => h) (by rfl) (fun w' hS => ?hystreamsNeg0) ?reststreamsNeg0
  case hystreamsNeg0 => go_simp; rfl
  simp only [Act.put, List.setIfInBounds_toArray, List.set_cons_zero, List.set_cons_succ]
  refine take_op 1 (v := ?vstreamsNeg1) rfl (by kernel_rfl) (by kernel_rfl) (by kernel_rfl) (fun _ _ _ h => h) (by rfl) (fun w' hS => ?hystreamsNeg1) ?reststreamsNeg1
  case hystreamsNeg1 => have hh := since_str (P := Try.prog) Try.underlying22 Try.underlying5 Try.underlying9 (n := 0) (c := d3) RS3.out (Nat.le_refl _) (by rw [strm_length]) w' hS; go_simp; rfl
  simp only [Act.put, List.setIfInBounds_toArray, List.set_cons_zero, List.set_cons_succ]
  refine take_op 2 (v := ?vstreamsNeg2) rfl (by kernel_rfl) (by kernel_rfl) (by kernel_rfl) (fun _ _ _ h => h) (by rfl) (fun w' hS => ?hystreamsNeg2) ?reststreamsNeg2
  case hystreamsNeg2 => go_simp; rfl
  simp only [Act.put, List.setIfInBounds_toArray, List.set_cons_zero, List.set_cons_succ]
  refine take_op 5 (v := ?vstreamsNeg5) rfl (by kernel_rfl) (by kernel_rfl) (by kernel_rfl) (fun _ _ _ h => h) (by rfl) (fun w' hS => ?hystreamsNeg5) ?reststreamsNeg5
  case hystreamsNeg5 => go_simp; rfl
  simp only [Act.put, List.setIfInBounds_toArray, List.set_cons_zero, List.set_cons_succ]
  refine take_op 6 (v := ?vstreamsNeg6) rfl (by kernel_rfl) (by kernel_rfl) (by kernel_rfl) (fun _ _ _ h => h) (by rfl) (fun w' hS => ?hystreamsNeg6) ?reststreamsNeg6
  case hystreamsNeg6 => go_simp; rfl
  simp only [Act.put, List.setIfInBounds_toArray, List.set_cons_zero, List.set_cons_succ]
  refine call_op 3 rfl (by kernel_rfl) (by rfl) 12 #[.slice A l.length c] (by go_simp) ?_
  refine Calls.mono (cq w4.drew (HT4.out)) ?_
  rintro e w5 ⟨rfl, hb5⟩
  refine ⟨_, rfl, hb5, ?_⟩
  have HB5 := Lib.hid hb5
  clear hb5
  simp only [Act.put, List.setIfInBounds_toArray, List.set_cons_zero, List.set_cons_succ]
  refine call_op 4 rfl (by kernel_rfl) (by rfl) 13 #[.agg (key16 ks)] (by go_simp) ?_
  refine Calls.mono (cW w5) ?_
  rintro e w6 ⟨rfl, hb6⟩
  refine ⟨_, rfl, hb6, ?_⟩
  have HB6 := Lib.hid hb6
  clear hb6
  simp only [Act.put, List.setIfInBounds_toArray, List.set_cons_zero, List.set_cons_succ]
  refine call_op 7 rfl (by kernel_rfl) (by rfl) 20 #[.agg (cells27 (kw ks)), .int .u64 (N : Int), .int .i64 n] (by go_simp) ?_
  refine Calls.mono (dstream (kw ks) N 0 (n) w6 NN.out (Nat.zero_le _) (by omega)) ?_
  rintro e w7 ⟨A7, c7, rfl, hc7, hr7, hb7⟩
  refine ⟨_, rfl, hb7, ?_⟩
  have HR7 := Lib.hid hr7
  have HB7 := Lib.hid hb7
  have b47 : Below w4.drew.heap.size w4.drew w7 := bt (bt HB5.out HB6.out) hb7
  have r3 : Rd w7 w7.heap.size A3 (bvs (strm (kw ks) (upW N) (loW N) 0)) := (RS3.out.below b47).more b47.size
  have r4 : Rd w7 w7.heap.size A4 (bvs (strm (kw ks) (upW N) (loW N) 0)) := by
    have h := Rd.take ((RS4.out.below b47).more b47.size) 0
    rw [bvs_take, strm_take _ _ _ _ _ (Nat.zero_le _)] at h
    exact h
  have B47 := Lib.hid b47
  have R3 := Lib.hid r3
  have R4 := Lib.hid r4
  clear hr7 hb7 hc7 b47 r3 r4
  simp only [Act.put, List.setIfInBounds_toArray, List.set_cons_zero, List.set_cons_succ]
  refine take_op 8 (v := ?vstreamsNeg8) rfl (by kernel_rfl) (by kernel_rfl) (by kernel_rfl) (fun _ _ _ h => h) (by rfl) (fun w' hS => ?hystreamsNeg8) ?reststreamsNeg8
  case hystreamsNeg8 => have hh := since_str (P := Try.prog) Try.underlying22 Try.underlying5 Try.underlying9 (n := 0) (c := c7) HR7.out (Nat.le_refl _) (by rw [strm_length]) w' hS; go_simp; rfl
  simp only [Act.put, List.setIfInBounds_toArray, List.set_cons_zero, List.set_cons_succ]
  refine take_op 9 (v := ?vstreamsNeg9) rfl (by kernel_rfl) (by kernel_rfl) (by kernel_rfl) (fun _ _ _ h => h) (by rfl) (fun w' hS => ?hystreamsNeg9) ?reststreamsNeg9
  case hystreamsNeg9 => go_simp; rfl
  simp only [Act.put, List.setIfInBounds_toArray, List.set_cons_zero, List.set_cons_succ]
  refine take_op 10 (v := ?vstreamsNeg10) rfl (by kernel_rfl) (by kernel_rfl) (by kernel_rfl) (fun _ _ _ h => h) (by rfl) (fun w' hS => ?hystreamsNeg10) ?reststreamsNeg10
  case hystreamsNeg10 => go_simp; rfl
  simp only [Act.put, List.setIfInBounds_toArray, List.set_cons_zero, List.set_cons_succ]
  refine take_op 11 (v := ?vstreamsNeg11) rfl (by kernel_rfl) (by kernel_rfl) (by kernel_rfl) (fun _ _ _ h => h) (by rfl) (fun w' hS => ?hystreamsNeg11) ?reststreamsNeg11
  case hystreamsNeg11 => go_simp; rfl
  simp only [Act.put, List.setIfInBounds_toArray, List.set_cons_zero, List.set_cons_succ]
  refine take_op 12 (v := ?vstreamsNeg12) rfl (by kernel_rfl) (by kernel_rfl) (by kernel_rfl) (fun _ _ _ h => h) (by rfl) (fun w' hS => ?hystreamsNeg12) ?reststreamsNeg12
  case hystreamsNeg12 => go_simp; rfl
  simp only [Act.put, List.setIfInBounds_toArray, List.set_cons_zero, List.set_cons_succ]
  refine take_op 13 (v := ?vstreamsNeg13) rfl (by kernel_rfl) (by kernel_rfl) (by kernel_rfl) (fun _ _ _ h => h) (by rfl) (fun w' hS => ?hystreamsNeg13) ?reststreamsNeg13
  case hystreamsNeg13 => go_simp; rfl
  simp only [Act.put, List.setIfInBounds_toArray, List.set_cons_zero, List.set_cons_succ]
  refine take_op 14 (v := ?vstreamsNeg14) rfl (by kernel_rfl) (by kernel_rfl) (by kernel_rfl) (fun _ _ _ h => h) (by rfl) (fun w' hS => ?hystreamsNeg14) ?reststreamsNeg14
  case hystreamsNeg14 => go_simp; rfl
  simp only [Act.put, List.setIfInBounds_toArray, List.set_cons_zero, List.set_cons_succ]
  refine take_op 15 (v := ?vstreamsNeg15) rfl (by kernel_rfl) (by kernel_rfl) (by kernel_rfl) (fun _ _ _ h => h) (by rfl) (fun w' hS => ?hystreamsNeg15) ?reststreamsNeg15
  case hystreamsNeg15 => go_simp; rfl
  simp only [Act.put, List.setIfInBounds_toArray, List.set_cons_zero, List.set_cons_succ]
  refine take_op 16 (v := ?vstreamsNeg16) rfl (by kernel_rfl) (by kernel_rfl) (by kernel_rfl) (fun _ _ _ h => h) (by rfl) (fun w' hS => ?hystreamsNeg16) ?reststreamsNeg16
  case hystreamsNeg16 => go_simp; rfl
  simp only [Act.put, List.setIfInBounds_toArray, List.set_cons_zero, List.set_cons_succ]
  refine take_op 17 (v := ?vstreamsNeg17) rfl (by kernel_rfl) (by kernel_rfl) (by kernel_rfl) (fun _ _ _ h => h) (by rfl) (fun w' hS => ?hystreamsNeg17) ?reststreamsNeg17
  case hystreamsNeg17 => go_simp; rfl
  simp only [Act.put, List.setIfInBounds_toArray, List.set_cons_zero, List.set_cons_succ]
  refine take_op 18 (v := ?vstreamsNeg18) rfl (by kernel_rfl) (by kernel_rfl) (by kernel_rfl) (fun _ _ _ h => h) (by rfl) (fun w' hS => ?hystreamsNeg18) ?reststreamsNeg18
  case hystreamsNeg18 => go_simp; rfl
  simp only [Act.put, List.setIfInBounds_toArray, List.set_cons_zero, List.set_cons_succ]
  refine take_op 19 (v := ?vstreamsNeg19) rfl (by kernel_rfl) (by kernel_rfl) (by kernel_rfl) (fun _ _ _ h => h) (by rfl) (fun w' hS => ?hystreamsNeg19) ?reststreamsNeg19
  case hystreamsNeg19 => go_simp; rfl
  simp only [Act.put, List.setIfInBounds_toArray, List.set_cons_zero, List.set_cons_succ]
  refine take_op 20 (v := ?vstreamsNeg20) rfl (by kernel_rfl) (by kernel_rfl) (by kernel_rfl) (fun _ _ _ h => h) (by rfl) (fun w' hS => ?hystreamsNeg20) ?reststreamsNeg20
  case hystreamsNeg20 => go_simp; rfl
  simp only [Act.put, List.setIfInBounds_toArray, List.set_cons_zero, List.set_cons_succ]
  refine take_op 21 (v := ?vstreamsNeg21) rfl (by kernel_rfl) (by kernel_rfl) (by kernel_rfl) (fun _ _ _ h => h) (by rfl) (fun w' hS => ?hystreamsNeg21) ?reststreamsNeg21
  case hystreamsNeg21 => go_simp; rfl
  simp only [Act.put, List.setIfInBounds_toArray, List.set_cons_zero, List.set_cons_succ]
  refine take_op 22 (v := ?vstreamsNeg22) rfl (by kernel_rfl) (by kernel_rfl) (by kernel_rfl) (fun _ _ _ h => h) (by rfl) (fun w' hS => ?hystreamsNeg22) ?reststreamsNeg22
  case hystreamsNeg22 => go_simp; rfl
  simp only [Act.put, List.setIfInBounds_toArray, List.set_cons_zero, List.set_cons_succ]
  refine take_op 23 (v := ?vstreamsNeg23) rfl (by kernel_rfl) (by kernel_rfl) (by kernel_rfl) (fun _ _ _ h => h) (by rfl) (fun w' hS => ?hystreamsNeg23) ?reststreamsNeg23
  case hystreamsNeg23 => go_simp; rfl
  simp only [Act.put, List.setIfInBounds_toArray, List.set_cons_zero, List.set_cons_succ]
  refine take_op 24 (v := ?vstreamsNeg24) rfl (by kernel_rfl) (by kernel_rfl) (by kernel_rfl) (fun _ _ _ h => h) (by rfl) (fun w' hS => ?hystreamsNeg24) ?reststreamsNeg24
  case hystreamsNeg24 => have hh := since_str (P := Try.prog) Try.underlying22 Try.underlying5 Try.underlying9 (n := 0) (c := d4) R4.out (Nat.le_refl _) (by rw [strm_length]) w' hS; go_simp; rfl
  simp only [Act.put, List.setIfInBounds_toArray, List.set_cons_zero, List.set_cons_succ]
  refine take_op 25 (v := ?vstreamsNeg25) rfl (by kernel_rfl) (by kernel_rfl) (by kernel_rfl) (fun _ _ _ h => h) (by rfl) (fun w' hS => ?hystreamsNeg25) ?reststreamsNeg25
  case hystreamsNeg25 => go_simp; rfl
  simp only [Act.put, List.setIfInBounds_toArray, List.set_cons_zero, List.set_cons_succ]
  refine take_op 26 (v := ?vstreamsNeg26) rfl (by kernel_rfl) (by kernel_rfl) (by kernel_rfl) (fun _ _ _ h => h) (by rfl) (fun w' hS => ?hystreamsNeg26) ?reststreamsNeg26
  case hystreamsNeg26 => have hh := since_str (P := Try.prog) Try.underlying22 Try.underlying5 Try.underlying9 (n := 0) (c := d3) R3.out (Nat.le_refl _) (by rw [strm_length]) w' hS; go_simp; rfl
  simp only [Act.put, List.setIfInBounds_toArray, List.set_cons_zero, List.set_cons_succ]
  refine take_op 27 (v := ?vstreamsNeg27) rfl (by kernel_rfl) (by kernel_rfl) (by kernel_rfl) (fun _ _ _ h => h) (by rfl) (fun w' hS => ?hystreamsNeg27) ?reststreamsNeg27
  case hystreamsNeg27 => go_simp; rfl
  simp only [Act.put, List.setIfInBounds_toArray, List.set_cons_zero, List.set_cons_succ]
  refine take_op 28 (v := ?vstreamsNeg28) rfl (by kernel_rfl) (by kernel_rfl) (by kernel_rfl) (fun _ _ _ h => h) (by rfl) (fun w' hS => ?hystreamsNeg28) ?reststreamsNeg28
  case hystreamsNeg28 => go_simp; rfl
  simp only [Act.put, List.setIfInBounds_toArray, List.set_cons_zero, List.set_cons_succ]
  refine take_op 29 (v := ?vstreamsNeg29) rfl (by kernel_rfl) (by kernel_rfl) (by kernel_rfl) (fun _ _ _ h => h) (by rfl) (fun w' hS => ?hystreamsNeg29) ?reststreamsNeg29
  case hystreamsNeg29 => go_simp; rfl
  simp only [Act.put, List.setIfInBounds_toArray, List.set_cons_zero, List.set_cons_succ]
  refine call_op 30 rfl (by kernel_rfl) (by rfl) 18 #[] (by go_simp) ?_
  refine Calls.mono (known_any w7) ?_
  rintro e w8 ⟨rfl, hb8⟩
  refine ⟨_, rfl, hb8, ?_⟩
  have HB8 := Lib.hid hb8
  clear hb8
  simp only [Act.put, List.setIfInBounds_toArray, List.set_cons_zero, List.set_cons_succ]
  refine take_op 31 (v := ?vstreamsNeg31) rfl (by kernel_rfl) (by kernel_rfl) (by kernel_rfl) (fun _ _ _ h => h) (by rfl) (fun w' hS => ?hystreamsNeg31) ?reststreamsNeg31
  case hystreamsNeg31 => go_simp; rfl
  simp only [Act.put, List.setIfInBounds_toArray, List.set_cons_zero, List.set_cons_succ]
  refine take_op 32 (v := ?vstreamsNeg32) rfl (by kernel_rfl) (by kernel_rfl) (by kernel_rfl) (fun _ _ _ h => h) (by rfl) (fun w' hS => ?hystreamsNeg32) ?reststreamsNeg32
  case hystreamsNeg32 => go_simp; rfl
  simp only [Act.put, List.setIfInBounds_toArray, List.set_cons_zero, List.set_cons_succ]
  refine wpAnyH_done (by kernel_rfl) ?_ _

  go_wp2_with fail
  go_ret
  exact ⟨rfl, bt HT4.out (bt B47.out HB8.out)⟩

set_option maxRecDepth 100000 in
set_option maxHeartbeats 3200000 in
theorem streamsPos (A : Option Addr) (l : List UInt8) (c N m : Nat) (k : Nat) (hk1 : k ≤ 1000) (w : World) (hN : N < 18446744073709551616) (hn1 : -5 ≤ (k : Int)) (hn2 : (k : Int) ≤ 1000) (hm : m ≤ 1000) (hr : Rd w w.heap.size A (bvs l)) :
    Calls Try.prog 5 #[.slice A l.length c, .int .u64 (N : Int), .int .i64 (k : Int), .int .i64 (m : Int)] w fun e w' => e = .returned (.bool true) ∧ Below w.heap.size w w' := by
  obtain ⟨ks, ek⟩ : ∃ ks, ks = ksOf l := ⟨_, rfl⟩
  have c1 := key_any A l.length c l w rfl hr
  have cq : ∀ w1, Below w.heap.size w w1 → _ := fun w1 h => key_any A l.length c l w1 rfl ((hr.below h).more h.size)
  rw [← ek] at c1
  rw [← ek] at cq
  clear hr ek
  have cW := dwords ks
  have g1 : decide ((k : Int) < -5) = false := by simp <;> omega
  have g2 : decide ((1000 : Int) < (k : Int)) = false := by simp <;> omega
  have g3 : decide ((m : Int) < 0) = false := by simp
  have g4 : decide ((1000 : Int) < (m : Int)) = false := by simp <;> omega
  have hk : ((k : Int)).toNat = k := Int.toNat_natCast k
  obtain ⟨M, eM⟩ : ∃ M, M = k + m := ⟨_, rfl⟩
  have hM : (k : Int) + (m : Int) = (M : Int) := by omega
  have w0 : (M : Int) ≤ 2000 := by omega
  have hz : IntKind.i64.wrap (M : Int) = (M : Int) := by rw [IntKind.wrap_i64]; omega
  have zk : Hid (k ≤ M) := by show k ≤ M; omega
  have z2 : (k : Int) ≤ 1000 := by omega
  have hmx : (if (k : Int) < 0 then (0 : Int) else (k : Int)) = (k : Int) := if_neg (by omega)
  have hmz : IntKind.i64.wrap ((if (k : Int) < 0 then (0 : Int) else (k : Int)) + (m : Int)) = (M : Int) := by rw [hmx, hM]; exact hz
  have HKM := Lib.hid (show k ≤ M by omega)
  clear eM
  have CQ := Lib.hid cq
  have CW := Lib.hid cW
  clear cq cW
  have NN := Lib.hid hN; clear hN
  have N1 := Lib.hid hn1; clear hn1
  have N2 := Lib.hid hn2; clear hn2
  have HM := Lib.hid hm; clear hm
  have HK := Lib.hid hk; clear hk
  go_enter Try.func5, Try.ntmps5
  go_wp2_with (first
    | (go_at_call 12; refine Calls.mono c1 ?_; rintro e w1 ⟨rfl, hb1⟩; have HB1 := Lib.hid hb1; clear hb1 c1; have c2 := new_any ks w1)
    | (go_at_call 11; refine Calls.mono c2 ?_; rintro e w2 ⟨b, rfl, hb, hk2, hb2⟩; clear c2; have c3 := stream_gen b ks false N (k : Int) w2 (by have := N2.out; omega) NN.out hk2; rw [HK.out] at c3; have hlt := hk2.lt; have HLT := Lib.hid hlt; have HBb := Lib.hid hb; have HB2 := Lib.hid hb2; clear hk2 hb hb2 hlt)
    | (go_at_call 19; refine Calls.mono c3 ?_; rintro e w3 ⟨A3, d3, mk3, rfl, hd3, hs3, hk3, hg3⟩; clear c3; have c4 := stream_gen b ks mk3 N (M : Int) w3 (by omega) NN.out hk3; rw [Int.toNat_natCast] at c4; have HD3 := Lib.hid hd3; have HS3 := Lib.hid hs3; have HG3 := Lib.hid hg3; clear hd3 hs3 hk3 hg3)
    | (go_at_call 19; refine Calls.mono c4 ?_; rintro e w4 ⟨A4, d4, mk4, rfl, hd4, hs4, hk4, hg4⟩; clear c4; have HD4 := Lib.hid hd4; have HS4 := Lib.hid hs4; have HG4 := Lib.hid hg4; clear hd4 hs4 hk4 hg4))
  have ht3 := btg (bt HB1.out HB2.out) HG3.out (Nat.le_trans HB1.out.size HBb.out)
  have ht4 := btg ht3 HG4.out (Nat.le_trans HB1.out.size HBb.out)
  have HT4 : Hid (Below w.heap.size w w4.drew) := ht4.drew
  have rs3 := (HS3.out.grown HG4.out HLT.out).rd
  have rs4 := HS4.out.rd
  have RS3 : Hid (Rd w4.drew w4.drew.heap.size A3 (bvs (strm (kw ks) (upW N) (loW N) k))) := rs3
  have RS4 : Hid (Rd w4.drew w4.drew.heap.size A4 (bvs (strm (kw ks) (upW N) (loW N) M))) := rs4
  have hkd : k ≤ d4 := Nat.le_trans zk.out HD4.out
  have hkd2 : ((k : Nat) : Int) ≤ (d4 : Int) := by omega
  clear rs3 rs4 ht3 ht4
  have cq := CQ.out
  have cW := CW.out
  refine region_begin 33 rfl (by kernel_rfl) ?_
  refine take_op 0 (v := ?vstreamsPos0) rfl (by kernel_rfl) (by kernel_rfl) (by kernel_rfl) (fun _ _ _ h => h) (by rfl) (fun w' hS => ?hystreamsPos0) ?reststreamsPos0
  case hystreamsPos0 => go_simp; rfl
  simp only [Act.put, List.setIfInBounds_toArray, List.set_cons_zero, List.set_cons_succ]
  refine take_op 1 (v := ?vstreamsPos1) rfl (by kernel_rfl) (by kernel_rfl) (by kernel_rfl) (fun _ _ _ h => h) (by rfl) (fun w' hS => ?hystreamsPos1) ?reststreamsPos1
  case hystreamsPos1 => have hh := since_str (P := Try.prog) Try.underlying22 Try.underlying5 Try.underlying9 (n := k) (c := d3) RS3.out (Nat.le_refl _) (by rw [strm_length]) w' hS; go_simp; rfl
  simp only [Act.put, List.setIfInBounds_toArray, List.set_cons_zero, List.set_cons_succ]
  refine take_op 2 (v := ?vstreamsPos2) rfl (by kernel_rfl) (by kernel_rfl) (by kernel_rfl) (fun _ _ _ h => h) (by rfl) (fun w' hS => ?hystreamsPos2) ?reststreamsPos2
  case hystreamsPos2 => go_simp; rfl
  simp only [Act.put, List.setIfInBounds_toArray, List.set_cons_zero, List.set_cons_succ]
  refine take_op 5 (v := ?vstreamsPos5) rfl (by kernel_rfl) (by kernel_rfl) (by kernel_rfl) (fun _ _ _ h => h) (by rfl) (fun w' hS => ?hystreamsPos5) ?reststreamsPos5
  case hystreamsPos5 => go_simp; rfl
  simp only [Act.put, List.setIfInBounds_toArray, List.set_cons_zero, List.set_cons_succ]
  refine take_op 6 (v := ?vstreamsPos6) rfl (by kernel_rfl) (by kernel_rfl) (by kernel_rfl) (fun _ _ _ h => h) (by rfl) (fun w' hS => ?hystreamsPos6) ?reststreamsPos6
  case hystreamsPos6 => go_simp; rfl
  simp only [Act.put, List.setIfInBounds_toArray, List.set_cons_zero, List.set_cons_succ]
  refine call_op 3 rfl (by kernel_rfl) (by rfl) 12 #[.slice A l.length c] (by go_simp) ?_
  refine Calls.mono (cq w4.drew (HT4.out)) ?_
  rintro e w5 ⟨rfl, hb5⟩
  refine ⟨_, rfl, hb5, ?_⟩
  have HB5 := Lib.hid hb5
  clear hb5
  simp only [Act.put, List.setIfInBounds_toArray, List.set_cons_zero, List.set_cons_succ]
  refine call_op 4 rfl (by kernel_rfl) (by rfl) 13 #[.agg (key16 ks)] (by go_simp) ?_
  refine Calls.mono (cW w5) ?_
  rintro e w6 ⟨rfl, hb6⟩
  refine ⟨_, rfl, hb6, ?_⟩
  have HB6 := Lib.hid hb6
  clear hb6
  simp only [Act.put, List.setIfInBounds_toArray, List.set_cons_zero, List.set_cons_succ]
  refine call_op 7 rfl (by kernel_rfl) (by rfl) 20 #[.agg (cells27 (kw ks)), .int .u64 (N : Int), .int .i64 (k : Int)] (by go_simp) ?_
  refine Calls.mono (dstream (kw ks) N k ((k : Int)) w6 NN.out (by omega) (by omega)) ?_
  rintro e w7 ⟨A7, c7, rfl, hc7, hr7, hb7⟩
  refine ⟨_, rfl, hb7, ?_⟩
  have HR7 := Lib.hid hr7
  have HB7 := Lib.hid hb7
  have b47 : Below w4.drew.heap.size w4.drew w7 := bt (bt HB5.out HB6.out) hb7
  have r3 : Rd w7 w7.heap.size A3 (bvs (strm (kw ks) (upW N) (loW N) k)) := (RS3.out.below b47).more b47.size
  have r4 : Rd w7 w7.heap.size A4 (bvs (strm (kw ks) (upW N) (loW N) k)) := by
    have h := Rd.take ((RS4.out.below b47).more b47.size) k
    rw [bvs_take, strm_take _ _ _ _ _ HKM.out] at h
    exact h
  have B47 := Lib.hid b47
  have R3 := Lib.hid r3
  have R4 := Lib.hid r4
  clear hr7 hb7 hc7 b47 r3 r4
  simp only [Act.put, List.setIfInBounds_toArray, List.set_cons_zero, List.set_cons_succ]
  refine take_op 8 (v := ?vstreamsPos8) rfl (by kernel_rfl) (by kernel_rfl) (by kernel_rfl) (fun _ _ _ h => h) (by rfl) (fun w' hS => ?hystreamsPos8) ?reststreamsPos8
  case hystreamsPos8 => have hh := since_str (P := Try.prog) Try.underlying22 Try.underlying5 Try.underlying9 (n := k) (c := c7) HR7.out (Nat.le_refl _) (by rw [strm_length]) w' hS; go_simp; rfl
  simp only [Act.put, List.setIfInBounds_toArray, List.set_cons_zero, List.set_cons_succ]
  refine take_op 9 (v := ?vstreamsPos9) rfl (by kernel_rfl) (by kernel_rfl) (by kernel_rfl) (fun _ _ _ h => h) (by rfl) (fun w' hS => ?hystreamsPos9) ?reststreamsPos9
  case hystreamsPos9 => go_simp; rfl
  simp only [Act.put, List.setIfInBounds_toArray, List.set_cons_zero, List.set_cons_succ]
  refine take_op 10 (v := ?vstreamsPos10) rfl (by kernel_rfl) (by kernel_rfl) (by kernel_rfl) (fun _ _ _ h => h) (by rfl) (fun w' hS => ?hystreamsPos10) ?reststreamsPos10
  case hystreamsPos10 => go_simp; rfl
  simp only [Act.put, List.setIfInBounds_toArray, List.set_cons_zero, List.set_cons_succ]
  refine take_op 11 (v := ?vstreamsPos11) rfl (by kernel_rfl) (by kernel_rfl) (by kernel_rfl) (fun _ _ _ h => h) (by rfl) (fun w' hS => ?hystreamsPos11) ?reststreamsPos11
  case hystreamsPos11 => go_simp; rfl
  simp only [Act.put, List.setIfInBounds_toArray, List.set_cons_zero, List.set_cons_succ]
  refine take_op 12 (v := ?vstreamsPos12) rfl (by kernel_rfl) (by kernel_rfl) (by kernel_rfl) (fun _ _ _ h => h) (by rfl) (fun w' hS => ?hystreamsPos12) ?reststreamsPos12
  case hystreamsPos12 => go_simp; rfl
  simp only [Act.put, List.setIfInBounds_toArray, List.set_cons_zero, List.set_cons_succ]
  refine take_op 13 (v := ?vstreamsPos13) rfl (by kernel_rfl) (by kernel_rfl) (by kernel_rfl) (fun _ _ _ h => h) (by rfl) (fun w' hS => ?hystreamsPos13) ?reststreamsPos13
  case hystreamsPos13 => go_simp; rfl
  simp only [Act.put, List.setIfInBounds_toArray, List.set_cons_zero, List.set_cons_succ]
  refine take_op 14 (v := ?vstreamsPos14) rfl (by kernel_rfl) (by kernel_rfl) (by kernel_rfl) (fun _ _ _ h => h) (by rfl) (fun w' hS => ?hystreamsPos14) ?reststreamsPos14
  case hystreamsPos14 => go_simp; rfl
  simp only [Act.put, List.setIfInBounds_toArray, List.set_cons_zero, List.set_cons_succ]
  refine take_op 15 (v := ?vstreamsPos15) rfl (by kernel_rfl) (by kernel_rfl) (by kernel_rfl) (fun _ _ _ h => h) (by rfl) (fun w' hS => ?hystreamsPos15) ?reststreamsPos15
  case hystreamsPos15 => go_simp; rfl
  simp only [Act.put, List.setIfInBounds_toArray, List.set_cons_zero, List.set_cons_succ]
  refine take_op 16 (v := ?vstreamsPos16) rfl (by kernel_rfl) (by kernel_rfl) (by kernel_rfl) (fun _ _ _ h => h) (by rfl) (fun w' hS => ?hystreamsPos16) ?reststreamsPos16
  case hystreamsPos16 => go_simp; rfl
  simp only [Act.put, List.setIfInBounds_toArray, List.set_cons_zero, List.set_cons_succ]
  refine take_op 17 (v := ?vstreamsPos17) rfl (by kernel_rfl) (by kernel_rfl) (by kernel_rfl) (fun _ _ _ h => h) (by rfl) (fun w' hS => ?hystreamsPos17) ?reststreamsPos17
  case hystreamsPos17 => go_simp; rfl
  simp only [Act.put, List.setIfInBounds_toArray, List.set_cons_zero, List.set_cons_succ]
  refine take_op 18 (v := ?vstreamsPos18) rfl (by kernel_rfl) (by kernel_rfl) (by kernel_rfl) (fun _ _ _ h => h) (by rfl) (fun w' hS => ?hystreamsPos18) ?reststreamsPos18
  case hystreamsPos18 => go_simp; rfl
  simp only [Act.put, List.setIfInBounds_toArray, List.set_cons_zero, List.set_cons_succ]
  refine take_op 19 (v := ?vstreamsPos19) rfl (by kernel_rfl) (by kernel_rfl) (by kernel_rfl) (fun _ _ _ h => h) (by rfl) (fun w' hS => ?hystreamsPos19) ?reststreamsPos19
  case hystreamsPos19 => go_simp; rfl
  simp only [Act.put, List.setIfInBounds_toArray, List.set_cons_zero, List.set_cons_succ]
  refine take_op 20 (v := ?vstreamsPos20) rfl (by kernel_rfl) (by kernel_rfl) (by kernel_rfl) (fun _ _ _ h => h) (by rfl) (fun w' hS => ?hystreamsPos20) ?reststreamsPos20
  case hystreamsPos20 => go_simp; rfl
  simp only [Act.put, List.setIfInBounds_toArray, List.set_cons_zero, List.set_cons_succ]
  refine take_op 21 (v := ?vstreamsPos21) rfl (by kernel_rfl) (by kernel_rfl) (by kernel_rfl) (fun _ _ _ h => h) (by rfl) (fun w' hS => ?hystreamsPos21) ?reststreamsPos21
  case hystreamsPos21 => go_simp; rfl
  simp only [Act.put, List.setIfInBounds_toArray, List.set_cons_zero, List.set_cons_succ]
  refine take_op 22 (v := ?vstreamsPos22) rfl (by kernel_rfl) (by kernel_rfl) (by kernel_rfl) (fun _ _ _ h => h) (by rfl) (fun w' hS => ?hystreamsPos22) ?reststreamsPos22
  case hystreamsPos22 => go_simp; rfl
  simp only [Act.put, List.setIfInBounds_toArray, List.set_cons_zero, List.set_cons_succ]
  refine take_op 23 (v := ?vstreamsPos23) rfl (by kernel_rfl) (by kernel_rfl) (by kernel_rfl) (fun _ _ _ h => h) (by rfl) (fun w' hS => ?hystreamsPos23) ?reststreamsPos23
  case hystreamsPos23 => go_simp; rfl
  simp only [Act.put, List.setIfInBounds_toArray, List.set_cons_zero, List.set_cons_succ]
  refine take_op 24 (v := ?vstreamsPos24) rfl (by kernel_rfl) (by kernel_rfl) (by kernel_rfl) (fun _ _ _ h => h) (by rfl) (fun w' hS => ?hystreamsPos24) ?reststreamsPos24
  case hystreamsPos24 => have hh := since_str (P := Try.prog) Try.underlying22 Try.underlying5 Try.underlying9 (n := k) (c := d4) R4.out (Nat.le_refl _) (by rw [strm_length]) w' hS; go_simp; rfl
  simp only [Act.put, List.setIfInBounds_toArray, List.set_cons_zero, List.set_cons_succ]
  refine take_op 25 (v := ?vstreamsPos25) rfl (by kernel_rfl) (by kernel_rfl) (by kernel_rfl) (fun _ _ _ h => h) (by rfl) (fun w' hS => ?hystreamsPos25) ?reststreamsPos25
  case hystreamsPos25 => go_simp; rfl
  simp only [Act.put, List.setIfInBounds_toArray, List.set_cons_zero, List.set_cons_succ]
  refine take_op 26 (v := ?vstreamsPos26) rfl (by kernel_rfl) (by kernel_rfl) (by kernel_rfl) (fun _ _ _ h => h) (by rfl) (fun w' hS => ?hystreamsPos26) ?reststreamsPos26
  case hystreamsPos26 => have hh := since_str (P := Try.prog) Try.underlying22 Try.underlying5 Try.underlying9 (n := k) (c := d3) R3.out (Nat.le_refl _) (by rw [strm_length]) w' hS; go_simp; rfl
  simp only [Act.put, List.setIfInBounds_toArray, List.set_cons_zero, List.set_cons_succ]
  refine take_op 27 (v := ?vstreamsPos27) rfl (by kernel_rfl) (by kernel_rfl) (by kernel_rfl) (fun _ _ _ h => h) (by rfl) (fun w' hS => ?hystreamsPos27) ?reststreamsPos27
  case hystreamsPos27 => go_simp; rfl
  simp only [Act.put, List.setIfInBounds_toArray, List.set_cons_zero, List.set_cons_succ]
  refine take_op 28 (v := ?vstreamsPos28) rfl (by kernel_rfl) (by kernel_rfl) (by kernel_rfl) (fun _ _ _ h => h) (by rfl) (fun w' hS => ?hystreamsPos28) ?reststreamsPos28
  case hystreamsPos28 => go_simp; rfl
  simp only [Act.put, List.setIfInBounds_toArray, List.set_cons_zero, List.set_cons_succ]
  refine take_op 29 (v := ?vstreamsPos29) rfl (by kernel_rfl) (by kernel_rfl) (by kernel_rfl) (fun _ _ _ h => h) (by rfl) (fun w' hS => ?hystreamsPos29) ?reststreamsPos29
  case hystreamsPos29 => go_simp; rfl
  simp only [Act.put, List.setIfInBounds_toArray, List.set_cons_zero, List.set_cons_succ]
  refine call_op 30 rfl (by kernel_rfl) (by rfl) 18 #[] (by go_simp) ?_
  refine Calls.mono (known_any w7) ?_
  rintro e w8 ⟨rfl, hb8⟩
  refine ⟨_, rfl, hb8, ?_⟩
  have HB8 := Lib.hid hb8
  clear hb8
  simp only [Act.put, List.setIfInBounds_toArray, List.set_cons_zero, List.set_cons_succ]
  refine take_op 31 (v := ?vstreamsPos31) rfl (by kernel_rfl) (by kernel_rfl) (by kernel_rfl) (fun _ _ _ h => h) (by rfl) (fun w' hS => ?hystreamsPos31) ?reststreamsPos31
  case hystreamsPos31 => go_simp; rfl
  simp only [Act.put, List.setIfInBounds_toArray, List.set_cons_zero, List.set_cons_succ]
  refine take_op 32 (v := ?vstreamsPos32) rfl (by kernel_rfl) (by kernel_rfl) (by kernel_rfl) (fun _ _ _ h => h) (by rfl) (fun w' hS => ?hystreamsPos32) ?reststreamsPos32
  case hystreamsPos32 => go_simp; rfl
  simp only [Act.put, List.setIfInBounds_toArray, List.set_cons_zero, List.set_cons_succ]
  refine wpAnyH_done (by kernel_rfl) ?_ _

  go_wp2_with fail
  go_ret
  exact ⟨rfl, bt HT4.out (bt B47.out HB8.out)⟩

theorem streamsOut (v u : Value) (n m : Int) (w : World) (h : n < -5 ∨ (¬ n < -5 ∧ 1000 < n) ∨ (¬ n < -5 ∧ ¬ 1000 < n ∧ m < 0) ∨ (¬ n < -5 ∧ ¬ 1000 < n ∧ ¬ m < 0 ∧ 1000 < m)) :
    Calls Try.prog 5 #[v, u, .int .i64 n, .int .i64 m] w fun e w' => e = .returned (.bool true) ∧ Below w.heap.size w w' := by
  rcases h with h | ⟨h1, h⟩ | ⟨h1, h2, h⟩ | ⟨h1, h2, h3, h⟩
  · have e1 : decide (n < -5) = true := by simpa using h
    clear h
    go_enter Try.func5, Try.ntmps5
    go_wp2
    go_ret
    exact ⟨rfl, Below.refl _ _⟩
  · have e1 : decide (n < -5) = false := by simp; omega
    have e2 : decide (1000 < n) = true := by simpa using h
    clear h h1
    go_enter Try.func5, Try.ntmps5
    go_wp2
    go_ret
    exact ⟨rfl, Below.refl _ _⟩
  · have e1 : decide (n < -5) = false := by simp; omega
    have e2 : decide (1000 < n) = false := by simp; omega
    have e3 : decide (m < 0) = true := by simpa using h
    clear h h1 h2
    go_enter Try.func5, Try.ntmps5
    go_wp2
    go_ret
    exact ⟨rfl, Below.refl _ _⟩
  · have e1 : decide (n < -5) = false := by simp; omega
    have e2 : decide (1000 < n) = false := by simp; omega
    have e3 : decide (m < 0) = false := by simp; omega
    have e4 : decide (1000 < m) = true := by simpa using h
    clear h h1 h2 h3
    go_enter Try.func5, Try.ntmps5
    go_wp2
    go_ret
    exact ⟨rfl, Below.refl _ _⟩
theorem streams (A : Option Addr) (l : List UInt8) (c : Nat) (nonce n m : Int) (w : World) (hr : Rd w w.heap.size A (bvs l)) (hc : l.length ≤ c) (hm : c ≤ maxLen) (wx : (Lit.int .u64 nonce).wf = true) (wn : (Lit.int .i64 n).wf = true) (wm : (Lit.int .i64 m).wf = true) :
    Calls Try.prog 5 #[.slice A l.length c, .int .u64 nonce, .int .i64 n, .int .i64 m] w fun e w' => e = .returned (.bool true) ∧ Below w.heap.size w w' := by
  obtain ⟨N, rfl, hN⟩ := Open.u64_of_wf wx
  by_cases h : n < -5 ∨ (¬ n < -5 ∧ 1000 < n) ∨ (¬ n < -5 ∧ ¬ 1000 < n ∧ m < 0) ∨ (¬ n < -5 ∧ ¬ 1000 < n ∧ ¬ m < 0 ∧ 1000 < m)
  · exact streamsOut _ _ n m w h
  · obtain ⟨q, rfl⟩ : ∃ q : Nat, m = (q : Int) := ⟨m.toNat, by omega⟩
    by_cases h0 : n < 0
    · exact streamsNeg A l c N q n h0 w hN (by omega) (by omega) (by omega) hr
    · obtain ⟨k, rfl⟩ : ∃ k : Nat, n = (k : Int) := ⟨n.toNat, by omega⟩
      exact streamsPos A l c N q k (by omega) w hN (by omega) (by omega) (by omega) hr
end Go.Proofs.Ytmelmoideigocaa.SpL
