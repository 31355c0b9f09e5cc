/-
  The count of the stream's blocks goes round in the nonce's lower half alone.
-/
import Derived.Test.YtmelmoideigocaaSpLaw3
import Derived.Test.YtmelmoideigocaaSpLaw4
import Derived.Deep.CutBlock
set_option linter.unusedVariables false
namespace Go.Proofs.Ytmelmoideigocaa.SpL
open Go.RowKit Go.Proofs.Ytmelmoideigocaa.Mem Go.Proofs.Ytmelmoideigocaa.Sp

set_option maxRecDepth 100000 in
set_option maxHeartbeats 3200000 in
theorem wraps (A : Option Addr) (l : List UInt8) (c : Nat) (high low : Int) (w : World) (hr : Rd w w.heap.size A (bvs l)) (hc : l.length ≤ c) (hm : c ≤ maxLen) (wx : (Lit.int .u32 high).wf = true) (wy : (Lit.int .u32 low).wf = true) :
    Calls Try.prog 10 #[.slice A l.length c, .int .u32 high, .int .u32 low] w fun e w' => e = .returned (.bool true) ∧ Below w.heap.size w w' := by
  obtain ⟨hi, rfl⟩ := Open.u32_of_wf wx
  obtain ⟨lw_, rfl⟩ := Open.u32_of_wf wy
  clear wx wy hc hm
  obtain ⟨ks, ek⟩ : ∃ ks, ks = ksOf l := ⟨_, rfl⟩
  have c1 := key_any A l.length c l w rfl hr
  have cq : ∀ w1, Below w.heap.size w w1 → _ := fun w1 h => key_any A l.length c l w1 rfl ((hr.below h).more h.size)
  rw [← ek] at c1
  rw [← ek] at cq
  clear hr ek
  -- the lower half's start
  obtain ⟨lo, elo⟩ : ∃ lo : Wd, lo = 4294967295#32 - (lw_ &&& 3#32) := ⟨_, rfl⟩
  obtain ⟨la, ela⟩ : ∃ la : Wd, la = lw_ &&& 3#32 := ⟨_, rfl⟩
  have hand : bits .and .u32 (lw_.toNat : Int) 3 = (la.toNat : Int) := by
    have := u32_and_nat lw_.toNat 3 lw_.isLt (by decide)
    rw [ela, BitVec.toNat_and]; exact this
  have hla : la.toNat < 4 := by
    rw [ela, BitVec.toNat_and]; exact Nat.lt_of_le_of_lt Nat.and_le_right (by decide)
  have hlo : 4294967295 - (la.toNat : Int) = (lo.toNat : Int) := by
    rw [elo, ← ela, BitVec.toNat_sub]
    have : (4294967295#32).toNat = 4294967295 := rfl
    rw [this]
    omega
  obtain ⟨N, eN⟩ : ∃ N : Nat, N = hi.toNat * 4294967296 + lo.toNat := ⟨_, rfl⟩
  have hlolt := wd_lt lo
  have hhilt := wd_lt hi
  have hor : bits .or .u64 ((hi.toNat : Int) * 4294967296) (lo.toNat : Int) = (N : Int) := by
    have e : (hi.toNat : Int) * 4294967296 = ((hi.toNat * 4294967296 : Nat) : Int) := by omega
    rw [e, u64_or_nat _ _ (by omega) (by omega), nat_join 32 _ _ (by omega) (by omega), eN]
  have hN : N < 18446744073709551616 := by omega
  have hupN : upW N = hi := by
    apply BitVec.eq_of_toNat_eq
    rw [upW, BitVec.toNat_ofNat]; omega
  have hloN : loW N = lo := by
    apply BitVec.eq_of_toNat_eq
    rw [loW, BitVec.toNat_ofNat]; omega
  obtain ⟨cs, ecs⟩ : ∃ cs, cs = cells27 (kw ks) := ⟨_, rfl⟩
  have z27 : cs.size = 27 := by rw [ecs]; exact size27 _
  have i27 : (Try.prog.info? 28).map (·.size) = some cs.size := by rw [ecs]; exact info27 _
  have o27 : cs.all (·.oneCell') = true := by rw [ecs]; exact one27 _
  have cW := dwords ks
  have cB := dblock (kw ks) hi
  rw [← ecs] at cW cB
  have Z27 := Lib.hid z27; clear z27
  have I27 := Lib.hid i27; clear i27
  have O27 := Lib.hid o27; clear o27
  have NN := Lib.hid hN; clear hN
  have HU := Lib.hid hupN; clear hupN
  have HL := Lib.hid hloN; clear hloN
  have HLA := Lib.hid hla
  have hla2 : (la.toNat : Int) < 4 := by omega
  have hla3 : (0 : Int) ≤ 4294967295 - (la.toNat : Int) := by omega
  clear ecs elo ela eN hla hlolt hhilt
  go_enter Try.func10, Try.ntmps10
  go_upto_region 5 with (first
    | (go_at_call 12; refine Calls.mono c1 ?_; rintro e w1 ⟨rfl, hb1⟩; have HB1 := Lib.hid hb1; clear hb1 c1; have c2 := new_any ks w1)
    | (go_at_call 11; refine Calls.mono c2 ?_; rintro e w2 ⟨b, rfl, hb, hk2, hb2⟩; clear c2; have c3 := stream_any b ks false N 48 48 w2 rfl (by decide) (by decide) NN.out hk2; rw [HU.out, HL.out] at c3; have HBb := Lib.hid hb; have HB2 := Lib.hid hb2; clear hk2 hb hb2)
    | (go_at_call 19; refine Calls.mono c3 ?_; rintro e w3 ⟨g, rfl, hg, hB, hk3, hg3, _⟩; clear c3; have HG := Lib.hid hg; have HB := Lib.hid hB; have HG3 := Lib.hid hg3; clear hg hB hk3 hg3))
  have ht3 := btg (bt HB1.out HB2.out) HG3.out (Nat.le_trans HB1.out.size HBb.out)
  have c4 := cq w3 ht3
  have HT3 := Lib.hid ht3; clear ht3 cq
  go_cut [9] from 29 to 31 (fun pv wx => ∃ d, pv = .pointer (some ⟨d, 0, none⟩) ∧ d < wx.heap.size ∧ Below w3.heap.size w3 wx ∧ Stands wx d cs)
  case first =>
    go_wp2_with (first
      | (go_at_call 12; refine Calls.mono c4 ?_; rintro e w5 ⟨rfl, hb5⟩; have HB5 := Lib.hid hb5; clear hb5 c4; have c5 := cW w5; clear cW)
      | (go_at_call 13; refine Calls.mono c5 ?_; rintro e w6 ⟨rfl, hb6⟩; have HB6 := Lib.hid hb6; clear hb6 c5)
      | (refine wpList_store_mid (by rfl) 28 (.tmp 9) (.tmp 31) (by rfl) w6.heap.size 0 cs (by rfl) (by rfl) (by have := there_blk (Blk.new w6 28 (cells27 zeroW)); rw [size27, ← Z27.out] at this; exact this) I27.out O27.out ?_)
      | fail)
    go_meet
    have h4 := bt HB5.out HB6.out
    refine ⟨w6.heap.size, rfl, ?_, ?_, stands_store (by rw [Z27.out]; rfl)⟩
    · exact Nat.lt_of_lt_of_le (Nat.lt_succ_self _) (by rw [setCells_size]; simp)
    · exact below_setCells w6.heap.size h4.size _ _ _ (h4.alloc h4.size _)
  case rest =>
    obtain ⟨d, rfl, hdl, hbc, hst⟩ := hcut
    have hBc := HB.out.below hbc
    have htc := bt HT3.out hbc
    have HD := Lib.hid hdl; clear hdl
    have HST := Lib.hid hst; clear hst
    have HBC := Lib.hid hBc; clear hBc
    have HTC := Lib.hid htc; clear htc
    clear cW c4 hbc
    go_wp2_with fail
    go_loopw [10] (fun iv wr => ∃ i : Nat, i ≤ 6 ∧ iv = .int .i64 (i : Int) ∧ Below wc.heap.size wc wr) (fun iv _ => 6 - (intOf iv).toNat)
    case atStart => exact ⟨0, by decide, rfl, Below.refl _ _⟩
    case round =>
      obtain ⟨i, hi6, rfl, hbr⟩ := hrel
      have HBR := Lib.hid hbr; clear hbr
      by_cases h6 : i = 6
      · subst h6
        have c9 := known_any wr
        have HI := Lib.hid hi6; clear hi6
        go_wp2_with (first | (go_at_call 18; refine Calls.mono c9 ?_; rintro e w9 ⟨rfl, hb9⟩; have HB9 := Lib.hid hb9; clear hb9))
        go_ret
        exact ⟨rfl, bt (bt HTC.out HBR.out) HB9.out⟩
      · have ib1 : (0 : Int) ≤ (i : Int) := by omega
        have ib2 : (i : Int) < 6 := by omega
        have ib3 : i < 6 := by omega
        have HI := Lib.hid ib3
        have hstr := HST.out.below HD.out HBR.out
        have HSR := Lib.hid hstr; clear hstr
        clear hi6 h6
        go_wp2_with (first | (refine wpList_load_st (by rfl) 28 (.tmp 9) (by rfl) d (by rfl) cs _ HSR.out Try.underlying28 (by rfl) I27.out ?_) | fail)
        have csum : ((lo.toNat : Int) + (i : Int)) % 4294967296 = ((lo + BitVec.ofNat 32 i).toNat : Int) := by rw [BitVec.toNat_add, BitVec.toNat_ofNat]; omega
        rw [csum]
        refine Calls.mono (cB (lo + BitVec.ofNat 32 i) wr) ?_
        rintro e w7 ⟨rfl, hb7⟩
        have hB7 := (HBC.out.below HBR.out).below hb7
        have h17 := bt HBR.out hb7
        have q0 := cell_lo hB7 i 0 (by decide) (by omega) 1 (by decide)
        have q1 := cell_lo hB7 i 1 (by decide) (by omega) 256 (by decide)
        have q2 := cell_lo hB7 i 2 (by decide) (by omega) 65536 (by decide)
        have q3 := cell_lo hB7 i 3 (by decide) (by omega) 16777216 (by decide)
        have q4 := cell_hi hB7 i 0 (by decide) (by omega) 1 (by decide)
        have q5 := cell_hi hB7 i 1 (by decide) (by omega) 256 (by decide)
        have q6 := cell_hi hB7 i 2 (by decide) (by omega) 65536 (by decide)
        have q7 := cell_hi hB7 i 3 (by decide) (by omega) 16777216 (by decide)
        obtain ⟨p, ep⟩ : ∃ p, p = blockK (kw ks) (hi, lo + BitVec.ofNat 32 i) := ⟨_, rfl⟩
        rw [← ep] at q0 q1 q2 q3 q4 q5 q6 q7
        rw [← ep]
        obtain ⟨x0, ex⟩ : ∃ x0, x0 = p.1 := ⟨_, rfl⟩
        obtain ⟨y0, ey⟩ : ∃ y0, y0 = p.2 := ⟨_, rfl⟩
        rw [← ex] at q0 q1 q2 q3
        rw [← ey] at q4 q5 q6 q7
        rw [← ex, ← ey]
        obtain ⟨o, eo⟩ : ∃ o, o = 8 * i := ⟨_, rfl⟩
        rw [← eo] at q0 q1 q2 q3 q4 q5 q6 q7
        have d0 : w7.cell? ⟨g, o, none⟩ = some (.int .u8 ((x0.toNat : Int) % 256)) := by simpa using q0
        have d4 : w7.cell? ⟨g, o + 4, none⟩ = some (.int .u8 ((y0.toNat : Int) % 256)) := by simpa using q4
        have d5 : w7.cell? ⟨g, o + 5, none⟩ = some (.int .u8 ((y0.toNat : Int) / 256 % 256)) := q5
        have d6 : w7.cell? ⟨g, o + 6, none⟩ = some (.int .u8 ((y0.toNat : Int) / 65536 % 256)) := q6
        have d7 : w7.cell? ⟨g, o + 7, none⟩ = some (.int .u8 ((y0.toNat : Int) / 16777216 % 256)) := q7
        have D := Lib.hid (And.intro d0 (And.intro q1 (And.intro q2 (And.intro q3 (And.intro d4 (And.intro d5 (And.intro d6 d7)))))))
        have h8 : 8 * (i : Int) = (o : Int) := by omega
        have ob1 : (0 : Int) ≤ (o : Int) := by omega
        have ob2 : (o : Int) ≤ 40 := by omega
        have EO := Lib.hid eo
        have H17 := Lib.hid h17
        clear d0 d4 d5 d6 d7 q0 q1 q2 q3 q4 q5 q6 q7 ep ex ey eo csum hB7 h17 hb7
        go_wp2_with fail
        go_loop [13] (fun jv => ∃ j : Nat, j ≤ 4 ∧ jv = .int .i64 (j : Int)) (fun jv => 4 - (intOf jv).toNat)
        case atStart => exact ⟨0, by decide, rfl⟩
        case round =>
          obtain ⟨j, hj, rfl⟩ := hrel
          have hx : j = 0 ∨ j = 1 ∨ j = 2 ∨ j = 3 ∨ j = 4 := by omega
          obtain ⟨d0, d1, d2, d3, d4, d5, d6, d7⟩ := D.out
          clear hj
          rcases hx with rfl | rfl | rfl | rfl | rfl
          · have k1 : (o : Int) + 4 < 48 := by omega
            have k2 : (o : Int) < 48 := by omega
            have k3 : o < 48 := by omega
            have k4 : o + 4 < 48 := by omega
            clear d1 d2 d3 d5 d6 d7
            go_wp2_with fail
            go_round
            case rel => exact ⟨1, by decide, rfl⟩
            case measure => simp [intOf]
          · have k1 : (o : Int) + 5 < 48 := by omega
            have k2 : (o : Int) + 1 < 48 := by omega
            have k3 : o + 1 < 48 := by omega
            have k4 : o + 5 < 48 := by omega
            clear d0 d2 d3 d4 d6 d7
            go_wp2_with fail
            go_round
            case rel => exact ⟨2, by decide, rfl⟩
            case measure => simp [intOf]
          · have k1 : (o : Int) + 6 < 48 := by omega
            have k2 : (o : Int) + 2 < 48 := by omega
            have k3 : o + 2 < 48 := by omega
            have k4 : o + 6 < 48 := by omega
            clear d0 d1 d3 d4 d5 d7
            go_wp2_with fail
            go_round
            case rel => exact ⟨3, by decide, rfl⟩
            case measure => simp [intOf]
          · have k1 : (o : Int) + 7 < 48 := by omega
            have k2 : (o : Int) + 3 < 48 := by omega
            have k3 : o + 3 < 48 := by omega
            have k4 : o + 7 < 48 := by omega
            clear d0 d1 d2 d4 d5 d6
            go_wp2_with fail
            go_round
            case rel => exact ⟨4, by decide, rfl⟩
            case measure => simp [intOf]
          · clear d0 d1 d2 d3 d4 d5 d6 d7
            go_wp2_with fail
            go_roundw
            case rel => exact ⟨i + 1, by have := HI.out; omega, by go_num, H17.out⟩
            case measure => have := HI.out; simp [intOf]; omega
end Go.Proofs.Ytmelmoideigocaa.SpL
