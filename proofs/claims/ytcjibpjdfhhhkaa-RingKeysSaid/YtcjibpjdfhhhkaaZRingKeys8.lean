/-
  The statement of RingKeys: the walk's contract carried to the row: for every input the call answers true, and each argument reads as it did.
-/
import Derived.Deep.RegionHeld3
import Derived.Deep.LoopGhost
import Derived.Deep.CutBlock
import Derived.Test.YtcjibpjdfhhhkaaRows
import Derived.WalkKit
import Derived.ProofKit
import Derived.OpenShut
import Derived.ShutString
import Derived.ChangeOld
import Derived.Below
import Derived.SizedLaws
import Derived.Test.YtcjibpjdfhhhkaaZRingKeys1
import Derived.Test.YtcjibpjdfhhhkaaZRingKeys2
import Derived.Test.YtcjibpjdfhhhkaaZRingKeys3
import Derived.Test.YtcjibpjdfhhhkaaZRingKeys4
import Derived.Test.YtcjibpjdfhhhkaaZRingKeys5
import Derived.Test.YtcjibpjdfhhhkaaZRingKeys6
import Derived.Test.YtcjibpjdfhhhkaaZRingKeys7
section
set_option linter.unusedVariables false
set_option linter.unusedSimpArgs false
namespace Go.Proofs.Ytcjibpjdfhhhkaa.Rg
open Go.RowKit Go.Proofs.Ytcjibpjdfhhhkaa.Mem Go.Proofs.Ytcjibpjdfhhhkaa.Se

def keysOf (l : List UInt8) (i : Nat) : List It := (List.range i).map fun j => ⟨p1, j + 1, kB (l.getD j 0)⟩
theorem keysOf_length (l : List UInt8) (i : Nat) : (keysOf l i).length = i := by simp [keysOf]
theorem keysOf_next (l : List UInt8) (i : Nat) : keysOf l (i + 1) = keysOf l i ++ [⟨p1, i + 1, kB (l.getD i 0)⟩] := by simp [keysOf, List.range_succ]
theorem keysOf_p (l : List UInt8) (n i : Nat) (x : It) (h : (keysOf l n)[i]? = some x) : x.p = p1 := by
  simp only [keysOf, List.getElem?_map] at h
  obtain ⟨j, _, rfl⟩ := Option.map_eq_some_iff.1 h
  rfl
theorem keysOf_num (l : List UInt8) : ∀ i, Num (keysOf l i)
  | 0 => num_nil
  | i + 1 => by
    rw [keysOf_next]
    refine num_snoc (keysOf_num l i) ?_
    show i + 1 = lastN (keysOf l i) p1 + 1
    rw [last_same (keysOf_num l i) (keysOf_p l i), keysOf_length]
theorem keysOf_last (l : List UInt8) (i : Nat) : lastN (keysOf l i) p1 = i := by rw [last_same (keysOf_num l i) (keysOf_p l i), keysOf_length]
theorem ks_at {es : List Ent} {l : List UInt8} {n i : Nat} (h : its es = keysOf l n) (hi : i < n) : (ksE es)[i]? = some (kB (l.getD i 0)) := by
  have : ksE es = (its es).map (·.k) := by simp [ksE, its]
  rw [this, h, keysOf]
  simp [hi]
theorem key_size : (Try.prog.info? 30).map (·.size) = some 32 := by kernel_rfl
theorem key0_blk {w : World} {base n : Nat} {A : Option Addr} {c : Nat} {K : List (Nat → UInt8)} (hn : K.length = n) (h0 : 1 ≤ n) (h : OwnK w base (.slice A n c) K) : ∃ g cur, A = some ⟨g, 0, none⟩ ∧ base ≤ g ∧ Blk w g 30 cur ∧ 32 ≤ cur.size := by
  rcases h.2 with ⟨h1, h2⟩ | ⟨g, cap, cur, h1, hg, hh, hc, hm, hs, _⟩
  · omega
  · injection h1 with h1 _ _
    exact ⟨g, cur, h1, hg, hh, by rw [hs]; omega⟩
set_option maxRecDepth 100000 in
set_option maxHeartbeats 3200000 in
theorem keys_yes (A : Option Addr) (l : List UInt8) (c : Nat) (w : World) (hr : Rd w w.heap.size A (bvs l)) (h1 : 1 ≤ l.length) (h2 : l.length ≤ 40) :
    Calls Try.prog 7 #[.slice A l.length c] w fun e w' => e = .returned (.bool true) ∧ Below w.heap.size w w' := by
  obtain ⟨B, eB⟩ : ∃ B, B = w.heap.size := ⟨_, rfl⟩
  have c1 := ring_new B w (Nat.le_of_eq eB)
  rw [← eB] at hr
  have CA := Lib.hid (fun (w1 : World) (r i : Nat) (v : Value) (es : List Ent) (h : Ring w1 B r v es) (hB : B ≤ w1.heap.size) (he : its es = keysOf l i) (hi : i < 40) => add_ok B r v es p1 (kB (l.getD i 0)) w1 h hB (by decide) (by decide) (by decide) (by rw [← its_length, he, keysOf_length]; exact hi) (by rw [he, keysOf_last]; omega))
  have CY := Lib.hid (fun (w1 : World) (r : Nat) (v : Value) (es : List Ent) (h : Ring w1 B r v es) (hl : es.length ≤ 1000) => keys_any B r v es w1 h hl)
  have CK := Lib.hid (fun w1 => rknown_any w1)
  have EB := Lib.hid eB
  have HR := Lib.hid hr
  obtain ⟨n, en⟩ : ∃ n, n = l.length := ⟨_, rfl⟩
  rw [← en] at h1 h2 ⊢
  have EN := Lib.hid en
  have HB := Lib.hid (Below.refl B w)
  have t1 : decide ((n : Int) < 1) = false := by simp; omega
  have t2 : decide (40 < (n : Int)) = false := by simp; omega
  have H1 := Lib.hid h1; have H2 := Lib.hid h2
  clear hr en h1 h2
  go_enter Try.func7, Try.ntmps7
  go_wp2_with (first
    | (go_at_call 8; refine Calls.mono c1 ?_; rintro e w1 ⟨r, rfl, hr, hrg, hb⟩; clear c1; rw [← eB] at hb; clear eB; replace HB := Lib.hid hb; have HRG := Lib.hid hrg; clear hb hr hrg)
    | fail)
  go_loopw [4] (fun iv wr => ∃ (i : Nat) (v : Value) (es : List Ent), i ≤ n ∧ iv = .int .i64 (i : Int) ∧ Below B w wr ∧ Ring wr B r v es ∧ its es = keysOf l i) (fun iv _ => n - (intOf iv).toNat)
  case atStart => exact ⟨0, _, [], Nat.zero_le _, rfl, HB.out, HRG.out, rfl⟩
  case round =>
    clear HB HRG
    obtain ⟨i, v, es, hi, rfl, hb, hr, hes⟩ := hrel
    have HB := Lib.hid hb; have HRG := Lib.hid hr; have HES := Lib.hid hes
    clear hb hr hes
    by_cases hlt : i < n
    · have e1 : (i : Int) < (n : Int) := by omega
      have e2 : (0 : Int) ≤ (i : Int) := by omega
      have e9 : (i : Int) ≤ 40 := by have := H2.out; omega
      have hll : i < l.length := by rw [← EN.out]; exact hlt
      obtain ⟨y, ey⟩ : ∃ y, y = l.getD i 0 := ⟨_, rfl⟩
      obtain ⟨bb, oo, rfl, hbB, hcell⟩ := HR.out.at_ (i := i) (u := bv y) (by rw [bvs_at hll, ey]; simp [List.getD, hll])
      have hc : wr.cell? ⟨bb, oo + i, none⟩ = some (.int .u8 (y.toNat : Int)) := (HB.out.cell (p := ⟨bb, oo + i, none⟩) hbB).trans hcell
      have ca := CA.out wr r i v es HRG.out (Nat.le_trans (Nat.le_of_eq EB.out) HB.out.size) HES.out (by have := H2.out; omega)
      rw [← ey, kB_lit, show lastN (its es) p1 = i by rw [HES.out, keysOf_last]] at ca
      have HNX := Lib.hid (show its es ++ [⟨p1, i + 1, kB y⟩] = keysOf l (i + 1) by rw [keysOf_next, HES.out, ey])
      clear hcell hll ey
      go_wp2_with (first
        | (go_at_call 9; refine Calls.mono ca ?_; rintro e w3 ⟨rfl, v3, b, hbl, hrg, hc, _⟩; have HB3 := Lib.hid (ring_below HB.out (Nat.le_trans (Nat.le_of_eq EB.out) HB.out.size) HRG.out hc); have HRG3 := Lib.hid hrg; clear hbl hrg hc ca)
        | fail)
      go_roundw
      case rel => exact ⟨i + 1, v3, _, by omega, by go_num, HB3.out, HRG3.out, by rw [its_snoc]; exact HNX.out⟩
      case measure => simp [intOf]; omega
    · have e1 : decide ((i : Int) < (n : Int)) = false := by simp; omega
      obtain rfl : n = i := by omega
      have HEL := Lib.hid (show es.length = n by rw [← its_length, HES.out, keysOf_length])
      have HKL := Lib.hid (show (ksE es).length = n by rw [ksE_length, HEL.out])
      have cy := CY.out wr r v es HRG.out (by have := HEL.out; have := H2.out; omega)
      have HRG0 := Lib.hid HRG.out
      clear hi hlt
      obtain ⟨b0, hb0⟩ : ∃ b0, (bvs l)[0]? = some (bv b0) := ⟨l[0]'(by have := EN.out; have := H1.out; omega), bvs_at _⟩
      obtain ⟨bb, oo, rfl, hbB, hcell⟩ := HR.out.at_ hb0
      rw [Nat.add_zero] at hcell
      clear hb0
      go_wp2_with (first
        | (go_at_call 18; refine Calls.mono cy ?_; rintro e w4 ⟨vk, rfl, hk, hb⟩; obtain ⟨Ak, ck, ek, hck, hmk, hrk⟩ := own_rdr kC_length hk; rw [HKL.out] at ek; subst ek; have hk0 := key0_blk HKL.out H1.out hk; obtain ⟨gk, cur, rfl, hgk, hblk, hcur⟩ := hk0; have HBLK := Lib.hid hblk; have HCUR := Lib.hid hcur; have HBR := Lib.hid (show B ≤ wr.heap.size from (Nat.le_trans (Nat.le_of_eq EB.out) HB.out.size)); have HGK := Lib.hid hgk; replace HRG := Lib.hid (HRG.out.below hb); replace HB := Lib.hid (HB.out.trans (hb.mono (Nat.le_trans (Nat.le_of_eq EB.out) HB.out.size))); have HOFF := Lib.hid (show ¬ RO r v es gk from fun x => by have := (HRG0.out).own_lt x; omega); have kc : w4.cell? ⟨bb, oo, none⟩ = some (.int .u8 (b0.toNat : Int)) := (HB.out.cell (p := ⟨bb, oo, none⟩) hbB).trans hcell; clear cy hb hk hrk hck hmk hgk hblk hcur)
        | (refine store_front (by rfl) 30 (.tmp 46) (.tmp 45) (by rfl) gk 30 cur HBLK.out _ 32 (by rfl) (by rfl) (by rfl) HCUR.out key_size (one_key _) ?_; intro V hg; replace HRG := Lib.hid (HRG.out.chg (chg_row hg) (fun q hq x => HOFF.out (by injection x with x; rw [x]; exact hq))); replace HB := Lib.hid (below_g HB.out hg (Nat.le_trans (Nat.le_of_eq EB.out) HB.out.size) (Nat.le_trans HBR.out HGK.out)); have cy2 := CY.out V r v es HRG.out (by have := HEL.out; have := H2.out; omega); clear hg HBLK HOFF kc)
        | (go_at_call 18; refine Calls.mono cy2 ?_; rintro e w5 ⟨vk, rfl, hk, hb⟩; obtain ⟨Ak, c5, ek, hck, hmk, hrk⟩ := own_rdr kC_length hk; rw [HKL.out] at ek; subst ek; replace HRG := Lib.hid (HRG.out.below hb); replace HB := Lib.hid (HB.out.trans (hb.mono (Nat.le_trans (Nat.le_of_eq EB.out) HB.out.size))); have HRK := Lib.hid hrk; clear cy2 hb hk hrk hck hmk HCUR HGK)
        | fail)
      have hB5 : Below w5.heap.size w5 w5 := Below.refl _ _
      go_loopw [7] (fun iv w2 => ∃ j : Nat, j ≤ n ∧ iv = .int .i64 (j : Int) ∧ Below w5.heap.size w5 w2) (fun iv _ => n - (intOf iv).toNat)
      case atStart => exact ⟨0, Nat.zero_le _, rfl, hB5⟩
      case round =>
        clear hB5 e1
        obtain ⟨j, hj, rfl, hb2⟩ := hrel
        have HB2 := Lib.hid hb2
        clear hb2
        by_cases hlt : j < n
        · have e1 : (j : Int) < (n : Int) := by omega
          have e2 : (0 : Int) ≤ (j : Int) := by omega
          have e3 : decide ((n : Int) ≤ (j : Int)) = false := by simp; omega
          have e9 : (j : Int) ≤ 40 := by have := H2.out; omega
          have hll : j < l.length := by rw [← EN.out]; exact hlt
          obtain ⟨y, ey⟩ : ∃ y, y = l.getD j 0 := ⟨_, rfl⟩
          obtain ⟨bb2, oo2, eA, hbB2, hcell2⟩ := HR.out.at_ (i := j) (u := bv y) (by rw [bvs_at hll, ey]; simp [List.getD, hll])
          injection eA with eA
          injection eA with e4 e5 _
          subst e4 e5
          obtain ⟨g5, rfl, hg5, hra⟩ := HRK.out.at_ (ks_at HES.out hlt)
          rw [← ey] at hra
          obtain ⟨kv, ekv⟩ : ∃ kv, kv = key32 (kB y) := ⟨_, rfl⟩
          have HRA := Lib.hid (show wr.drew.rangeAt g5 (j * 32) kv.toList from fun q u hu => (HB2.out.cell (p := ⟨g5, _, none⟩) hg5).trans (hra q u (by rw [ekv] at hu; exact hu)))
          have HYC := Lib.hid (show wr.drew.cell? ⟨bb, oo + j, none⟩ = some (.int .u8 (y.toNat : Int)) from ((HB.out.trans (HB2.out.mono (Nat.le_trans (Nat.le_of_eq EB.out) HB.out.size))).cell (p := ⟨bb, _, none⟩) hbB2).trans hcell2)
          have HKI := Lib.hid (show (Try.prog.info? 30).map (·.size) = some kv.size by rw [ekv]; exact info32 _)
          have HEQ := Lib.hid (show ∀ w, (Op.equalIn 10000 30 (.agg kv) (.agg #[.int .u8 (y.toNat : Int), .int .u8 0, .int .u8 0, .int .u8 0, .int .u8 0, .int .u8 0, .int .u8 0, .int .u8 0, .int .u8 0, .int .u8 0, .int .u8 0, .int .u8 0, .int .u8 0, .int .u8 0, .int .u8 0, .int .u8 0, .int .u8 0, .int .u8 0, .int .u8 0, .int .u8 0, .int .u8 0, .int .u8 0, .int .u8 0, .int .u8 0, .int .u8 0, .int .u8 0, .int .u8 0, .int .u8 0, .int .u8 0, .int .u8 0, .int .u8 0, .int .u8 0])).run Try.prog w = .ok true w from fun w => by rw [← kB_lit y, ekv]; exact eql_key_same _ w)
          clear hra hcell2 hll ey ekv
          go_wp2
          refine Reg.any_begin (fun w' => w'.rangeAt g5 (j * 32) kv.toList ∧ w'.cell? ⟨bb, oo + j, none⟩ = some (.int .u8 (y.toNat : Int))) 16 rfl (by kernel_rfl) ⟨HRA.out, HYC.out⟩ ?_
          have HS : Hid (wr.drew.rangeAt g5 (j * 32) kv.toList ∧ wr.drew.cell? ⟨bb, oo + j, none⟩ = some (.int .u8 (y.toNat : Int))) := Lib.hid ⟨HRA.out, HYC.out⟩
          refine Reg.any_take 0 (v := ?vq1) rfl (by kernel_rfl) (by kernel_rfl) (by kernel_rfl) (fun _ _ _ h => h) HS.out (by rfl) (fun w' hS => ?hq1) ?rq1
          case hq1 => go_simp; rfl
          simp only [Act.put, List.setIfInBounds_toArray, List.set_cons_zero, List.set_cons_succ]
          refine Reg.any_take 1 (v := ?vq2) rfl (by kernel_rfl) (by kernel_rfl) (by kernel_rfl) (fun _ _ _ h => h) HS.out (by rfl) (fun w' hS => ?hq2) ?rq2
          case hq2 => go_simp; rfl
          simp only [Act.put, List.setIfInBounds_toArray, List.set_cons_zero, List.set_cons_succ]
          refine Reg.any_take 2 (v := ?vq3) rfl (by kernel_rfl) (by kernel_rfl) (by kernel_rfl) (fun _ _ _ h => h) HS.out (by rfl) (fun w' hS => ?hq3) ?rq3
          case hq3 => go_simp; rfl
          simp only [Act.put, List.setIfInBounds_toArray, List.set_cons_zero, List.set_cons_succ]
          refine Reg.any_take 3 (v := .bool false) rfl (by kernel_rfl) (by kernel_rfl) (by kernel_rfl) (fun _ _ _ h => h) HS.out (by rfl) (fun w' hS => ?hq4) ?rq4
          case hq4 => go_simp
          simp only [Act.put, List.setIfInBounds_toArray, List.set_cons_zero, List.set_cons_succ]
          refine Reg.any_take 4 (v := .bool false) rfl (by kernel_rfl) (by kernel_rfl) (by kernel_rfl) (fun _ _ _ h => h) HS.out (by rfl) (fun w' hS => ?hq5) ?rq5
          case hq5 => go_simp
          simp only [Act.put, List.setIfInBounds_toArray, List.set_cons_zero, List.set_cons_succ]
          refine Reg.any_take 5 (v := ?vq6) rfl (by kernel_rfl) (by kernel_rfl) (by kernel_rfl) (fun _ _ _ h => h) HS.out (by rfl) (fun w' hS => ?hq6) ?rq6
          case hq6 => go_simp; rfl
          simp only [Act.put, List.setIfInBounds_toArray, List.set_cons_zero, List.set_cons_succ]
          refine Reg.any_take 6 (v := ?vq7) rfl (by kernel_rfl) (by kernel_rfl) (by kernel_rfl) (fun _ _ _ h => h) HS.out (by rfl) (fun w' hS => ?hq7) ?rq7
          case hq7 => go_simp; rfl
          simp only [Act.put, List.setIfInBounds_toArray, List.set_cons_zero, List.set_cons_succ]
          refine Reg.any_take 7 (v := ?vq8) rfl (by kernel_rfl) (by kernel_rfl) (by kernel_rfl) (fun _ _ _ h => h) HS.out (by rfl) (fun w' hS => ?hq8) ?rq8
          case hq8 => go_simp; rfl
          simp only [Act.put, List.setIfInBounds_toArray, List.set_cons_zero, List.set_cons_succ]
          refine Reg.any_take 8 (v := .agg kv) rfl (by kernel_rfl) (by kernel_rfl) (by kernel_rfl) (fun _ _ _ h => h) HS.out (by rfl) (fun w' hS => ?hq9) ?rq9
          case hq9 => exact exec_load_mid (.tmp 62) rfl rfl hS.1 Try.underlying30 rfl HKI.out
          simp only [Act.put, List.setIfInBounds_toArray, List.set_cons_zero, List.set_cons_succ]
          refine Reg.any_take 9 (v := ?vq10) rfl (by kernel_rfl) (by kernel_rfl) (by kernel_rfl) (fun _ _ _ h => h) HS.out (by rfl) (fun w' hS => ?hq10) ?rq10
          case hq10 => go_simp; rfl
          simp only [Act.put, List.setIfInBounds_toArray, List.set_cons_zero, List.set_cons_succ]
          refine Reg.any_take 10 (v := ?vq11) rfl (by kernel_rfl) (by kernel_rfl) (by kernel_rfl) (fun _ _ _ h => h) HS.out (by rfl) (fun w' hS => ?hq11) ?rq11
          case hq11 => go_simp; rfl
          simp only [Act.put, List.setIfInBounds_toArray, List.set_cons_zero, List.set_cons_succ]
          refine Reg.any_take 11 (v := ?vq12) rfl (by kernel_rfl) (by kernel_rfl) (by kernel_rfl) (fun _ _ _ h => h) HS.out (by rfl) (fun w' hS => ?hq12) ?rq12
          case hq12 => go_simp; rfl
          simp only [Act.put, List.setIfInBounds_toArray, List.set_cons_zero, List.set_cons_succ]
          refine Reg.any_take 12 (v := .int .u8 (y.toNat : Int)) rfl (by kernel_rfl) (by kernel_rfl) (by kernel_rfl) (fun _ _ _ h => h) HS.out (by rfl) (fun w' hS => ?hq13) ?rq13
          case hq13 => have h1 := hS.2; go_simp
          simp only [Act.put, List.setIfInBounds_toArray, List.set_cons_zero, List.set_cons_succ]
          refine Reg.any_take 13 (v := ?vq14) rfl (by kernel_rfl) (by kernel_rfl) (by kernel_rfl) (fun _ _ _ h => h) HS.out (by rfl) (fun w' hS => ?hq14) ?rq14
          case hq14 => go_simp; rfl
          simp only [Act.put, List.setIfInBounds_toArray, List.set_cons_zero, List.set_cons_succ]
          refine Reg.any_take 14 (v := .bool false) rfl (by kernel_rfl) (by kernel_rfl) (by kernel_rfl) (fun _ _ _ h => h) HS.out (by rfl) (fun w' hS => ?hq15) ?rq15
          case hq15 => have h1 := HEQ.out; go_simp
          simp only [Act.put, List.setIfInBounds_toArray, List.set_cons_zero, List.set_cons_succ]
          refine Reg.any_take 15 (v := .bool false) rfl (by kernel_rfl) (by kernel_rfl) (by kernel_rfl) (fun _ _ _ h => h) HS.out (by rfl) (fun w' hS => ?hq16) ?rq16
          case hq16 => go_simp
          simp only [Act.put, List.setIfInBounds_toArray, List.set_cons_zero, List.set_cons_succ]
          refine wpAnyH_done (by kernel_rfl) ?_ _
          go_wp2
          go_roundw
          case rel => exact ⟨j + 1, by omega, by go_num, below_drewN HB2.out 1⟩
          case measure => simp [intOf]; omega
        · have e1 : decide ((j : Int) < (n : Int)) = false := by simp; omega
          go_wp2_with (first
            | (go_at_call 15; refine Calls.mono (CK.out _) ?_; rintro e w8 ⟨rfl, hb⟩; clear CK; have HBE := Lib.hid ((HB.out.trans (HB2.out.mono (Nat.le_trans (Nat.le_of_eq EB.out) HB.out.size))).trans (hb.mono (Nat.le_trans (Nat.le_trans (Nat.le_of_eq EB.out) HB.out.size) HB2.out.size))); clear hb)
            | fail)
          go_ret
          exact ⟨rfl, by rw [← EB.out]; exact HBE.out⟩
set_option maxRecDepth 100000 in
theorem keysLaw (A : Option Addr) (l : List UInt8) (c : Nat) (w : World) (hr : Rd w w.heap.size A (bvs l)) : Calls Try.prog 7 #[.slice A l.length c] w fun e w' => e = .returned (.bool true) ∧ Below w.heap.size w w' := by
  by_cases hx : 1 ≤ l.length ∧ l.length ≤ 40
  · exact keys_yes A l c w hr hx.1 hx.2
  · have HB := Lib.hid (Below.refl w.heap.size w)
    obtain ⟨n, en⟩ : ∃ n, n = l.length := ⟨_, rfl⟩
    rw [← en] at hx ⊢
    clear hr en
    by_cases h1 : n < 1
    · have t1 : decide ((n : Int) < 1) = true := by simp; omega
      clear hx h1
      go_enter Try.func7, Try.ntmps7
      go_wp2
      go_ret
      exact ⟨rfl, HB.out⟩
    · have t1 : decide ((n : Int) < 1) = false := by simp; omega
      have t2 : decide (40 < (n : Int)) = true := by simp; omega
      clear hx h1
      go_enter Try.func7, Try.ntmps7
      go_wp2
      go_ret
      exact ⟨rfl, HB.out⟩
end Go.Proofs.Ytcjibpjdfhhhkaa.Rg
end

section
namespace Go.Proofs.Ytcjibpjdfhhhkaa.ringKeys
open Go.ChangeShapes Go.WideShapes Go.ChangeAt Go.RowKit Go.Proofs.Ytcjibpjdfhhhkaa
open Go.ChangeMaps (open_string shut_string)

theorem own : ownKnob Try.prog.godebug = none := by kernel_rfl
theorem laidOut : laidOutB Try.prog = true := by kernel_rfl

set_option maxRecDepth 100000 in
theorem lifted (os : Os) (started : os.Started) (H : Type) (enc : TypeId × Value → H) :
    ReturnsInHanded {} Try.checked os 7 .any (Rows.ringKeysSpec.pre6 enc Try.prog Try.f7 Rows.ringKeysRow.domain false) (Rows.ringKeysSpec.post enc Try.prog Try.f7 false true false false) := by
  refine returnsInHanded_of_change (C := Try.checked) own started (by kernel_rfl) Try.func7
    (ChangeSpec.witness6 (enc := enc) (C := Try.checked) false ⟨#[], #[.slice none 0 0], []⟩ 8 (by kernel_rfl) (by kernel_rfl) (by kernel_rfl) (by kernel_rfl)) ?_
  intro W base args ds gs before hval0 hW hcnd _
  have hval : ∀ (j : Nat) t v, Try.f7.params[j]? = some t → args[j]? = some v → Value.okWide Try.prog W .any base t v := hval0
  have hW' := hW
  obtain ⟨p, q, hA0, hV, rfl, hfz, hnd⟩ := hW
  have hA : DataW.TrodAll enc Try.prog W 0 (fun _ => true) true Try.f7.params.toList args.toList ds p := hA0
  rw [Try.params7] at hA hval
  obtain ⟨v0, vs0, d0, ds0, p0, q0, hargs, rfl, rfl, h0, r0⟩ := trodAll_cons hA
  obtain ⟨rfl, rfl, rfl⟩ := trodAll_nil r0
  obtain rfl : args = #[v0] := by cases args; simp_all
  obtain ⟨rfl, rfl⟩ := trodVars_none hV
  have k0 := h0
  have lt0 : ∀ x ∈ p0, x.block < W.heap.size := by obtain ⟨m, hm⟩ := k0; exact DataW.trod_lt m _ _ _ hm
  obtain ⟨A0, l0, c0, rfl, w0, x0, y0⟩ := Open.open_bytes Try.underlying34 Try.underlying5 (by kernel_rfl) (okWide_slice Try.underlying34 (hval 0 34 v0 rfl rfl)) h0
  clear hA0 hval0
  refine (Rg.keysLaw A0 l0 c0 W w0).mono fun e W' ⟨he, bel⟩ => ?_
  subst he
  exact ⟨_, rfl, _, _, _, [], _, [], hW', trodAll_mk1 (shut_bool Try.underlying4 _), (trodAll_cons_mk (Below.trod laidOut (by kernel_rfl) (of_decide_eq_true (by kernel_rfl)) k0 bel lt0) trodAll_mk0), rfl, bel.frame _, fun h => by cases h⟩

theorem over : Rows.ringKeysRow.holds Try.pinned (OpenSpec.ofChange Rows.ringKeysSpec) :=
  OpenClaim.holds_of_wide 7 Try.f7 rfl rfl rfl rfl rfl rfl rfl ⟨rfl, rfl, rfl, rfl, rfl⟩ rfl rfl rfl rfl rfl (by kernel_rfl) Try.func7 (by kernel_rfl)
    (of_decide_eq_true (by kernel_rfl)) (by unfold Func.isWrapper; first | (rw [if_pos (by decide +kernel)]; kernel_rfl) | (rw [if_neg (by decide +kernel)]; exact ⟨rfl, rfl⟩))
    (fun os started H enc _ => lifted os started H enc)

theorem proved : Rows.RingKeysSaid := over
end Go.Proofs.Ytcjibpjdfhhhkaa.ringKeys
end
