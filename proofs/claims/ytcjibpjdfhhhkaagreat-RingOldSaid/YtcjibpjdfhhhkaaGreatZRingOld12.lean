/-
  The statement of RingOld: the walk's contract carried to the row: for every input the call answers true, and each argument reads as it did.
-/
import Derived.Deep.LoopGhost
import Derived.DeepKeys
import Derived.Laws.StructEq
import Derived.Test.YtcjibpjdfhhhkaaGreatRows
import Derived.WalkKit
import Derived.ProofKit
import Derived.OpenShut
import Derived.ShutString
import Derived.ChangeOld
import Derived.Below
import Derived.SizedLaws
import Derived.Test.YtcjibpjdfhhhkaaGreatZRingOld1
import Derived.Test.YtcjibpjdfhhhkaaGreatZRingOld2
import Derived.Test.YtcjibpjdfhhhkaaGreatZRingOld3
import Derived.Test.YtcjibpjdfhhhkaaGreatZRingOld4
import Derived.Test.YtcjibpjdfhhhkaaGreatZRingOld5
import Derived.Test.YtcjibpjdfhhhkaaGreatZRingOld6
import Derived.Test.YtcjibpjdfhhhkaaGreatZRingOld7
import Derived.Test.YtcjibpjdfhhhkaaGreatZRingOld8
import Derived.Test.YtcjibpjdfhhhkaaGreatZRingOld9
import Derived.Test.YtcjibpjdfhhhkaaGreatZRingOld10
import Derived.Test.YtcjibpjdfhhhkaaGreatZRingOld11
section
set_option linter.unusedVariables false
set_option linter.unusedSimpArgs false
namespace Go.Proofs.YtcjibpjdfhhhkaaGreat.Rg
open Go.RowKit Go.Proofs.YtcjibpjdfhhhkaaGreat.Mem Go.Proofs.YtcjibpjdfhhhkaaGreat.Se

def kAB (a c : UInt8) (i : Nat) : UInt8 := if i = 0 then a else if i = 1 then c else 0
theorem kAB_lit (a c : UInt8) : key32 (kAB a c) = #[.int .u8 (a.toNat : Int), .int .u8 (c.toNat : Int), .int .u8 0, .int .u8 0, .int .u8 0, .int .u8 0, .int .u8 0, .int .u8 0, .int .u8 0, .int .u8 0, .int .u8 0, .int .u8 0, .int .u8 0, .int .u8 0, .int .u8 0, .int .u8 0, .int .u8 0, .int .u8 0, .int .u8 0, .int .u8 0, .int .u8 0, .int .u8 0, .int .u8 0, .int .u8 0, .int .u8 0, .int .u8 0, .int .u8 0, .int .u8 0, .int .u8 0, .int .u8 0, .int .u8 0, .int .u8 0] := by kernel_rfl
abbrev oa (a : UInt8) (b : Nat) (h : Option Nat) (n o q : Nat) : Ent := ⟨⟨p1, 1, kAB a 1⟩, b, h, n, o, q⟩
abbrev ob (a : UInt8) (b : Nat) (h : Option Nat) (n o q : Nat) : Ent := ⟨⟨p1, 2, kAB a 2⟩, b, h, n, o, q⟩
theorem sealed_is (ks : Nat → UInt8) (u n : Nat) (p : List UInt8) (hn : n ≤ 1099511627776) (hp : p.length ≤ 784) : isL ks u (sealL ks u n p) = true := by
  have h := open_seal ks u n p hn hp
  unfold openL at h
  split at h
  · assumption
  · cases h
theorem old_seal (ks : Nat → UInt8) (p : List UInt8) (hp : p.length ≤ 200) : SeL.sealR ks 1 2 p = (sealL ks 1 2 p, 0) := by
  rw [SeL.sealR, if_pos (by omega)]; rfl
theorem old_open (ks : Nat → UInt8) (p : List UInt8) (hp : p.length ≤ 200) : SeL.openR ks 1 (sealL ks 1 2 p) = (p, 0) := by
  have h1 := sealed_is ks 1 2 p (by decide) (by omega)
  rw [SeL.openR, if_pos (by omega), show (1 : Int).toNat = 1 from rfl, if_pos h1, mid_seal, n8_seal ks 1 2 p (by omega), mix_mix]
theorem old_first (a : UInt8) (b : Nat) (h : Option Nat) (n o q : Nat) (l : List Ent) : firstI (its (oa a b h n o q :: l)) p1 1 = some 0 :=
  first_at (x := ⟨p1, 1, kAB a 1⟩) rfl rfl rfl fun j y hj => absurd hj (Nat.not_lt_zero _)
set_option maxRecDepth 100000 in
set_option maxHeartbeats 6400000 in
theorem old_yes (a b0 : UInt8) (A : Option Addr) (p : List UInt8) (c : Nat) (w : World) (hr : Rd w w.heap.size A (bvs p)) (hp : p.length ≤ 200) (hcp : p.length ≤ c) (hmp : c ≤ maxLen) :
    Calls Tryz.prog 4 #[.int .u8 (a.toNat : Int), .int .u8 (b0.toNat : Int), .slice A p.length c] w fun e w' => e = .returned (.bool true) ∧ Below w.heap.size w w' := by
  obtain ⟨B, eB⟩ : ∃ B, B = w.heap.size := ⟨_, rfl⟩
  have c1 := ring_new B w (Nat.le_of_eq eB)
  rw [← eB] at hr
  obtain ⟨Z, eZ⟩ : ∃ Z, Z = sealL (kAB a 1) 1 2 p := ⟨_, rfl⟩
  have hse := old_seal (kAB a 1) p hp
  have hop := old_open (kAB a 1) p hp
  rw [← eZ] at hse hop
  obtain ⟨Q1, E1, eq1⟩ : ∃ Q1 E1, SeL.openR (kAB b0 2) 1 Z = (Q1, E1) := ⟨_, _, rfl⟩
  have C2 := Lib.hid (fun (w1 : World) (r : Nat) (h : Ring w1 B r (.slice none 0 0) []) (hB : B ≤ w1.heap.size) => add_first p1 (kAB a 1) (by decide) (by decide) (by decide) h hB)
  have C3 := Lib.hid (fun (w1 : World) (r b : Nat) (v : Value) (h4 : Option Nat) (a4 : Nat) (h : Ring w1 B r v [oa a b h4 a4 0 0]) (hB : B ≤ w1.heap.size) => add_second p1 (kAB b0 2) (oa a b h4 a4 0 0) rfl rfl (by decide) (by decide) (by decide) h hB)
  have CB := Lib.hid (fun (w1 : World) (r b : Nat) (v : Value) (h : Option Nat) (n : Nat) (hr : Ring w1 B r v [oa a b h n 0 0]) => box_hit hr (by simp) (old_first a b h n 0 0 []) rfl)
  have CB2 := Lib.hid (fun (w1 : World) (r b b5 : Nat) (v : Value) (h : Option Nat) (n : Nat) (hr : Ring w1 B r v [oa a b h n 0 0, ob b0 b5 none 0 0 0]) => box_hit hr (by simp) (old_first a b h n 0 0 _) rfl)
  have CL := Lib.hid (fun (w1 : World) (r b b5 : Nat) (v : Value) (h : Option Nat) (n : Nat) (hr : Ring w1 B r v [oa a b h n 0 0, ob b0 b5 none 0 0 0]) => lastp_hit (p := p1) (i := 1) (x := ob b0 b5 none 0 0 0) hr (by simp) (last_two _ _ _ rfl) rfl)
  have CS := Lib.hid (fun (w1 : World) (r b : Nat) (v : Value) (h : Ring w1 B r v [oa a b none 0 0 0]) (hB : B ≤ w1.heap.size) (hrp : RdA (RO r v [oa a b none 0 0 0]) w1 A (bvs p)) => hse ▸ ring_seal h (i := 0) rfl (show 0 < 1000000 by decide) hB 1 2 A p.length c p (by decide) rfl (Nat.le_trans hcp hmp) hrp)
  have CO := Lib.hid (fun (w1 : World) (r b b5 : Nat) (v : Value) (h4 : Option Nat) (a4 : Nat) (A4 : Option Addr) (c4 : Nat) (h : Ring w1 B r v [oa a b h4 a4 0 0, ob b0 b5 none 0 0 0]) (hB : B ≤ w1.heap.size) (x1 : Z.length ≤ c4) (x2 : c4 ≤ maxLen) (hz : RdA (RO r v [oa a b h4 a4 0 0, ob b0 b5 none 0 0 0]) w1 A4 (bvs Z)) => hop ▸ ring_open h (i := 0) rfl (show 0 < 1000000 by decide) (show 0 < 1000000 by decide) hB 1 A4 Z.length c4 Z rfl x1 x2 hz)
  have CO2 := Lib.hid (fun (w1 : World) (r b b5 : Nat) (v : Value) (h4 : Option Nat) (a4 o8 q8 : Nat) (A4 : Option Addr) (c4 : Nat) (h : Ring w1 B r v [oa a b h4 a4 o8 q8, ob b0 b5 none 0 0 0]) (hB : B ≤ w1.heap.size) (x1 : Z.length ≤ c4) (x2 : c4 ≤ maxLen) (hz : RdA (RO r v [oa a b h4 a4 o8 q8, ob b0 b5 none 0 0 0]) w1 A4 (bvs Z)) => eq1 ▸ ring_open h (i := 1) rfl (show 0 < 1000000 by decide) (show 0 < 1000000 by decide) hB 1 A4 Z.length c4 Z rfl x1 x2 hz)
  have CD := Lib.hid (fun (w1 : World) (A4 : Option Addr) (c4 : Nat) (x1 : Z.length ≤ c4) (hz : Rd w1 w1.heap.size A4 (bvs Z)) => eq1 ▸ SeL.dopen_res (kAB b0 2) 1 A4 Z.length c4 Z w1 rfl x1 hz)
  have HPR := Lib.hid (fun (w1 : World) (hb : Below B w w1) (r : Nat) (v : Value) (es : List Ent) (h : Ring w1 B r v es) (hB : B ≤ w1.heap.size) => rda_old (hr.below hb) (Nat.le_refl _) h hB)
  have CVP := Lib.hid (fun w1 (h : Below B w w1) => run_bytes_str (P := Tryz.prog) w1 46 5 Tryz.underlying46 Tryz.underlying5 (hr.below h) p.length c rfl 9 Tryz.underlying9)
  have CVO := Lib.hid (fun (w1 : World) (B : Nat) (A : Option Addr) (c : Nat) (h : Rd w1 B A (bvs p)) => run_bytes_str (P := Tryz.prog) w1 46 5 Tryz.underlying46 Tryz.underlying5 h p.length c rfl 9 Tryz.underlying9)
  have CVQ := Lib.hid (fun (w1 : World) (B : Nat) (A : Option Addr) (c : Nat) (h : Rd w1 B A (bvs Q1)) => run_bytes_str (P := Tryz.prog) w1 46 5 Tryz.underlying46 Tryz.underlying5 h Q1.length c rfl 9 Tryz.underlying9)
  have CK := Lib.hid (fun w1 => rknown_any w1)
  simp only [kAB_lit] at C2 C3 CD
  obtain ⟨sp, esp⟩ : ∃ sp : ByteArray, sp = ⟨p.toArray⟩ := ⟨_, rfl⟩
  obtain ⟨sq, esq⟩ : ∃ sq : ByteArray, sq = ⟨Q1.toArray⟩ := ⟨_, rfl⟩
  rw [← esp] at CVP CVO
  rw [← esq] at CVQ
  obtain ⟨m, em⟩ : ∃ m, m = p.length := ⟨_, rfl⟩
  rw [← em] at CS CO CVP CVO ⊢
  have t1 : ¬ (200 : Int) < (m : Int) := by omega
  have EB := Lib.hid eB
  have HB := Lib.hid (Below.refl B w)
  clear hr hp hcp hmp eZ hse hop eq1 esp esq em
  go_enter Tryz.func4, Tryz.ntmps4
  go_wp2_with (first
    | (go_at_call 6; refine Calls.mono c1 ?_; rintro e w1 ⟨r, rfl, hr, hrg, hb⟩; clear c1; rw [← eB] at hr hb; clear eB; replace HB := Lib.hid hb; have hal := (Below.refl w1.heap.size w1).alloc (Nat.le_refl _) (.cells #[.string ⟨#[65]⟩, .string ⟨#[120]⟩] 31); have HRG := Lib.hid (hrg.below hal); have HP := Lib.hid (Blk.new w1 31 #[.string ⟨#[65]⟩, .string ⟨#[120]⟩]); have HNP := Lib.hid (show ¬ RO r (.slice none 0 0) [] w1.heap.size from fun x => by have := nil_ro x; have := hrg.lt; omega); replace HB := Lib.hid (HB.out.trans (hal.mono (Nat.le_trans (Nat.le_of_eq EB.out) HB.out.size))); have c2 := C2.out _ r HRG.out (Nat.le_trans (Nat.le_of_eq EB.out) HB.out.size); clear hb hrg hr hal)
    | (go_at_call 7; refine Calls.mono c2 ?_; rintro e w2 ⟨rfl, v2, b, hbl, hrg, hc, hnw⟩; clear c2; have hp2 := blk_add HP.out HNP.out hc; have hn2 := not_add HP.out.lt HNP.out hnw; replace HB := Lib.hid (ring_below HB.out (Nat.le_trans (Nat.le_of_eq EB.out) HB.out.size) HRG.out hc); clear HP HNP HRG; have HP := Lib.hid hp2; have HNP := Lib.hid hn2; have HRG := Lib.hid hrg; have k0 : w2.cell? ⟨w1.heap.size, 0, none⟩ = some (.string ⟨#[65]⟩) := HP.out.cell 0; have k1 : w2.cell? ⟨w1.heap.size, 1, none⟩ = some (.string ⟨#[120]⟩) := HP.out.cell 1; have cb := CB.out _ r b v2 none 0 HRG.out; clear hbl hrg hc hnw hp2 hn2)
    | (go_at_call 9; refine Calls.mono cb ?_; rintro e w3 ⟨rfl, hb⟩; clear cb k0 k1; replace HB := Lib.hid (HB.out.trans (hb.mono (Nat.le_trans (Nat.le_of_eq EB.out) HB.out.size))); replace HP := Lib.hid (HP.out.below hb); replace HRG := Lib.hid (HRG.out.below hb); have cs := CS.out _ r b v2 HRG.out (Nat.le_trans (Nat.le_of_eq EB.out) HB.out.size) (HPR.out w3 HB.out r v2 _ HRG.out (Nat.le_trans (Nat.le_of_eq EB.out) HB.out.size)); clear hb)
    | (go_at_call 11; refine Calls.mono cs ?_; rintro e w4 ⟨A4, c4, h4, a4, rfl, x1, x2, x3, x4, x5, x6⟩; clear cs; have hp2 := blk_use HP.out HNP.out (i := 0) rfl x6; have hn2 := not_use HP.out.lt HNP.out HRG.out (i := 0) rfl a4 0 0 x6; replace HB := Lib.hid (use_below HB.out (Nat.le_trans (Nat.le_of_eq EB.out) HB.out.size) HRG.out (i := 0) rfl x6); clear HP HNP HRG; have HP := Lib.hid hp2; have HNP := Lib.hid hn2; have HRG := Lib.hid x4; have HZ := Lib.hid x3; have HC1 := Lib.hid x1; have HC2 := Lib.hid x2; have k0 : w4.cell? ⟨w1.heap.size, 0, none⟩ = some (.string ⟨#[65]⟩) := HP.out.cell 0; have k1 : w4.cell? ⟨w1.heap.size, 1, none⟩ = some (.string ⟨#[120]⟩) := HP.out.cell 1; have c3 := C3.out _ r b v2 h4 a4 HRG.out (Nat.le_trans (Nat.le_of_eq EB.out) HB.out.size); clear x1 x2 x3 x4 x5 x6 hp2 hn2)
    | (go_at_call 7; refine Calls.mono c3 ?_; rintro e w5 ⟨rfl, v5, b5, hbl, hrg, hc, hnw⟩; clear c3 k0 k1; have hp2 := blk_add HP.out HNP.out hc; have hn2 := not_add HP.out.lt HNP.out hnw; have hz2 := rda_add HZ.out hc hnw; replace HB := Lib.hid (ring_below HB.out (Nat.le_trans (Nat.le_of_eq EB.out) HB.out.size) HRG.out hc); clear HP HNP HRG HZ; have HP := Lib.hid hp2; have HNP := Lib.hid hn2; have HRG := Lib.hid hrg; have HZ := Lib.hid hz2; have k0 : w5.cell? ⟨w1.heap.size, 0, none⟩ = some (.string ⟨#[65]⟩) := HP.out.cell 0; have k1 : w5.cell? ⟨w1.heap.size, 1, none⟩ = some (.string ⟨#[120]⟩) := HP.out.cell 1; have cb := CB2.out _ r b b5 v5 h4 a4 HRG.out; clear hbl hrg hc hnw hp2 hn2 hz2)
    | (go_at_call 9; refine Calls.mono cb ?_; rintro e w6 ⟨rfl, hb⟩; clear cb k0 k1; replace HB := Lib.hid (HB.out.trans (hb.mono (Nat.le_trans (Nat.le_of_eq EB.out) HB.out.size))); replace HP := Lib.hid (HP.out.below hb); have hz2 := rda_below HZ.out hb; replace HRG := Lib.hid (HRG.out.below hb); clear HZ; have HZ := Lib.hid hz2; have k0 : w6.cell? ⟨w1.heap.size, 0, none⟩ = some (.string ⟨#[65]⟩) := HP.out.cell 0; have k1 : w6.cell? ⟨w1.heap.size, 1, none⟩ = some (.string ⟨#[120]⟩) := HP.out.cell 1; have cl := CL.out _ r b b5 v5 h4 a4 HRG.out; clear hb hz2)
    | (go_at_call 13; refine Calls.mono cl ?_; rintro e w7 ⟨rfl, hb⟩; clear cl k0 k1; replace HB := Lib.hid (HB.out.trans (hb.mono (Nat.le_trans (Nat.le_of_eq EB.out) HB.out.size))); have hz2 := rda_below HZ.out hb; replace HRG := Lib.hid (HRG.out.below hb); clear HZ HP HNP; have HZ := Lib.hid hz2; have co := CO.out _ r b b5 v5 h4 a4 A4 c4 HRG.out (Nat.le_trans (Nat.le_of_eq EB.out) HB.out.size) HC1.out HC2.out HZ.out; clear hb hz2)
    | (go_at_call 18; refine Calls.mono co ?_; rintro e w8 ⟨A8, c8, h8, o8, q8, rfl, x3, x4, x6⟩; clear co; have hz2 := rda_use HZ.out HRG.out (i := 0) rfl a4 o8 q8 x6; replace HB := Lib.hid (use_below HB.out (Nat.le_trans (Nat.le_of_eq EB.out) HB.out.size) HRG.out (i := 0) rfl x6); clear HRG HZ; have HRG := Lib.hid x4; have HZ := Lib.hid hz2; have HO := Lib.hid x3; have co2 := CO2.out _ r b b5 v5 h8 a4 o8 q8 A4 c4 HRG.out (Nat.le_trans (Nat.le_of_eq EB.out) HB.out.size) HC1.out HC2.out HZ.out; clear x3 x4 x6 hz2)
    | (go_at_call 18; refine Calls.mono co2 ?_; rintro e w9 ⟨A9, c9, h9, o9, q9, rfl, x3, x4, x6⟩; clear co2; have hz2 := rda_use HZ.out HRG.out (i := 1) rfl 0 o9 q9 x6; have ho2 := rda_use HO.out HRG.out (i := 1) rfl 0 o9 q9 x6; replace HB := Lib.hid (use_below HB.out (Nat.le_trans (Nat.le_of_eq EB.out) HB.out.size) HRG.out (i := 1) rfl x6); clear HRG HZ HO; have HRG := Lib.hid x4; have HZ := Lib.hid hz2; have HO := Lib.hid ho2; have HQ := Lib.hid x3; have cd := CD.out _ A4 c4 HC1.out HZ.out.rd; clear x3 x4 x6 hz2 ho2)
    | (go_at_call 19; refine Calls.mono cd ?_; rintro e w10 ⟨A10, c10, rfl, x3, hb⟩; clear cd; have ho2 := rda_below HO.out hb; have hq2 := rda_below HQ.out hb; replace HB := Lib.hid (HB.out.trans (hb.mono (Nat.le_trans (Nat.le_of_eq EB.out) HB.out.size))); have hcv0 := CVP.out w10 HB.out; have hcv1 := CVO.out w10 _ A8 c8 ho2.rd; have hcv2 := CVQ.out w10 _ A9 c9 hq2.rd; have hcv3 := CVQ.out w10 _ A10 c10 x3; clear x3 hb ho2 hq2 HO HQ HZ HRG)
    | (go_at_call 17; refine Calls.mono (CK.out _) ?_; rintro e w11 ⟨rfl, hb⟩; clear CK; replace HB := Lib.hid (HB.out.trans (hb.mono (Nat.le_trans (Nat.le_of_eq EB.out) HB.out.size))); clear hb)
    | fail)
  go_ret
  exact ⟨rfl, by rw [← EB.out]; exact HB.out⟩
set_option maxRecDepth 100000 in
theorem old (a b0 : UInt8) (A : Option Addr) (p : List UInt8) (c : Nat) (w : World) (hr : Rd w w.heap.size A (bvs p)) (hcp : p.length ≤ c) (hmp : c ≤ maxLen) :
    Calls Tryz.prog 4 #[.int .u8 (a.toNat : Int), .int .u8 (b0.toNat : Int), .slice A p.length c] w fun e w' => e = .returned (.bool true) ∧ Below w.heap.size w w' := by
  by_cases hx : p.length ≤ 200
  · exact old_yes a b0 A p c w hr hx hcp hmp
  · have HB := Lib.hid (Below.refl w.heap.size w)
    obtain ⟨m, em⟩ : ∃ m, m = p.length := ⟨_, rfl⟩
    rw [← em] at hx ⊢
    have t1 : (200 : Int) < (m : Int) := by omega
    clear hr hcp hmp em hx
    go_enter Tryz.func4, Tryz.ntmps4
    go_wp2
    go_ret
    exact ⟨rfl, HB.out⟩
end Go.Proofs.YtcjibpjdfhhhkaaGreat.Rg
end

section
namespace Go.Proofs.YtcjibpjdfhhhkaaGreat.ringOld
open Go.ChangeShapes Go.WideShapes Go.ChangeAt Go.RowKit Go.Proofs.YtcjibpjdfhhhkaaGreat
open Go.ChangeMaps (open_string shut_string)

theorem own : ownKnob Tryz.prog.godebug = none := by kernel_rfl
theorem laidOut : laidOutB Tryz.prog = true := by kernel_rfl

set_option maxRecDepth 100000 in
theorem lifted (os : Os) (started : os.Started) (H : Type) (enc : TypeId × Value → H) :
    ReturnsInHanded {} Tryz.checked os 4 .any (Rows.ringOldSpec.pre6 enc Tryz.prog Tryz.f4 Rows.ringOldRow.domain false) (Rows.ringOldSpec.post enc Tryz.prog Tryz.f4 false true false false) := by
  refine returnsInHanded_of_change (C := Tryz.checked) own started (by kernel_rfl) Tryz.func4
    (ChangeSpec.witness6 (enc := enc) (C := Tryz.checked) false ⟨#[], #[.int .u8 0, .int .u8 0, .slice none 0 0], []⟩ 8 (by kernel_rfl) (by kernel_rfl) (by kernel_rfl) (by kernel_rfl)) ?_
  intro W base args ds gs before hval0 hW hcnd _
  have hval : ∀ (j : Nat) t v, Tryz.f4.params[j]? = some t → args[j]? = some v → Value.okWide Tryz.prog W .any base t v := hval0
  have hW' := hW
  obtain ⟨p, q, hA0, hV, rfl, hfz, hnd⟩ := hW
  have hA : DataW.TrodAll enc Tryz.prog W 0 (fun _ => true) true Tryz.f4.params.toList args.toList ds p := hA0
  rw [Tryz.params4] at hA hval
  obtain ⟨v0, vs0, d0, ds0, p0, q0, hargs, rfl, rfl, h0, r0⟩ := trodAll_cons hA
  obtain ⟨v1, vs1, d1, ds1, p1, q1, rfl, rfl, rfl, h1, r1⟩ := trodAll_cons r0
  obtain ⟨v2, vs2, d2, ds2, p2, q2, rfl, rfl, rfl, h2, r2⟩ := trodAll_cons r1
  obtain ⟨rfl, rfl, rfl⟩ := trodAll_nil r2
  obtain rfl : args = #[v0, v1, v2] := by cases args; simp_all
  obtain ⟨rfl, rfl⟩ := trodVars_none hV
  obtain ⟨a0, rfl, rfl, rfl, w0⟩ := open_int Tryz.underlying5 (hval 0 5 v0 rfl rfl) h0
  obtain ⟨b0, rfl⟩ := Open.u8_of_wf w0
  obtain ⟨a1, rfl, rfl, rfl, w1⟩ := open_int Tryz.underlying5 (hval 1 5 v1 rfl rfl) h1
  obtain ⟨b1, rfl⟩ := Open.u8_of_wf w1
  have k2 := h2
  have lt2 : ∀ x ∈ p2, x.block < W.heap.size := by obtain ⟨m, hm⟩ := k2; exact DataW.trod_lt m _ _ _ hm
  obtain ⟨A2, l2, c2, rfl, w2, x2, y2⟩ := Open.open_bytes Tryz.underlying46 Tryz.underlying5 (by kernel_rfl) (okWide_slice Tryz.underlying46 (hval 2 46 v2 rfl rfl)) h2
  clear hA0 hval0
  refine (Rg.old b0 b1 A2 l2 c2 W w2 x2 y2).mono fun e W' ⟨he, bel⟩ => ?_
  subst he
  exact ⟨_, rfl, _, _, _, [], _, [], hW', trodAll_mk1 (shut_bool Tryz.underlying4 _), (trodAll_cons_mk (shut_int Tryz.underlying5 w0) (trodAll_cons_mk (shut_int Tryz.underlying5 w1) (trodAll_cons_mk (Below.trod laidOut (by kernel_rfl) (of_decide_eq_true (by kernel_rfl)) k2 bel lt2) trodAll_mk0))), rfl, bel.frame _, fun h => by cases h⟩

theorem over : Rows.ringOldRow.holds Tryz.pinned (OpenSpec.ofChange Rows.ringOldSpec) :=
  OpenClaim.holds_of_wide 4 Tryz.f4 rfl rfl rfl rfl rfl rfl rfl ⟨rfl, rfl, rfl, rfl, rfl⟩ rfl rfl rfl rfl rfl (by kernel_rfl) Tryz.func4 (by kernel_rfl)
    (of_decide_eq_true (by kernel_rfl)) (by unfold Func.isWrapper; first | (rw [if_pos (by decide +kernel)]; kernel_rfl) | (rw [if_neg (by decide +kernel)]; exact ⟨rfl, rfl⟩))
    (fun os started H enc _ => lifted os started H enc)

theorem proved : Rows.RingOldSaid := over
end Go.Proofs.YtcjibpjdfhhhkaaGreat.ringOld
end
