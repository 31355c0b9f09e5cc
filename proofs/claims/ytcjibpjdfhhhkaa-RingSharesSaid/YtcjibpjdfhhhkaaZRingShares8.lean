/-
  The statement of RingShares: the walk's contract carried to the row: for every input the call answers true, and each argument reads as it did.
-/
import Derived.Deep.LoopGhost
import Derived.Deep.RegionHeld3
import Derived.ProofKit
import Derived.OpenShut
import Derived.ShutString
import Derived.ChangeOld
import Derived.Deep.Matrix
import Derived.Deep.Slices
import Derived.Test.YtcjibpjdfhhhkaaRows
import Derived.WalkKit
import Derived.Below
import Derived.SizedLaws
import Derived.Test.YtcjibpjdfhhhkaaZRingShares1
import Derived.Test.YtcjibpjdfhhhkaaZRingShares2
import Derived.Test.YtcjibpjdfhhhkaaZRingShares3
import Derived.Test.YtcjibpjdfhhhkaaZRingShares4
import Derived.Test.YtcjibpjdfhhhkaaZRingShares5
import Derived.Test.YtcjibpjdfhhhkaaZRingShares6
import Derived.Test.YtcjibpjdfhhhkaaZRingShares7
section
set_option linter.unusedVariables false
set_option linter.unusedSimpArgs false
namespace Go.Proofs.Ytcjibpjdfhhhkaa.Rg
open Go.RowKit Go.Proofs.Ytcjibpjdfhhhkaa.Mem Go.Proofs.Ytcjibpjdfhhhkaa.Se

def kB (b : UInt8) (i : Nat) : UInt8 := if i = 0 then b else 0
theorem kB_lit (b : UInt8) : key32 (kB b) = #[.int .u8 (b.toNat : Int), .int .u8 0, .int .u8 0, .int .u8 0, .int .u8 0, .int .u8 0, .int .u8 0, .int .u8 0, .int .u8 0, .int .u8 0, .int .u8 0, .int .u8 0, .int .u8 0, .int .u8 0, .int .u8 0, .int .u8 0, .int .u8 0, .int .u8 0, .int .u8 0, .int .u8 0, .int .u8 0, .int .u8 0, .int .u8 0, .int .u8 0, .int .u8 0, .int .u8 0, .int .u8 0, .int .u8 0, .int .u8 0, .int .u8 0, .int .u8 0, .int .u8 0] := by kernel_rfl
abbrev p1 : Pr := ([65], [120])
theorem its_one (x : Ent) : its [x] = [x.it] := rfl
theorem its_two (x y : Ent) : its [x, y] = [x.it, y.it] := rfl
theorem last_none (p : Pr) : lastN (its []) p = 0 := rfl
theorem last_one (i : It) (p : Pr) (h : i.p = p) : lastN [i] p = i.n := by
  have := lastN_snoc [] i p
  rw [if_pos h] at this
  exact this
abbrev AT (r : Nat) (v : Value) (q : Nat) : Prop := q = r ∨ v.ownBlock = some q
theorem at_ro {r : Nat} {v : Value} {es : List Ent} {q : Nat} (h : AT r v q) : RO r v es q := by
  rcases h with h | h
  · exact .inl h
  · exact .inr (.inl h)
theorem ring_below {a w w' : World} {B r : Nat} {v : Value} {es : List Ent} (h : Below B a w) (hB : B ≤ w.heap.size) (hr : Ring w B r v es) (hc : Chg (AT r v) w w') : Below B a w' :=
  h.trans (hc.below hB (fun i _ hx => hr.own_lo (at_ro hx)))
theorem blk_add {w w' : World} {r g : Nat} {v : Value} {es : List Ent} {t : TypeId} {cs : Array Value} (h : Blk w g t cs) (hn : ¬ RO r v es g) (hc : Chg (AT r v) w w') : Blk w' g t cs := hc.blk h (fun x => hn (at_ro x))
theorem not_add {w : World} {r g : Nat} {v v' : Value} {es es' : List Ent} (hg : g < w.heap.size) (hn : ¬ RO r v es g) (hw : ∀ q, RO r v' es' q → RO r v es q ∨ w.heap.size ≤ q) : ¬ RO r v' es' g := fun x => by
  rcases hw g x with h | h
  · exact hn h
  · omega
theorem add_first {B r : Nat} {w : World} (p : Pr) (k : Nat → UInt8) (h1 : p.1.length ≤ 1000000000) (h2 : p.2.length ≤ 1000000000) (hp : prB p = true) (h : Ring w B r (.slice none 0 0) []) (hB : B ≤ w.heap.size) :
    Calls Try.prog 9 #[.pointer (some ⟨r, 0, none⟩), prV p, .agg (key32 k)] w fun e w' => e = .returned (.tuple #[.int .i64 1, .int .i64 0]) ∧ ∃ v' b, w.heap.size ≤ b ∧ Ring w' B r v' [⟨⟨p, 1, k⟩, b, none, 0, 0, 0⟩] ∧ Chg (AT r (.slice none 0 0)) w w' ∧ (∀ q, RO r v' [⟨⟨p, 1, k⟩, b, none, 0, 0, 0⟩] q → RO r (.slice none 0 0) [] q ∨ w.heap.size ≤ q) :=
  add_ok B r (.slice none 0 0) [] p k w h hB h1 h2 hp (by decide) (by rw [last_none]; decide)
theorem add_second {B r : Nat} {w : World} {v : Value} (p : Pr) (k : Nat → UInt8) (x : Ent) (hx : x.it.p = p) (hn : x.it.n = 1) (h1 : p.1.length ≤ 1000000000) (h2 : p.2.length ≤ 1000000000) (hp : prB p = true) (h : Ring w B r v [x]) (hB : B ≤ w.heap.size) :
    Calls Try.prog 9 #[.pointer (some ⟨r, 0, none⟩), prV p, .agg (key32 k)] w fun e w' => e = .returned (.tuple #[.int .i64 2, .int .i64 0]) ∧ ∃ v' b, w.heap.size ≤ b ∧ Ring w' B r v' [x, ⟨⟨p, 2, k⟩, b, none, 0, 0, 0⟩] ∧ Chg (AT r v) w w' ∧ (∀ q, RO r v' [x, ⟨⟨p, 2, k⟩, b, none, 0, 0, 0⟩] q → RO r v [x] q ∨ w.heap.size ≤ q) := by
  have e : lastN (its [x]) p = 1 := by rw [its_one, last_one _ _ hx, hn]
  have := add_ok B r v [x] p k w h hB h1 h2 hp (by simp) (by rw [e]; decide)
  rw [e] at this
  exact this
theorem last_two (p : Pr) (x y : Ent) (hy : y.it.p = p) : lastI (its [x, y]) p = some 1 := by
  rw [its_two, lastI]
  show lastTo _ p 2 = _
  rw [lastTo, if_pos (by simp [hy])]
theorem nil_ro {r g : Nat} (h : RO r (.slice none 0 0) [] g) : g = r := by
  rcases h with h | h | ⟨i, e, he, _⟩
  · exact h
  · cases h
  · simp at he
set_option maxRecDepth 100000 in
set_option maxHeartbeats 3200000 in
theorem rknown_any (w : World) : Calls Try.prog 15 #[] w fun e w' => e = .returned (.bool true) ∧ Below w.heap.size w w' := by
  obtain ⟨B, eB⟩ : ∃ B, B = w.heap.size := ⟨_, rfl⟩
  have c1 := ring_new B w (Nat.le_of_eq eB)
  have C2 := Lib.hid (fun (w1 : World) (r : Nat) (h : Ring w1 B r (.slice none 0 0) []) (hB : B ≤ w1.heap.size) => add_first p1 (kB 1) (by decide) (by decide) (by decide) h hB)
  have C3 := Lib.hid (fun (w1 : World) (r b : Nat) (v : Value) (h : Ring w1 B r v [⟨⟨p1, 1, kB 1⟩, b, none, 0, 0, 0⟩]) (hB : B ≤ w1.heap.size) => add_second p1 (kB 2) ⟨⟨p1, 1, kB 1⟩, b, none, 0, 0, 0⟩ rfl rfl (by decide) (by decide) (by decide) h hB)
  have C4 := Lib.hid (fun (w1 : World) (r b b2 : Nat) (v : Value) (h : Ring w1 B r v [⟨⟨p1, 1, kB 1⟩, b, none, 0, 0, 0⟩, ⟨⟨p1, 2, kB 2⟩, b2, none, 0, 0, 0⟩]) => lastp_hit (p := p1) (i := 1) (x := ⟨⟨p1, 2, kB 2⟩, b2, none, 0, 0, 0⟩) h (by simp) (last_two _ _ _ rfl) rfl)
  have C5 := Lib.hid (fun (w1 : World) (r b b2 : Nat) (v : Value) (h : Ring w1 B r v [⟨⟨p1, 1, kB 1⟩, b, none, 0, 0, 0⟩, ⟨⟨p1, 2, kB 2⟩, b2, none, 0, 0, 0⟩]) => len_any B r v _ w1 h)
  simp only [kB_lit] at C2 C3
  have EB := Lib.hid eB
  have HB := Lib.hid (Below.refl B w)
  go_enter Try.func15, Try.ntmps15
  go_wp2_with (first
    | (go_at_call 8; refine Calls.mono c1 ?_; rintro e w1 ⟨r, rfl, hr, hrg, hb⟩; clear c1; rw [← eB] at hr hb; clear eB; replace HB := Lib.hid hb; have HR := Lib.hid hr; have hal := (Below.refl w1.heap.size w1).alloc (Nat.le_refl _) (.cells #[.string ⟨#[65]⟩, .string ⟨#[120]⟩] 25); have HRG := Lib.hid (hrg.below hal); have HP := Lib.hid (Blk.new w1 25 #[.string ⟨#[65]⟩, .string ⟨#[120]⟩]); have HNP := Lib.hid (show ¬ RO r (.slice none 0 0) [] w1.heap.size from fun x => by have := nil_ro x; have := hrg.lt; omega); replace HB := Lib.hid (HB.out.trans (hal.mono (Nat.le_trans (Nat.le_of_eq EB.out) HB.out.size))); have c2 := C2.out _ r HRG.out (Nat.le_trans (Nat.le_of_eq EB.out) HB.out.size); clear hb hrg hr hal)
    | (go_at_call 9; refine Calls.mono c2 ?_; rintro e w2 ⟨rfl, v2, b, hbl, hrg, hc, hnw⟩; clear c2; replace HB := Lib.hid (ring_below HB.out (Nat.le_trans (Nat.le_of_eq EB.out) HB.out.size) HRG.out hc); have HP2 := Lib.hid (blk_add HP.out HNP.out hc); have HNP2 := Lib.hid (not_add HP.out.lt HNP.out hnw); have HRG2 := Lib.hid hrg; have k0 : w2.cell? ⟨w1.heap.size, 0, none⟩ = some (.string ⟨#[65]⟩) := HP2.out.cell 0; have k1 : w2.cell? ⟨w1.heap.size, 1, none⟩ = some (.string ⟨#[120]⟩) := HP2.out.cell 1; have c3 := C3.out _ r b v2 HRG2.out (Nat.le_trans (Nat.le_of_eq EB.out) HB.out.size); clear hbl hrg hc hnw)
    | (go_at_call 9; refine Calls.mono c3 ?_; rintro e w3 ⟨rfl, v3, b3, hbl, hrg, hc, hnw⟩; clear c3 k0 k1; replace HB := Lib.hid (ring_below HB.out (Nat.le_trans (Nat.le_of_eq EB.out) HB.out.size) HRG2.out hc); have HP3 := Lib.hid (blk_add HP2.out HNP2.out hc); have HRG3 := Lib.hid hrg; have k0 : w3.cell? ⟨w1.heap.size, 0, none⟩ = some (.string ⟨#[65]⟩) := HP3.out.cell 0; have k1 : w3.cell? ⟨w1.heap.size, 1, none⟩ = some (.string ⟨#[120]⟩) := HP3.out.cell 1; have c4 := C4.out _ r b b3 v3 HRG3.out; clear hbl hrg hc hnw)
    | (go_at_call 12; refine Calls.mono c4 ?_; rintro e w4 ⟨rfl, hb⟩; clear c4; replace HB := Lib.hid (HB.out.trans (hb.mono (Nat.le_trans (Nat.le_of_eq EB.out) HB.out.size))); have HRG4 := Lib.hid (HRG3.out.below hb); have c5 := C5.out _ r b b3 v3 HRG4.out; clear hb)
    | (go_at_call 17; refine Calls.mono c5 ?_; rintro e w5 ⟨rfl, hw⟩; have hw := hw.symm; subst hw; clear c5)
    | fail)
  go_ret
  exact ⟨rfl, by rw [← EB.out]; exact HB.out⟩
end Go.Proofs.Ytcjibpjdfhhhkaa.Rg
end

section
set_option linter.unusedVariables false
set_option linter.unusedSimpArgs false
namespace Go.Proofs.Ytcjibpjdfhhhkaa.Rg
open Go.RowKit Go.Proofs.Ytcjibpjdfhhhkaa.Mem Go.Proofs.Ytcjibpjdfhhhkaa.Se

theorem rda_nil {w : World} {S : Nat → Prop} : RdA S w none (bvs []) := .inl rfl
theorem below_ch {S : Nat → Prop} {a w c : World} {B : Nat} (h : Below B a w) (hB : B ≤ w.heap.size) (k : Chg S w c) (hs : ∀ i, i < w.heap.size → S i → B ≤ i) : Below B a c := h.trans (k.below hB hs)
abbrev sh1 (b : Nat) (h : Option Nat) (a q : Nat) : Ent := ⟨⟨p1, 1, kB 1⟩, b, h, a, 0, q⟩
theorem shared_use {w0 w w' : World} {B r b P : Nat} {v : Value} {h h' : Option Nat} {a q a' q' : Nat} {t : TypeId} {cs : Array Value} (hb : Below B w0 w) (hB : B ≤ w.heap.size) (hr : Ring w B r v [sh1 b h a q]) (hp : Blk w P t cs) (hn : ¬ RO r v [sh1 b h a q] P) (hx : Box w' b (kB 1) h' a' 0 q') (hs : StepO w w' b h h') :
    Below B w0 w' ∧ Ring w' B r v [sh1 b h' a' q'] ∧ Blk w' P t cs ∧ ¬ RO r v [sh1 b h' a' q'] P := by
  have he : [sh1 b h a q][0]? = some (sh1 b h a q) := rfl
  refine ⟨below_ch hb hB hs.1 (fun k _ hk => hr.own_lo (.inr (.inr ⟨0, _, he, hk⟩))), hr.use he hx hs hB, hs.1.blk hp (fun x => hn (.inr (.inr ⟨0, _, he, x⟩))), fun x => ?_⟩
  rcases hr.use_new he a' 0 q' hs P x with y | y
  · exact hn y
  · have := hp.lt; omega
theorem first_sh (b : Nat) (h : Option Nat) (a q : Nat) : firstI (its [sh1 b h a q]) p1 1 = some 0 := by
  refine first_at (x := ⟨p1, 1, kB 1⟩) rfl rfl rfl fun j y hj => absurd hj (Nat.not_lt_zero _)
theorem lastI_sh (b : Nat) (h : Option Nat) (a q : Nat) : lastI (its [sh1 b h a q]) p1 = some 0 := by
  show lastTo _ p1 1 = _
  rw [lastTo, if_pos (by simp [its])]
set_option maxRecDepth 100000 in
set_option maxHeartbeats 3200000 in
theorem shares_yes (n m : Nat) (hn : n ≤ 40) (hm : m ≤ 40) (w : World) :
    Calls Try.prog 3 #[.int .i64 (n : Int), .int .i64 (m : Int)] w fun e w' => e = .returned (.bool true) ∧ Below w.heap.size w w' := by
  obtain ⟨B, eB⟩ : ∃ B, B = w.heap.size := ⟨_, rfl⟩
  have c1 := ring_new B w (Nat.le_of_eq eB)
  have C2 := Lib.hid (fun (w1 : World) (r : Nat) (h : Ring w1 B r (.slice none 0 0) []) (hB : B ≤ w1.heap.size) => add_first p1 (kB 1) (by decide) (by decide) (by decide) h hB)
  have CB := Lib.hid (fun (w1 : World) (r b : Nat) (v : Value) (h : Option Nat) (a q : Nat) (hr : Ring w1 B r v [sh1 b h a q]) => box_hit hr (by simp) (first_sh b h a q) rfl)
  have CL := Lib.hid (fun (w1 : World) (r b : Nat) (v : Value) (h : Option Nat) (a q : Nat) (hr : Ring w1 B r v [sh1 b h a q]) => lastp_hit hr (by simp) (lastI_sh b h a q) rfl)
  have CS := Lib.hid (fun (i : Nat) (w1 : World) (b : Nat) (h : Option Nat) (a q : Nat) (hi : i ≤ 40) (ha : a ≤ 1000) (hx : Box w1 b (kB 1) h a 0 q) => seal_ok b (kB 1) h a 0 q 1 i none 0 0 [] w1 (by omega) (by decide) (by omega) rfl (by decide) rda_nil hx)
  have CO := Lib.hid (fun (w1 : World) (b : Nat) (h : Option Nat) (a q : Nat) (hq : q ≤ 1000) (hx : Box w1 b (kB 1) h a 0 q) => open_ref b (kB 1) h a 0 q 1 none 0 0 [] w1 (by omega) (by decide) rfl (Nat.le_refl _) (Nat.zero_le _) rda_nil hx (isL_short (.inl (by decide))))
  have CC := Lib.hid (fun (w1 : World) (b : Nat) (h : Option Nat) (a q : Nat) (ha : a ≤ 1000) (hq : q ≤ 1000) (hx : Box w1 b (kB 1) h a 0 q) => counts_any b (kB 1) h a 0 q w1 (by omega) (by omega) (by omega) hx)
  have CK := Lib.hid (fun w1 => rknown_any w1)
  simp only [kB_lit] at C2
  have EB := Lib.hid eB
  have HB := Lib.hid (Below.refl B w)
  have t1 : decide ((n : Int) < 0) = false := by simp
  have t2 : decide (40 < (n : Int)) = false := by simp; omega
  have t3 : decide ((m : Int) < 0) = false := by simp
  have t4 : decide (40 < (m : Int)) = false := by simp; omega
  have HN := Lib.hid hn; have HM := Lib.hid hm
  clear hn hm
  go_enter Try.func3, Try.ntmps3
  go_wp2_with (first
    | (go_at_call 8; refine Calls.mono c1 ?_; rintro e w1 ⟨r, rfl, hr, hrg, hb⟩; clear c1; rw [← eB] at hr hb; clear eB; replace HB := Lib.hid hb; have hal := (Below.refl w1.heap.size w1).alloc (Nat.le_refl _) (.cells #[.string ⟨#[65]⟩, .string ⟨#[120]⟩] 25); have HRG := Lib.hid (hrg.below hal); have HP := Lib.hid (Blk.new w1 25 #[.string ⟨#[65]⟩, .string ⟨#[120]⟩]); have HNP := Lib.hid (show ¬ RO r (.slice none 0 0) [] w1.heap.size from fun x => by have := nil_ro x; have := hrg.lt; omega); replace HB := Lib.hid (HB.out.trans (hal.mono (Nat.le_trans (Nat.le_of_eq EB.out) HB.out.size))); have c2 := C2.out _ r HRG.out (Nat.le_trans (Nat.le_of_eq EB.out) HB.out.size); clear hb hrg hr hal)
    | (go_at_call 9; refine Calls.mono c2 ?_; rintro e w2 ⟨rfl, v2, b, hbl, hrg, hc, hnw⟩; clear c2; replace HB := Lib.hid (ring_below HB.out (Nat.le_trans (Nat.le_of_eq EB.out) HB.out.size) HRG.out hc); have HNP2 := Lib.hid (not_add HP.out.lt HNP.out hnw); replace HP := Lib.hid (blk_add HP.out HNP.out hc); clear HRG HNP; have HRG := Lib.hid hrg; clear hbl hrg hc hnw)
    | fail)
  obtain ⟨P, eP⟩ : ∃ P, P = w1.heap.size := ⟨_, rfl⟩
  rw [← eP] at HP HNP2 ⊢
  clear eP
  go_loopw [7] (fun iv wr => ∃ (i : Nat) (h : Option Nat), i ≤ n ∧ iv = .int .i64 (i : Int) ∧ Below B w wr ∧ Ring wr B r v2 [sh1 b h i 0] ∧ Blk wr P 25 #[.string ⟨#[65]⟩, .string ⟨#[120]⟩] ∧ ¬ RO r v2 [sh1 b h i 0] P) (fun iv _ => n - (intOf iv).toNat)
  case atStart => exact ⟨0, none, Nat.zero_le _, rfl, HB.out, HRG.out, HP.out, HNP2.out⟩
  case round =>
    clear HB HRG HP HNP2
    obtain ⟨i, h, hi, rfl, hb0, hr0, hp0, hn0⟩ := hrel
    have HB := Lib.hid hb0; have HRG := Lib.hid hr0; have HP := Lib.hid hp0; have HNP := Lib.hid hn0
    clear hb0 hr0 hp0 hn0
    by_cases hlt : i < n
    · have e1 : (i : Int) < (n : Int) := by omega
      have e9 : (i : Int) ≤ 40 := by have := HN.out; omega
      have cb := CB.out _ r b v2 h i 0 HRG.out
      have k0 : wr.cell? ⟨P, 0, none⟩ = some (.string ⟨#[65]⟩) := HP.out.cell 0
      have k1 : wr.cell? ⟨P, 1, none⟩ = some (.string ⟨#[120]⟩) := HP.out.cell 1
      have HI := Lib.hid hi; clear hi
      go_wp2_with (first
        | (go_at_call 10; refine Calls.mono cb ?_; rintro e w3 ⟨rfl, hb⟩; clear cb k0 k1; replace HB := Lib.hid (HB.out.trans (hb.mono (Nat.le_trans (Nat.le_of_eq EB.out) HB.out.size))); replace HP := Lib.hid (HP.out.below hb); replace HRG := Lib.hid (HRG.out.below hb); clear hb; have cs := CS.out i _ b h i 0 (by have := HI.out; have := HN.out; omega) (by have := HI.out; have := HN.out; omega) (HRG.out.box 0 _ rfl))
        | (go_at_call 11; refine Calls.mono cs ?_; rintro e w4 ⟨g4, A4, c4, rfl, h1, h2, h3, h4, h5⟩; clear cs; have hu := shared_use HB.out (Nat.le_trans (Nat.le_of_eq EB.out) HB.out.size) HRG.out HP.out HNP.out h4 h5.o; have HU := Lib.hid hu; clear h1 h2 h3 h4 h5 hu)
        | fail)
      go_roundw
      case rel => exact ⟨i + 1, some g4, by omega, by go_num, HU.out.1, HU.out.2.1, HU.out.2.2.1, HU.out.2.2.2⟩
      case measure => simp [intOf]; omega
    · have e1 : ¬ (i : Int) < (n : Int) := by omega
      obtain rfl : n = i := by omega
      clear hi hlt
      go_wp2
      go_loopw [10] (fun iv wr => ∃ (i : Nat) (h : Option Nat), i ≤ m ∧ iv = .int .i64 (i : Int) ∧ Below B w wr ∧ Ring wr B r v2 [sh1 b h n i] ∧ Blk wr P 25 #[.string ⟨#[65]⟩, .string ⟨#[120]⟩] ∧ ¬ RO r v2 [sh1 b h n i] P) (fun iv _ => m - (intOf iv).toNat)
      case atStart => exact ⟨0, h, Nat.zero_le _, rfl, HB.out, HRG.out, HP.out, HNP.out⟩
      case round =>
        clear HB HRG HP HNP e1
        obtain ⟨i, h, hi, rfl, hb0, hr0, hp0, hn0⟩ := hrel
        have HB := Lib.hid hb0; have HRG := Lib.hid hr0; have HP := Lib.hid hp0; have HNP := Lib.hid hn0
        clear hb0 hr0 hp0 hn0
        by_cases hlt : i < m
        · have e1 : (i : Int) < (m : Int) := by omega
          have e9 : (i : Int) ≤ 40 := by have := HM.out; omega
          have cb := CL.out _ r b v2 h n i HRG.out
          have k0 : wr.cell? ⟨P, 0, none⟩ = some (.string ⟨#[65]⟩) := HP.out.cell 0
          have k1 : wr.cell? ⟨P, 1, none⟩ = some (.string ⟨#[120]⟩) := HP.out.cell 1
          have HI := Lib.hid hi; clear hi
          go_wp2_with (first
            | (go_at_call 12; refine Calls.mono cb ?_; rintro e w3 ⟨rfl, hb⟩; clear cb k0 k1; replace HB := Lib.hid (HB.out.trans (hb.mono (Nat.le_trans (Nat.le_of_eq EB.out) HB.out.size))); replace HP := Lib.hid (HP.out.below hb); replace HRG := Lib.hid (HRG.out.below hb); clear hb; have cs := CO.out _ b h n i (by have := HI.out; have := HM.out; omega) (HRG.out.box 0 _ rfl))
            | (go_at_call 13; refine Calls.mono cs ?_; rintro e w4 ⟨rfl, g4, h4, h5'⟩; clear cs; have h5 := h5'; have hu := shared_use HB.out (Nat.le_trans (Nat.le_of_eq EB.out) HB.out.size) HRG.out HP.out HNP.out h4 h5; have HU := Lib.hid hu; clear h4 h5 h5' hu)
            | fail)
          go_roundw
          case rel => exact ⟨i + 1, g4, by omega, by go_num, HU.out.1, HU.out.2.1, HU.out.2.2.1, HU.out.2.2.2⟩
          case measure => simp [intOf]; omega
        · have e1 : ¬ (i : Int) < (m : Int) := by omega
          obtain rfl : m = i := by omega
          have cb := CB.out _ r b v2 h n m HRG.out
          have k0 : wr.cell? ⟨P, 0, none⟩ = some (.string ⟨#[65]⟩) := HP.out.cell 0
          have k1 : wr.cell? ⟨P, 1, none⟩ = some (.string ⟨#[120]⟩) := HP.out.cell 1
          clear hi hlt
          go_wp2_with (first
            | (go_at_call 10; refine Calls.mono cb ?_; rintro e w3 ⟨rfl, hb⟩; clear cb k0 k1; replace HB := Lib.hid (HB.out.trans (hb.mono (Nat.le_trans (Nat.le_of_eq EB.out) HB.out.size))); replace HP := Lib.hid (HP.out.below hb); replace HRG := Lib.hid (HRG.out.below hb); clear hb; have cc := CC.out _ b h n m (by have := HN.out; omega) (by have := HM.out; omega) (HRG.out.box 0 _ rfl))
            | (go_at_call 14; refine Calls.mono cc ?_; rintro e w6 ⟨rfl, hw⟩; have hw := hw.symm; subst hw; clear cc)
            | (go_at_call 15; refine Calls.mono (CK.out _) ?_; rintro e w8 ⟨rfl, hb⟩; clear CK; replace HB := Lib.hid (HB.out.trans (hb.mono (Nat.le_trans (Nat.le_of_eq EB.out) HB.out.size))); clear hb)
            | fail)
          go_ret
          exact ⟨rfl, by rw [← EB.out]; exact HB.out⟩
set_option maxRecDepth 100000 in
theorem shares (n m : Int) (w : World) : Calls Try.prog 3 #[.int .i64 n, .int .i64 m] w fun e w' => e = .returned (.bool true) ∧ Below w.heap.size w w' := by
  by_cases hx : 0 ≤ n ∧ n ≤ 40 ∧ 0 ≤ m ∧ m ≤ 40
  · obtain ⟨a, rfl⟩ : ∃ k : Nat, n = (k : Int) := ⟨n.toNat, by omega⟩
    obtain ⟨b, rfl⟩ : ∃ k : Nat, m = (k : Int) := ⟨m.toNat, by omega⟩
    exact shares_yes a b (by omega) (by omega) w
  · have HB := Lib.hid (Below.refl w.heap.size w)
    by_cases h1 : n < 0
    · have t1 : decide (n < 0) = true := by simpa using h1
      clear hx
      go_enter Try.func3, Try.ntmps3
      go_wp2
      go_ret
      exact ⟨rfl, HB.out⟩
    · have t1 : decide (n < 0) = false := by simpa using h1
      by_cases h2 : 40 < n
      · have t2 : decide (40 < n) = true := by simpa using h2
        clear hx h1
        go_enter Try.func3, Try.ntmps3
        go_wp2
        go_ret
        exact ⟨rfl, HB.out⟩
      · have t2 : decide (40 < n) = false := by simpa using h2
        by_cases h3 : m < 0
        · have t3 : decide (m < 0) = true := by simpa using h3
          clear hx h1 h2
          go_enter Try.func3, Try.ntmps3
          go_wp2
          go_ret
          exact ⟨rfl, HB.out⟩
        · have t3 : decide (m < 0) = false := by simpa using h3
          have t4 : decide (40 < m) = true := by simp; omega
          clear hx h1 h2 h3
          go_enter Try.func3, Try.ntmps3
          go_wp2
          go_ret
          exact ⟨rfl, HB.out⟩
end Go.Proofs.Ytcjibpjdfhhhkaa.Rg
end

section
namespace Go.Proofs.Ytcjibpjdfhhhkaa.ringShares
open Go.ChangeShapes Go.WideShapes Go.ChangeAt Go.RowKit Go.Proofs.Ytcjibpjdfhhhkaa
open Go.ChangeMaps (open_string shut_string)

theorem own : ownKnob Try.prog.godebug = none := by kernel_rfl
theorem laidOut : laidOutB Try.prog = true := by kernel_rfl

set_option maxRecDepth 100000 in
theorem lifted (os : Os) (started : os.Started) (H : Type) (enc : TypeId × Value → H) :
    ReturnsInHanded {} Try.checked os 3 .any (Rows.ringSharesSpec.pre6 enc Try.prog Try.f3 Rows.ringSharesRow.domain false) (Rows.ringSharesSpec.post enc Try.prog Try.f3 false true false false) := by
  refine returnsInHanded_of_change (C := Try.checked) own started (by kernel_rfl) Try.func3
    (ChangeSpec.witness6 (enc := enc) (C := Try.checked) false ⟨#[], #[.int .i64 0, .int .i64 0], []⟩ 8 (by kernel_rfl) (by kernel_rfl) (by kernel_rfl) (by kernel_rfl)) ?_
  intro W base args ds gs before hval0 hW hcnd _
  have hval : ∀ (j : Nat) t v, Try.f3.params[j]? = some t → args[j]? = some v → Value.okWide Try.prog W .any base t v := hval0
  have hW' := hW
  obtain ⟨p, q, hA0, hV, rfl, hfz, hnd⟩ := hW
  have hA : DataW.TrodAll enc Try.prog W 0 (fun _ => true) true Try.f3.params.toList args.toList ds p := hA0
  rw [Try.params3] at hA hval
  obtain ⟨v0, vs0, d0, ds0, p0, q0, hargs, rfl, rfl, h0, r0⟩ := trodAll_cons hA
  obtain ⟨v1, vs1, d1, ds1, p1, q1, rfl, rfl, rfl, h1, r1⟩ := trodAll_cons r0
  obtain ⟨rfl, rfl, rfl⟩ := trodAll_nil r1
  obtain rfl : args = #[v0, v1] := by cases args; simp_all
  obtain ⟨rfl, rfl⟩ := trodVars_none hV
  obtain ⟨a0, rfl, rfl, rfl, w0⟩ := open_int Try.underlying3 (hval 0 3 v0 rfl rfl) h0
  obtain ⟨a1, rfl, rfl, rfl, w1⟩ := open_int Try.underlying3 (hval 1 3 v1 rfl rfl) h1
  clear hA0 hval0
  refine (Rg.shares a0 a1 W).mono fun e W' ⟨he, bel⟩ => ?_
  subst he
  exact ⟨_, rfl, _, _, _, [], _, [], hW', trodAll_mk1 (shut_bool Try.underlying4 _), (trodAll_cons_mk (shut_int Try.underlying3 w0) (trodAll_cons_mk (shut_int Try.underlying3 w1) trodAll_mk0)), rfl, bel.frame _, fun h => by cases h⟩

theorem over : Rows.ringSharesRow.holds Try.pinned (OpenSpec.ofChange Rows.ringSharesSpec) :=
  OpenClaim.holds_of_wide 3 Try.f3 rfl rfl rfl rfl rfl rfl rfl ⟨rfl, rfl, rfl, rfl, rfl⟩ rfl rfl rfl rfl rfl (by kernel_rfl) Try.func3 (by kernel_rfl)
    (of_decide_eq_true (by kernel_rfl)) (by unfold Func.isWrapper; first | (rw [if_pos (by decide +kernel)]; kernel_rfl) | (rw [if_neg (by decide +kernel)]; exact ⟨rfl, rfl⟩))
    (fun os started H enc _ => lifted os started H enc)

theorem proved : Rows.RingSharesSaid := over
end Go.Proofs.Ytcjibpjdfhhhkaa.ringShares
end
