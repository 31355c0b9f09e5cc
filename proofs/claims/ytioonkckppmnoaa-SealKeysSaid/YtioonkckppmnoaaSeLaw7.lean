/-
  By another key nothing opens, but where the document's tags are one; by the same it does.
-/
import Derived.Test.YtioonkckppmnoaaSeEql
import Derived.Test.YtioonkckppmnoaaSeLaw2
import Derived.Test.YtioonkckppmnoaaSeLaw6
set_option linter.unusedVariables false
namespace Go.Proofs.Ytioonkckppmnoaa.SeL
open Go.RowKit Go.Proofs.Ytioonkckppmnoaa.Mem Go.Proofs.Ytioonkckppmnoaa.Se

theorem eql_dec (f g : Nat → UInt8) : ∃ d : Bool, (d = true → lits f = lits g) ∧ ∀ w, (Op.equalIn 10000 26 (.agg (key32 f)) (.agg (key32 g))).run Try.prog w = .ok d w := by
  by_cases h : lits f = lits g
  · refine ⟨true, fun _ => h, fun w => ?_⟩
    obtain ⟨r, h1, h2⟩ := eql_keys f g w
    rw [h1, h2.2 h]
  · refine ⟨false, (by intro e; cases e), fun w => ?_⟩
    obtain ⟨r, h1, h2⟩ := eql_keys f g w
    have : r = false := by
      cases r with
      | false => rfl
      | true => exact absurd (h2.1 rfl) h
    rw [h1, this]
theorem open_same {f g : Nat → UInt8} (h : lits f = lits g) (p : List UInt8) (hp : p.length ≤ 784) : openR g 3 (sealL f 3 1 p) = (p, 0) := by
  rw [seal_congr (lits_eq h)]
  have hi := isL_seal g 3 1 p (by decide) hp
  have e : openR g ((3 : Nat) : Int) (sealL g 3 1 p) = (mixL g 3 (n8 (sealL g 3 1 p)) (midL (sealL g 3 1 p)), 0) := by
    rw [openR, if_pos (by omega)]
    show (if isL g 3 (sealL g 3 1 p) = true then _ else _) = _
    rw [if_pos hi]; rfl
  have e2 := mix_seal g 3 1 p (by decide)
  rw [e2] at e
  exact e
set_option maxRecDepth 100000 in
set_option maxHeartbeats 3200000 in
theorem keys_yes (A : Option Addr) (l : List UInt8) (c : Nat) (A2 : Option Addr) (l2 : List UInt8) (c2 : Nat) (A3 : Option Addr) (p : List UInt8) (c3 : Nat) (w : World) (hr : Rd w w.heap.size A (bvs l)) (hr2 : Rd w w.heap.size A2 (bvs l2)) (hr3 : Rd w w.heap.size A3 (bvs p)) (hp : p.length ≤ 300) :
    Calls Try.prog 10 #[.slice A l.length c, .slice A2 l2.length c2, .slice A3 p.length c3] w fun e w' => e = .returned (.bool true) ∧ Below w.heap.size w w' := by
  obtain ⟨ks, ek⟩ : ∃ ks, ks = ksOf l := ⟨_, rfl⟩
  obtain ⟨kt, ekt⟩ : ∃ kt, kt = ksOf l2 := ⟨_, rfl⟩
  obtain ⟨B, eB⟩ : ∃ B, B = w.heap.size := ⟨_, rfl⟩
  have ck : ∀ w1, Below B w w1 → Calls Try.prog 13 #[.slice A l.length c] w1 fun e w' => e = .returned (.agg (key32 ks)) ∧ Below w1.heap.size w1 w' := fun w1 h => by rw [ek]; exact key_any A l.length c l w1 rfl ((eB ▸ hr.below (eB ▸ h)).more (eB ▸ h.size))
  have ct : ∀ w1, Below B w w1 → Calls Try.prog 13 #[.slice A2 l2.length c2] w1 fun e w' => e = .returned (.agg (key32 kt)) ∧ Below w1.heap.size w1 w' := fun w1 h => by rw [ekt]; exact key_any A2 l2.length c2 l2 w1 rfl ((eB ▸ hr2.below (eB ▸ h)).more (eB ▸ h.size))
  have cnew := fun w1 => new_any ks w1
  have cnewt := fun w1 => new_any kt w1
  have hrp : ∀ w1 (b : Nat), B ≤ b → Below B w w1 → RdA (Ow b none) w1 A3 (bvs p) := fun w1 b hb h => RdA.of_rd (B := B) (eB ▸ hr3.below (eB ▸ h)) (eB ▸ h.size) (fun i hx => by rw [Ow_none hx]; exact hb)
  obtain ⟨m, em⟩ : ∃ m, m = p.length := ⟨_, rfl⟩
  obtain ⟨Z, eZ⟩ : ∃ Z, Z = sealL ks 3 1 p := ⟨_, rfl⟩
  have hZl : m + 16 = Z.length := by rw [eZ, sealL_length, em]
  have cseal := fun (w1 : World) (b : Nat) (h1 : RdA (Ow b none) w1 A3 (bvs p)) (h2 : Box w1 b ks none 0 0 0) => seal_ok b ks none 0 0 0 3 1 A3 m c3 p w1 (by decide) (by decide) (by decide) em (by omega) h1 h2
  rw [← eZ] at cseal
  have co := fun (w1 : World) (y : Nat) (A : Option Addr) (c : Nat) (hc : m + 16 ≤ c) (hm : c ≤ maxLen) (h1 : RdA (Ow y none) w1 A (bvs Z)) (h2 : Box w1 y kt none 0 0 0) => open_res y kt none 0 0 0 3 A (m + 16) c Z w1 (by decide) (by decide) hZl hc hm h1 h2
  have cdo := fun (w1 : World) (A : Option Addr) (c : Nat) (hc : m + 16 ≤ c) (h1 : Rd w1 w1.heap.size A (bvs Z)) => dopen_res kt 3 A (m + 16) c Z w1 hZl hc h1
  obtain ⟨d, hdl, heq⟩ := eql_dec ks kt
  have hoe : d = true → (openR kt 3 Z).2 = 0 := fun h => by
    rw [eZ, open_same (hdl h) p (by omega)]
  obtain ⟨kv, ekv⟩ : ∃ kv, kv = key32 ks := ⟨_, rfl⟩
  obtain ⟨kq, ekq⟩ : ∃ kq, kq = key32 kt := ⟨_, rfl⟩
  rw [← ekv] at ck cnew
  rw [← ekq] at ct cnewt cdo
  rw [← ekv, ← ekq] at heq
  obtain ⟨O, eO⟩ : ∃ O, O = (openR kt 3 Z).1 := ⟨_, rfl⟩
  obtain ⟨oe, eoe⟩ : ∃ oe, oe = (openR kt 3 Z).2 := ⟨_, rfl⟩
  rw [← eO, ← eoe] at co cdo
  rw [← eoe] at hoe
  have hcvO := fun (w1 : World) (B : Nat) (A : Option Addr) (c : Nat) (h : Rd w1 B A (bvs O)) => run_bytes_str (P := Try.prog) w1 22 5 Try.underlying22 Try.underlying5 h O.length c rfl 9 Try.underlying9
  obtain ⟨ov, eov⟩ : ∃ ov : ByteArray, ov = ⟨O.toArray⟩ := ⟨_, rfl⟩
  rw [← eov] at hcvO
  obtain ⟨ol, eol⟩ : ∃ ol, ol = O.length := ⟨_, rfl⟩
  rw [← eol] at co cdo hcvO
  have hgt : Try.prog.eqGuardType Try.prog.depth 26 = false := by kernel_rfl
  have t1 : decide (300 < (m : Int)) = false := by simp; omega
  have q3 : (m : Int) ≤ 300 := by omega
  rw [← em]
  have EB := Lib.hid eB
  have HB := Lib.hid (Below.refl B w)
  have CK := Lib.hid ck; clear ck
  have CT := Lib.hid ct; clear ct
  have CN := Lib.hid cnew; clear cnew
  have CNT := Lib.hid cnewt; clear cnewt
  have CS := Lib.hid cseal; clear cseal
  have CO := Lib.hid co; clear co
  have CDO := Lib.hid cdo; clear cdo
  have CVO := Lib.hid hcvO; clear hcvO
  have HRP := Lib.hid hrp; clear hrp
  have c1 := CK.out w HB.out
  have hd : (d = true ∧ oe = 0) ∨ d = false := by
    cases d with
    | true => exact .inl ⟨rfl, hoe rfl⟩
    | false => exact .inr rfl
  clear hr hr2 hr3 hp ek ekt ekv ekq em eZ hZl hdl eO eoe eov eol hoe eB
  rcases hd with ⟨rfl, rfl⟩ | rfl <;> (
    go_enter Try.func10, Try.ntmps10
    go_wp2_with (first
      | (go_at_call 13; refine Calls.mono c1 ?_; rintro e w1 ⟨rfl, hb1⟩; clear c1; have k2 := CN.out w1; have H1 := Lib.hid ((EB.out ▸ hb1 : Below B w w1)); clear hb1)
      | (go_at_call 12; refine Calls.mono k2 ?_; rintro e w2 ⟨x, rfl, hx, hxx, hb2⟩; clear k2; have hb2 := H1.out.trans (hb2.mono (EB.out ▸ H1.out.size)); have k3 := CT.out w2 hb2; have HX := Lib.hid (Nat.le_trans (EB.out ▸ H1.out.size) hx); have HXX := Lib.hid hxx; have H2 := Lib.hid hb2; clear hx hxx hb2)
      | (go_at_call 13; refine Calls.mono k3 ?_; rintro e w3 ⟨rfl, hb3⟩; clear k3; have k4 := CNT.out w3; have hxx := HXX.out.below hb3; have hb3 := H2.out.trans (hb3.mono (EB.out ▸ H2.out.size)); have H3 := Lib.hid hb3; have HX3 := Lib.hid hxx; clear hb3 hxx)
      | (go_at_call 12; refine Calls.mono k4 ?_; rintro e w4 ⟨y, rfl, hy, hyy, hb4⟩; clear k4; have hxx := HX3.out.below hb4; have hb4 := H3.out.trans (hb4.mono (EB.out ▸ H3.out.size)); have k5 := CS.out w4 x (HRP.out w4 x (EB.out ▸ HX.out) hb4) hxx; have HXY := Lib.hid (Nat.lt_of_lt_of_le HX3.out.lt hy); have HYY := Lib.hid hyy; have H4 := Lib.hid hb4; have HXL := Lib.hid hxx.lt; clear hy hyy hxx hb4)
      | (go_at_call 14; refine Calls.mono k5 ?_; rintro e w5 ⟨gx, As, cs, rfl, h1, h2, h3, h4, h5⟩; clear k5; obtain ⟨hy5, hr5, hyl, hgx⟩ := two_seal HXY.out HYY.out h3 h5; have k6 := CO.out w5 y As cs h1 h2 hr5 hy5; have hb5 := below_chg H4.out (by have := H4.out.size; have := EB.out; omega) h5.1 (fun i _ hi => by have := Ow_none hi; have := HX.out; have := EB.out; omega); have H5 := Lib.hid hb5; have HR5 := Lib.hid hr5; have HC1 := Lib.hid h1; clear h1 h2 h3 h4 h5 hy5 hr5 hyl hgx hb5)
      | (go_at_call 16; refine Calls.mono k6 ?_; rintro e w6 ⟨Ao, oc, h2, o1, r1, rfl, g1, g2, g3, g4, g5, g6, g7⟩; clear k6; have hb6 := below_chg H5.out (by have := H5.out.size; have := EB.out; omega) g5.1 (fun i _ hi => by have := Ow_none hi; have := HX.out; have := EB.out; have := HXY.out; omega); have ra6 := HR5.out.keep (S' := fun _ => False) g5.1 (fun _ _ x => x) (fun _ _ x => x.elim); have ro6 := g3.mono (S' := fun _ => False) (fun _ _ x => x.elim); have k7 := CT.out w6 hb6; have H6 := Lib.hid hb6; have RA6 := Lib.hid ra6; have RO6 := Lib.hid ro6; clear g1 g2 g3 g4 g5 g6 g7 hb6 ra6 ro6)
      | (go_at_call 13; refine Calls.mono k7 ?_; rintro e w7 ⟨rfl, hb7⟩; clear k7; have ra7 := RA6.out.go (Chg.of_below hb7); have ro7 := RO6.out.go (Chg.of_below hb7); have hb7 := H6.out.trans (hb7.mono (by have := H6.out.size; have := EB.out; omega)); have k8 := CDO.out w7 As cs HC1.out ra7.rd; have H7 := Lib.hid hb7; have RO7 := Lib.hid ro7; clear hb7 ra7 ro7)
      | (go_at_call 17; refine Calls.mono k8 ?_; rintro e w8 ⟨Aq, qc, rfl, g1, hb8⟩; clear k8; have v3 := CVO.out w8 _ Ao oc (RO7.out.go (Chg.of_below hb8)).rd; have v4 := CVO.out w8 _ Aq qc g1; have hb8 := H7.out.trans (hb8.mono (by have := H7.out.size; have := EB.out; omega)); have k9 := CK.out w8 hb8; have H8 := Lib.hid hb8; clear g1 hb8)
      | (go_at_call 13; refine Calls.mono k9 ?_; rintro e w9 ⟨rfl, hb9⟩; clear k9; have hb9 := H8.out.trans (hb9.mono (by have := H8.out.size; have := EB.out; omega)); have k10 := CT.out w9 hb9; have H9 := Lib.hid hb9; clear hb9 v3 v4)
      | (go_at_call 13; refine Calls.mono k10 ?_; rintro e w10 ⟨rfl, hb10⟩; clear k10; have hb10 := H9.out.trans (hb10.mono (by have := H9.out.size; have := EB.out; omega)); have k11 := known_any w10; have H10 := Lib.hid hb10; clear hb10)
      | (go_at_call 18; refine Calls.mono k11 ?_; rintro e w11 ⟨rfl, hb11⟩; clear k11; have H11 := Lib.hid hb11; clear hb11))
    go_ret
    refine ⟨rfl, ?_⟩
    rw [← EB.out]
    exact H10.out.trans (H11.out.mono (by have := H10.out.size; have := EB.out; omega)))
theorem keys (A : Option Addr) (l : List UInt8) (c : Nat) (A2 : Option Addr) (l2 : List UInt8) (c2 : Nat) (A3 : Option Addr) (p : List UInt8) (c3 : Nat) (w : World) (hr : Rd w w.heap.size A (bvs l)) (hc : l.length ≤ c) (hm : c ≤ maxLen) (hr2 : Rd w w.heap.size A2 (bvs l2)) (hc2 : l2.length ≤ c2) (hm2 : c2 ≤ maxLen) (hr3 : Rd w w.heap.size A3 (bvs p)) (hc3 : p.length ≤ c3) (hm3 : c3 ≤ maxLen) :
    Calls Try.prog 10 #[.slice A l.length c, .slice A2 l2.length c2, .slice A3 p.length c3] w fun e w' => e = .returned (.bool true) ∧ Below w.heap.size w w' := by
  by_cases hx : p.length ≤ 300
  · exact keys_yes A l c A2 l2 c2 A3 p c3 w hr hr2 hr3 hx
  · have HB := Lib.hid (Below.refl w.heap.size w)
    obtain ⟨m, em⟩ : ∃ m, m = p.length := ⟨_, rfl⟩
    rw [← em] at hx ⊢
    have t1 : decide (300 < (m : Int)) = true := by simp; omega
    clear hx em hr hr2 hr3 hc hm hc2 hm2 hc3 hm3
    go_enter Try.func10, Try.ntmps10
    go_wp2
    go_ret
    exact ⟨rfl, HB.out⟩
end Go.Proofs.Ytioonkckppmnoaa.SeL
