/-
  Bytes of which one is another one, or of another usage, or cut: the code's answer is the document's.
-/
import Derived.Test.YtioonkckppmnoaaSeRes
import Derived.Test.YtioonkckppmnoaaSeLaw6
import Derived.Laws.OwnMore
set_option linter.unusedVariables false
namespace Go.Proofs.Ytioonkckppmnoaa.SeL
open Go.RowKit Go.Proofs.Ytioonkckppmnoaa.Mem Go.Proofs.Ytioonkckppmnoaa.Se

theorem and65535 (n : Int) : bits .and .i64 n 65535 = n % 65536 := by
  have h127 : (BitVec.ofInt 64 65535).toNat = 2 ^ 16 - 1 := by decide
  have key : (BitVec.ofInt 64 n &&& BitVec.ofInt 64 65535).toNat = (n % ((2 ^ 64 : Nat) : Int)).toNat % 2 ^ 16 := by
    rw [BitVec.toNat_and, BitVec.toNat_ofInt, h127, Nat.and_two_pow_sub_one_eq_mod]
  show IntKind.i64.wrap ((BitVec.ofInt 64 n &&& BitVec.ofInt 64 65535).toNat : Nat) = n % 65536
  rw [key, IntKind.wrap_i64]
  omega
theorem open_same7 (ks : Nat → UInt8) (p : List UInt8) (hp : p.length ≤ 784) : openR ks 7 (sealL ks 7 9 p) = (p, 0) := by
  have hi := isL_seal ks 7 9 p (by decide) hp
  have e : openR ks ((7 : Nat) : Int) (sealL ks 7 9 p) = (mixL ks 7 (n8 (sealL ks 7 9 p)) (midL (sealL ks 7 9 p)), 0) := by
    rw [openR, if_pos (by omega)]
    show (if isL ks 7 (sealL ks 7 9 p) = true then _ else _) = _
    rw [if_pos hi]; rfl
  have e2 := mix_seal ks 7 9 p (by decide)
  rw [e2] at e
  exact e
theorem u8_xor0 (y : UInt8) : y ^^^ 0 = y := by
  apply UInt8.toNat_inj.1
  rw [UInt8.toNat_xor]; simp
theorem list_set_same (l : List UInt8) (i : Nat) (h : i < l.length) : l.set i l[i] = l := by
  apply List.ext_getElem?
  intro j
  rw [List.getElem?_set]
  by_cases hj : i = j
  · subst hj; simp [h]
  · rw [if_neg hj]
theorem bvs_set (l : List UInt8) (i : Nat) (z : UInt8) : (bvs l).set i (bv z) = bvs (l.set i z) := by
  unfold bvs; rw [List.map_set]
set_option maxRecDepth 100000 in
set_option maxHeartbeats 3200000 in
theorem turned_1 (A : Option Addr) (l : List UInt8) (c : Nat) (A3 : Option Addr) (p : List UInt8) (c3 : Nat) (at_ : Int) (by_ : UInt8) (w : World) (hr : Rd w w.heap.size A (bvs l)) (hr3 : Rd w w.heap.size A3 (bvs p)) (hp : p.length ≤ 300) :
    Calls Try.prog 5 #[.slice A l.length c, .slice A3 p.length c3, .int .i64 at_, .int .u8 (by_.toNat : Int), .int .i64 1] w fun e w' => e = .returned (.bool true) ∧ Below w.heap.size w w' := by
  obtain ⟨ib, hi0, hz0, hs0, hb0⟩ := info_parts Si.u8_info
  obtain ⟨ks, ek⟩ : ∃ ks, ks = ksOf l := ⟨_, rfl⟩
  obtain ⟨B, eB⟩ : ∃ B, B = w.heap.size := ⟨_, rfl⟩
  have ck : ∀ w1, Below B w w1 → Calls Try.prog 13 #[.slice A l.length c] w1 fun e w' => e = .returned (.agg (key32 ks)) ∧ Below w1.heap.size w1 w' := fun w1 h => by rw [ek]; exact key_any A l.length c l w1 rfl ((eB ▸ hr.below (eB ▸ h)).more (eB ▸ h.size))
  have cnew := fun w1 => new_any ks w1
  have hrp : ∀ w1 (b : Nat), B ≤ b → Below B w w1 → RdA (Ow b none) w1 A3 (bvs p) := fun w1 b hb h => RdA.of_rd (B := B) (eB ▸ hr3.below (eB ▸ h)) (eB ▸ h.size) (fun i hx => by rw [Ow_none hx]; exact hb)
  obtain ⟨m, em⟩ : ∃ m, m = p.length := ⟨_, rfl⟩
  obtain ⟨Z, eZ⟩ : ∃ Z, Z = sealL ks 7 9 p := ⟨_, rfl⟩
  have hZl : Z.length = m + 16 := by rw [eZ, sealL_length, em]
  have cseal := fun (w1 : World) (b : Nat) (h1 : RdA (Ow b none) w1 A3 (bvs p)) (h2 : Box w1 b ks none 0 0 0) => seal_ok b ks none 0 0 0 7 9 A3 m c3 p w1 (by decide) (by decide) (by decide) em (by omega) h1 h2
  rw [← eZ] at cseal
  obtain ⟨a16, ea⟩ : ∃ a16 : Nat, (a16 : Int) = at_ % 65536 := ⟨(at_ % 65536).toNat, by omega⟩
  have hand := and65535 at_
  rw [← ea] at hand
  obtain ⟨nb, enb⟩ : ∃ nb, nb = m + 16 := ⟨_, rfl⟩
  obtain ⟨ix, eix⟩ : ∃ ix, ix = a16 % nb := ⟨_, rfl⟩
  have hix : ix < nb := by rw [eix]; exact Nat.mod_lt _ (by omega)
  have hixZ : ix < Z.length := by omega
  have hmod : (a16 : Int) % (nb : Int) = (ix : Int) := by rw [eix]; omega
  have htm : Int.tmod (a16 : Int) (nb : Int) = (ix : Int) := by rw [eix]; rfl
  obtain ⟨yb, eyb⟩ : ∃ yb, yb = Z[ix] := ⟨_, rfl⟩
  obtain ⟨L, eL⟩ : ∃ L, L = Z := ⟨_, rfl⟩
  have hLl : (m + 16) = L.length := by rw [eL]; omega
  obtain ⟨nl, enl⟩ : ∃ nl, nl = (m + 16) := ⟨_, rfl⟩
  rw [← enl] at hLl
  have co := fun (w1 : World) (x : Nat) (h : Option Nat) (a : Nat) (A1 : Option Addr) (c1 : Nat) (hc : nl ≤ c1) (hm : c1 ≤ maxLen) (h1 : RdA (Ow x h) w1 A1 (bvs L)) (h2 : Box w1 x ks h a 0 0) => open_res x ks h a 0 0 8 A1 nl c1 L w1 (by decide) (by decide) hLl hc hm h1 h2
  have cdo := fun (w1 : World) (A1 : Option Addr) (c1 : Nat) (hc : nl ≤ c1) (h1 : Rd w1 w1.heap.size A1 (bvs L)) => dopen_res ks 8 A1 nl c1 L w1 hLl hc h1
  obtain ⟨kv, ekv⟩ : ∃ kv, kv = key32 ks := ⟨_, rfl⟩
  rw [← ekv] at ck cnew cdo
  obtain ⟨O, eO⟩ : ∃ O, O = (openR ks 8 L).1 := ⟨_, rfl⟩
  obtain ⟨oe, eoe⟩ : ∃ oe, oe = (openR ks 8 L).2 := ⟨_, rfl⟩
  rw [← eO, ← eoe] at co cdo
  have hcvO := fun (w1 : World) (B : Nat) (A : Option Addr) (c : Nat) (h : Rd w1 B A (bvs O)) => run_bytes_str (P := Try.prog) w1 22 5 Try.underlying22 Try.underlying5 h O.length c rfl 9 Try.underlying9
  obtain ⟨ov, eov⟩ : ∃ ov : ByteArray, ov = ⟨O.toArray⟩ := ⟨_, rfl⟩
  rw [← eov] at hcvO
  obtain ⟨ol, eol⟩ : ∃ ol, ol = O.length := ⟨_, rfl⟩
  rw [← eol] at co cdo hcvO
  rw [← enb] at cseal
  have t1 : decide (300 < (m : Int)) = false := by simp; omega
  have q1 : (nb : Int) ≤ 400 := by omega
  have q2 : (16 : Int) ≤ (nb : Int) := by omega
  have q3 : ¬ nb = 0 := by omega
  have q4 : ¬ (nb : Int) = 0 := by omega
  have q5 : (ix : Int) < (nb : Int) := by omega
  have q6 : (0 : Int) ≤ (ix : Int) := by omega
  have q7 : decide ((nb : Int) = 0) = false := by simpa using q4
  rw [← em]
  have EB := Lib.hid eB
  have HB := Lib.hid (Below.refl B w)
  have HIX := Lib.hid hix
  have HNB : Hid (nb ≤ 400) := by show nb ≤ 400; omega
  have HZL : Hid (Z.length = nb) := by show Z.length = nb; omega
  have ENL := Lib.hid enl
  have ENB := Lib.hid enb
  have EL := Lib.hid eL
  have CK := Lib.hid ck; clear ck
  have CN := Lib.hid cnew; clear cnew
  have CS := Lib.hid cseal; clear cseal
  have CO := Lib.hid co; clear co
  have CDO := Lib.hid cdo; clear cdo
  have CVO := Lib.hid hcvO; clear hcvO
  have HRP := Lib.hid hrp; clear hrp
  have c1 := CK.out w HB.out
  clear hr hr3 hp ek ekv em eZ hZl ea enb eix hix hixZ eyb eL hLl enl eO eoe eov eol eB
  go_enter Try.func5, Try.ntmps5
  go_upto_region 17 with (first
    | (go_at_call 13; refine Calls.mono c1 ?_; rintro e w1 ⟨rfl, hb1⟩; clear c1; have k2 := CN.out w1; have H1 := Lib.hid ((EB.out ▸ hb1 : Below B w w1)); clear hb1)
    | (go_at_call 12; refine Calls.mono k2 ?_; rintro e w2 ⟨x, rfl, hx, hxx, hb2⟩; clear k2; have hb2 := H1.out.trans (hb2.mono (EB.out ▸ H1.out.size)); have hxB : B ≤ x := by { have := H1.out.size; have := EB.out; omega }; have k3 := CS.out w2 x (HRP.out w2 x hxB hb2) hxx; have HX := Lib.hid hxB; have HXL := Lib.hid hxx.lt; have H2 := Lib.hid hb2; clear hx hxx hb2 hxB)
    | (go_at_call 14; refine Calls.mono k3 ?_; rintro e w3 ⟨g, As, sc, rfl, h1, h2, h3, h4, h5⟩; clear k3; have hg := Step.ge h5; have hb3 : Below B w w3 := below_chg H2.out (by have := H2.out.size; have := EB.out; omega) h5.1 (fun i _ hi => by have := Ow_none hi; have := HX.out; omega); have H3 := Lib.hid hb3; have GX := Lib.hid hg; have RA3 := Lib.hid (nw_ns h3 HXL.out); have BX3 := Lib.hid h4; have K1 := Lib.hid h1; have K2 := Lib.hid h2; clear h1 h2 h3 h4 h5 hg hb3))
  have hown : ∀ i, Ow x (some g) i → B ≤ i := fun i hi => by
    have := HX.out; have := GX.out; have := H2.out.size; have := EB.out
    rcases Ow_some hi with h | h <;> omega
  have OWN := Lib.hid hown; clear hown
  have raw0 : RdA (Ow x (some g)) w3 As (bvs Z) := RA3.out.mono (fun i _ hi => .inr hi)
  have RAW : Hid (RdA (Ow x (some g)) w3 As (bvs L)) := by rw [EL.out]; exact raw0
  have BXW : Hid (Box w3 x ks (some g) (0 + 1) 0 0) := BX3.out
  have HBW := H3
  have KC1 : Hid (nl ≤ sc) := by have := K1.out; have := ENL.out; have := ENB.out; show nl ≤ sc; omega
  have KC2 := K2
  have hnl : nl = nb := by rw [ENL.out, ENB.out]
  subst hnl
  clear raw0
  have k6 := CO.out w3 x (some g) (0 + 1) As sc KC1.out KC2.out RAW.out BXW.out
  go_wp2_with (first
    | (go_at_call 16; refine Calls.mono k6 ?_; rintro e w6 ⟨Ao, oc, h2, o1, r1, rfl, g1, g2, g3, g4, g5, g6, g7⟩; clear k6; have hb6 := below_chg HBW.out (by have := HBW.out.size; have := EB.out; omega) g5.1 (fun i _ hi => OWN.out i hi); have ra6 := RAW.out.keep (S' := fun _ => False) g5.1 (fun _ _ x => x) (fun _ _ x => x.elim); have ro6 := g3.mono (S' := fun _ => False) (fun _ _ x => x.elim); have k7 := CK.out w6 hb6; have H6 := Lib.hid hb6; have RA6 := Lib.hid ra6; have RO6 := Lib.hid ro6; clear g1 g2 g3 g4 g5 g6 g7 hb6 ra6 ro6)
    | (go_at_call 13; refine Calls.mono k7 ?_; rintro e w7 ⟨rfl, hb7⟩; clear k7; have ra7 := RA6.out.go (Chg.of_below hb7); have ro7 := RO6.out.go (Chg.of_below hb7); have hb7 := H6.out.trans (hb7.mono (by have := H6.out.size; have := EB.out; omega)); have k8 := CDO.out w7 As sc KC1.out ra7.rd; have H7 := Lib.hid hb7; have RO7 := Lib.hid ro7; clear hb7 ra7 ro7)
    | (go_at_call 17; refine Calls.mono k8 ?_; rintro e w8 ⟨Aq, qc, rfl, g1, hb8⟩; clear k8; have v3 := CVO.out w8 _ Ao oc (RO7.out.go (Chg.of_below hb8)).rd; have v4 := CVO.out w8 _ Aq qc g1; have hb8 := H7.out.trans (hb8.mono (by have := H7.out.size; have := EB.out; omega)); have k11 := known_any w8; have H8 := Lib.hid hb8; clear g1 hb8)
    | (go_at_call 18; refine Calls.mono k11 ?_; rintro e w11 ⟨rfl, hb11⟩; clear k11; have H11 := Lib.hid hb11; clear hb11))
  go_ret
  refine ⟨rfl, ?_⟩
  rw [← EB.out]
  exact H8.out.trans (H11.out.mono (by have := H8.out.size; have := EB.out; omega))
set_option maxRecDepth 100000 in
set_option maxHeartbeats 3200000 in
theorem turned_2 (A : Option Addr) (l : List UInt8) (c : Nat) (A3 : Option Addr) (p : List UInt8) (c3 : Nat) (at_ : Int) (by_ : UInt8) (w : World) (hr : Rd w w.heap.size A (bvs l)) (hr3 : Rd w w.heap.size A3 (bvs p)) (hp : p.length ≤ 300) :
    Calls Try.prog 5 #[.slice A l.length c, .slice A3 p.length c3, .int .i64 at_, .int .u8 (by_.toNat : Int), .int .i64 2] w fun e w' => e = .returned (.bool true) ∧ Below w.heap.size w w' := by
  obtain ⟨ib, hi0, hz0, hs0, hb0⟩ := info_parts Si.u8_info
  obtain ⟨ks, ek⟩ : ∃ ks, ks = ksOf l := ⟨_, rfl⟩
  obtain ⟨B, eB⟩ : ∃ B, B = w.heap.size := ⟨_, rfl⟩
  have ck : ∀ w1, Below B w w1 → Calls Try.prog 13 #[.slice A l.length c] w1 fun e w' => e = .returned (.agg (key32 ks)) ∧ Below w1.heap.size w1 w' := fun w1 h => by rw [ek]; exact key_any A l.length c l w1 rfl ((eB ▸ hr.below (eB ▸ h)).more (eB ▸ h.size))
  have cnew := fun w1 => new_any ks w1
  have hrp : ∀ w1 (b : Nat), B ≤ b → Below B w w1 → RdA (Ow b none) w1 A3 (bvs p) := fun w1 b hb h => RdA.of_rd (B := B) (eB ▸ hr3.below (eB ▸ h)) (eB ▸ h.size) (fun i hx => by rw [Ow_none hx]; exact hb)
  obtain ⟨m, em⟩ : ∃ m, m = p.length := ⟨_, rfl⟩
  obtain ⟨Z, eZ⟩ : ∃ Z, Z = sealL ks 7 9 p := ⟨_, rfl⟩
  have hZl : Z.length = m + 16 := by rw [eZ, sealL_length, em]
  have cseal := fun (w1 : World) (b : Nat) (h1 : RdA (Ow b none) w1 A3 (bvs p)) (h2 : Box w1 b ks none 0 0 0) => seal_ok b ks none 0 0 0 7 9 A3 m c3 p w1 (by decide) (by decide) (by decide) em (by omega) h1 h2
  rw [← eZ] at cseal
  obtain ⟨a16, ea⟩ : ∃ a16 : Nat, (a16 : Int) = at_ % 65536 := ⟨(at_ % 65536).toNat, by omega⟩
  have hand := and65535 at_
  rw [← ea] at hand
  obtain ⟨nb, enb⟩ : ∃ nb, nb = m + 16 := ⟨_, rfl⟩
  obtain ⟨ix, eix⟩ : ∃ ix, ix = a16 % nb := ⟨_, rfl⟩
  have hix : ix < nb := by rw [eix]; exact Nat.mod_lt _ (by omega)
  have hixZ : ix < Z.length := by omega
  have hmod : (a16 : Int) % (nb : Int) = (ix : Int) := by rw [eix]; omega
  have htm : Int.tmod (a16 : Int) (nb : Int) = (ix : Int) := by rw [eix]; rfl
  obtain ⟨yb, eyb⟩ : ∃ yb, yb = Z[ix] := ⟨_, rfl⟩
  obtain ⟨L, eL⟩ : ∃ L, L = Z.take ix := ⟨_, rfl⟩
  have hLl : ix = L.length := by rw [eL, List.length_take]; omega
  obtain ⟨nl, enl⟩ : ∃ nl, nl = ix := ⟨_, rfl⟩
  rw [← enl] at hLl
  have co := fun (w1 : World) (x : Nat) (h : Option Nat) (a : Nat) (A1 : Option Addr) (c1 : Nat) (hc : nl ≤ c1) (hm : c1 ≤ maxLen) (h1 : RdA (Ow x h) w1 A1 (bvs L)) (h2 : Box w1 x ks h a 0 0) => open_res x ks h a 0 0 7 A1 nl c1 L w1 (by decide) (by decide) hLl hc hm h1 h2
  have cdo := fun (w1 : World) (A1 : Option Addr) (c1 : Nat) (hc : nl ≤ c1) (h1 : Rd w1 w1.heap.size A1 (bvs L)) => dopen_res ks 7 A1 nl c1 L w1 hLl hc h1
  obtain ⟨kv, ekv⟩ : ∃ kv, kv = key32 ks := ⟨_, rfl⟩
  rw [← ekv] at ck cnew cdo
  obtain ⟨O, eO⟩ : ∃ O, O = (openR ks 7 L).1 := ⟨_, rfl⟩
  obtain ⟨oe, eoe⟩ : ∃ oe, oe = (openR ks 7 L).2 := ⟨_, rfl⟩
  rw [← eO, ← eoe] at co cdo
  have hcvO := fun (w1 : World) (B : Nat) (A : Option Addr) (c : Nat) (h : Rd w1 B A (bvs O)) => run_bytes_str (P := Try.prog) w1 22 5 Try.underlying22 Try.underlying5 h O.length c rfl 9 Try.underlying9
  obtain ⟨ov, eov⟩ : ∃ ov : ByteArray, ov = ⟨O.toArray⟩ := ⟨_, rfl⟩
  rw [← eov] at hcvO
  obtain ⟨ol, eol⟩ : ∃ ol, ol = O.length := ⟨_, rfl⟩
  rw [← eol] at co cdo hcvO
  rw [← enb] at cseal
  have t1 : decide (300 < (m : Int)) = false := by simp; omega
  have q1 : (nb : Int) ≤ 400 := by omega
  have q2 : (16 : Int) ≤ (nb : Int) := by omega
  have q3 : ¬ nb = 0 := by omega
  have q4 : ¬ (nb : Int) = 0 := by omega
  have q5 : (ix : Int) < (nb : Int) := by omega
  have q6 : (0 : Int) ≤ (ix : Int) := by omega
  have q7 : decide ((nb : Int) = 0) = false := by simpa using q4
  rw [← em]
  have EB := Lib.hid eB
  have HB := Lib.hid (Below.refl B w)
  have HIX := Lib.hid hix
  have HNB : Hid (nb ≤ 400) := by show nb ≤ 400; omega
  have HZL : Hid (Z.length = nb) := by show Z.length = nb; omega
  have ENL := Lib.hid enl
  have ENB := Lib.hid enb
  have EL := Lib.hid eL
  have CK := Lib.hid ck; clear ck
  have CN := Lib.hid cnew; clear cnew
  have CS := Lib.hid cseal; clear cseal
  have CO := Lib.hid co; clear co
  have CDO := Lib.hid cdo; clear cdo
  have CVO := Lib.hid hcvO; clear hcvO
  have HRP := Lib.hid hrp; clear hrp
  have c1 := CK.out w HB.out
  clear hr hr3 hp ek ekv em eZ hZl ea enb eix hix hixZ eyb eL hLl enl eO eoe eov eol eB
  go_enter Try.func5, Try.ntmps5
  go_upto_region 11 with (first
    | (go_at_call 13; refine Calls.mono c1 ?_; rintro e w1 ⟨rfl, hb1⟩; clear c1; have k2 := CN.out w1; have H1 := Lib.hid ((EB.out ▸ hb1 : Below B w w1)); clear hb1)
    | (go_at_call 12; refine Calls.mono k2 ?_; rintro e w2 ⟨x, rfl, hx, hxx, hb2⟩; clear k2; have hb2 := H1.out.trans (hb2.mono (EB.out ▸ H1.out.size)); have hxB : B ≤ x := by { have := H1.out.size; have := EB.out; omega }; have k3 := CS.out w2 x (HRP.out w2 x hxB hb2) hxx; have HX := Lib.hid hxB; have HXL := Lib.hid hxx.lt; have H2 := Lib.hid hb2; clear hx hxx hb2 hxB)
    | (go_at_call 14; refine Calls.mono k3 ?_; rintro e w3 ⟨g, As, sc, rfl, h1, h2, h3, h4, h5⟩; clear k3; have hg := Step.ge h5; have hb3 : Below B w w3 := below_chg H2.out (by have := H2.out.size; have := EB.out; omega) h5.1 (fun i _ hi => by have := Ow_none hi; have := HX.out; omega); have H3 := Lib.hid hb3; have GX := Lib.hid hg; have RA3 := Lib.hid (nw_ns h3 HXL.out); have BX3 := Lib.hid h4; have K1 := Lib.hid h1; have K2 := Lib.hid h2; clear h1 h2 h3 h4 h5 hg hb3))
  have hown : ∀ i, Ow x (some g) i → B ≤ i := fun i hi => by
    have := HX.out; have := GX.out; have := H2.out.size; have := EB.out
    rcases Ow_some hi with h | h <;> omega
  have OWN := Lib.hid hown; clear hown
  have raw0 : RdA (Ow x (some g)) w3 As (bvs Z) := RA3.out.mono (fun i _ hi => .inr hi)
  obtain ⟨bb, oo, rfl⟩ : ∃ bb oo, As = some ⟨bb, oo, none⟩ := by
    rcases raw0 with hz | ⟨bb, oo, h4, _⟩
    · have := bvs_length Z; rw [hz, HZL.out] at this; simp at this; have := ENB.out; omega
    · exact ⟨bb, oo, h4⟩
  have RAW : Hid (RdA (Ow x (some g)) w3 (some ⟨bb, oo, none⟩) (bvs L)) := by rw [EL.out]; exact raw0.take ix
  have BXW : Hid (Box w3 x ks (some g) (0 + 1) 0 0) := BX3.out
  have HBW := H3
  have KC1 : Hid (nl ≤ sc) := by have := K1.out; have := ENL.out; have := ENB.out; have := HIX.out; show nl ≤ sc; omega
  have KC2 := K2
  have hnl : nl = ix := ENL.out
  subst hnl
  have s1 : (nl : Int) ≤ (sc : Int) := by have := KC1.out; omega
  have s2 : nl ≤ sc := KC1.out
  clear raw0
  go_upto_region 17 with fail
  have k6 := CO.out w3 x (some g) (0 + 1) (some ⟨bb, oo, none⟩) sc KC1.out KC2.out RAW.out BXW.out
  go_wp2_with (first
    | (go_at_call 16; refine Calls.mono k6 ?_; rintro e w6 ⟨Ao, oc, h2, o1, r1, rfl, g1, g2, g3, g4, g5, g6, g7⟩; clear k6; have hb6 := below_chg HBW.out (by have := HBW.out.size; have := EB.out; omega) g5.1 (fun i _ hi => OWN.out i hi); have ra6 := RAW.out.keep (S' := fun _ => False) g5.1 (fun _ _ x => x) (fun _ _ x => x.elim); have ro6 := g3.mono (S' := fun _ => False) (fun _ _ x => x.elim); have k7 := CK.out w6 hb6; have H6 := Lib.hid hb6; have RA6 := Lib.hid ra6; have RO6 := Lib.hid ro6; clear g1 g2 g3 g4 g5 g6 g7 hb6 ra6 ro6)
    | (go_at_call 13; refine Calls.mono k7 ?_; rintro e w7 ⟨rfl, hb7⟩; clear k7; have ra7 := RA6.out.go (Chg.of_below hb7); have ro7 := RO6.out.go (Chg.of_below hb7); have hb7 := H6.out.trans (hb7.mono (by have := H6.out.size; have := EB.out; omega)); have k8 := CDO.out w7 (some ⟨bb, oo, none⟩) sc KC1.out ra7.rd; have H7 := Lib.hid hb7; have RO7 := Lib.hid ro7; clear hb7 ra7 ro7)
    | (go_at_call 17; refine Calls.mono k8 ?_; rintro e w8 ⟨Aq, qc, rfl, g1, hb8⟩; clear k8; have v3 := CVO.out w8 _ Ao oc (RO7.out.go (Chg.of_below hb8)).rd; have v4 := CVO.out w8 _ Aq qc g1; have hb8 := H7.out.trans (hb8.mono (by have := H7.out.size; have := EB.out; omega)); have k11 := known_any w8; have H8 := Lib.hid hb8; clear g1 hb8)
    | (go_at_call 18; refine Calls.mono k11 ?_; rintro e w11 ⟨rfl, hb11⟩; clear k11; have H11 := Lib.hid hb11; clear hb11))
  go_ret
  refine ⟨rfl, ?_⟩
  rw [← EB.out]
  exact H8.out.trans (H11.out.mono (by have := H8.out.size; have := EB.out; omega))
set_option maxRecDepth 100000 in
set_option maxHeartbeats 3200000 in
theorem turned_0 (A : Option Addr) (l : List UInt8) (c : Nat) (A3 : Option Addr) (p : List UInt8) (c3 : Nat) (at_ : Int) (by_ : UInt8) (w : World) (hr : Rd w w.heap.size A (bvs l)) (hr3 : Rd w w.heap.size A3 (bvs p)) (hp : p.length ≤ 300) :
    Calls Try.prog 5 #[.slice A l.length c, .slice A3 p.length c3, .int .i64 at_, .int .u8 (by_.toNat : Int), .int .i64 0] w fun e w' => e = .returned (.bool true) ∧ Below w.heap.size w w' := by
  obtain ⟨ib, hi0, hz0, hs0, hb0⟩ := info_parts Si.u8_info
  obtain ⟨ks, ek⟩ : ∃ ks, ks = ksOf l := ⟨_, rfl⟩
  obtain ⟨B, eB⟩ : ∃ B, B = w.heap.size := ⟨_, rfl⟩
  have ck : ∀ w1, Below B w w1 → Calls Try.prog 13 #[.slice A l.length c] w1 fun e w' => e = .returned (.agg (key32 ks)) ∧ Below w1.heap.size w1 w' := fun w1 h => by rw [ek]; exact key_any A l.length c l w1 rfl ((eB ▸ hr.below (eB ▸ h)).more (eB ▸ h.size))
  have cnew := fun w1 => new_any ks w1
  have hrp : ∀ w1 (b : Nat), B ≤ b → Below B w w1 → RdA (Ow b none) w1 A3 (bvs p) := fun w1 b hb h => RdA.of_rd (B := B) (eB ▸ hr3.below (eB ▸ h)) (eB ▸ h.size) (fun i hx => by rw [Ow_none hx]; exact hb)
  obtain ⟨m, em⟩ : ∃ m, m = p.length := ⟨_, rfl⟩
  obtain ⟨Z, eZ⟩ : ∃ Z, Z = sealL ks 7 9 p := ⟨_, rfl⟩
  have hZl : Z.length = m + 16 := by rw [eZ, sealL_length, em]
  have cseal := fun (w1 : World) (b : Nat) (h1 : RdA (Ow b none) w1 A3 (bvs p)) (h2 : Box w1 b ks none 0 0 0) => seal_ok b ks none 0 0 0 7 9 A3 m c3 p w1 (by decide) (by decide) (by decide) em (by omega) h1 h2
  rw [← eZ] at cseal
  obtain ⟨a16, ea⟩ : ∃ a16 : Nat, (a16 : Int) = at_ % 65536 := ⟨(at_ % 65536).toNat, by omega⟩
  have hand := and65535 at_
  rw [← ea] at hand
  obtain ⟨nb, enb⟩ : ∃ nb, nb = m + 16 := ⟨_, rfl⟩
  obtain ⟨ix, eix⟩ : ∃ ix, ix = a16 % nb := ⟨_, rfl⟩
  have hix : ix < nb := by rw [eix]; exact Nat.mod_lt _ (by omega)
  have hixZ : ix < Z.length := by omega
  have hmod : (a16 : Int) % (nb : Int) = (ix : Int) := by rw [eix]; omega
  have htm : Int.tmod (a16 : Int) (nb : Int) = (ix : Int) := by rw [eix]; rfl
  obtain ⟨yb, eyb⟩ : ∃ yb, yb = Z[ix] := ⟨_, rfl⟩
  obtain ⟨L, eL⟩ : ∃ L, L = Z.set ix (yb ^^^ by_) := ⟨_, rfl⟩
  have hLl : (m + 16) = L.length := by rw [eL, List.length_set]; omega
  obtain ⟨nl, enl⟩ : ∃ nl, nl = (m + 16) := ⟨_, rfl⟩
  rw [← enl] at hLl
  have co := fun (w1 : World) (x : Nat) (h : Option Nat) (a : Nat) (A1 : Option Addr) (c1 : Nat) (hc : nl ≤ c1) (hm : c1 ≤ maxLen) (h1 : RdA (Ow x h) w1 A1 (bvs L)) (h2 : Box w1 x ks h a 0 0) => open_res x ks h a 0 0 7 A1 nl c1 L w1 (by decide) (by decide) hLl hc hm h1 h2
  have cdo := fun (w1 : World) (A1 : Option Addr) (c1 : Nat) (hc : nl ≤ c1) (h1 : Rd w1 w1.heap.size A1 (bvs L)) => dopen_res ks 7 A1 nl c1 L w1 hLl hc h1
  have hoe : (by_.toNat : Int) = 0 → (openR ks 7 L).2 = 0 := fun h => by
    have h0 : by_ = 0 := UInt8.toNat_inj.1 (by simp; omega)
    rw [eL, h0, u8_xor0, eyb, list_set_same Z ix hixZ, eZ, open_same7 ks p (by omega)]
  have hby : decide ((by_.toNat : Int) = 0) = true ∨ decide ((by_.toNat : Int) = 0) = false := by cases decide ((by_.toNat : Int) = 0) <;> simp
  have hset : (bvs Z).set ix (bv (yb ^^^ by_)) = bvs L := by rw [bvs_set, eL]
  obtain ⟨zb, ezb⟩ : ∃ zb, zb = yb ^^^ by_ := ⟨_, rfl⟩
  have hxo : bits .xor .u8 (yb.toNat : Int) (by_.toNat : Int) = (zb.toNat : Int) := by rw [ezb]; exact xor_b2 yb by_
  rw [← ezb] at hset
  have hyc : (bvs Z)[ix]? = some (.int .u8 (yb.toNat : Int)) := by rw [bvs_at hixZ, eyb]; rfl
  obtain ⟨kv, ekv⟩ : ∃ kv, kv = key32 ks := ⟨_, rfl⟩
  rw [← ekv] at ck cnew cdo
  obtain ⟨O, eO⟩ : ∃ O, O = (openR ks 7 L).1 := ⟨_, rfl⟩
  obtain ⟨oe, eoe⟩ : ∃ oe, oe = (openR ks 7 L).2 := ⟨_, rfl⟩
  rw [← eO, ← eoe] at co cdo
  rw [← eoe] at hoe
  have hcvO := fun (w1 : World) (B : Nat) (A : Option Addr) (c : Nat) (h : Rd w1 B A (bvs O)) => run_bytes_str (P := Try.prog) w1 22 5 Try.underlying22 Try.underlying5 h O.length c rfl 9 Try.underlying9
  obtain ⟨ov, eov⟩ : ∃ ov : ByteArray, ov = ⟨O.toArray⟩ := ⟨_, rfl⟩
  rw [← eov] at hcvO
  obtain ⟨ol, eol⟩ : ∃ ol, ol = O.length := ⟨_, rfl⟩
  rw [← eol] at co cdo hcvO
  rw [← enb] at cseal
  have t1 : decide (300 < (m : Int)) = false := by simp; omega
  have q1 : (nb : Int) ≤ 400 := by omega
  have q2 : (16 : Int) ≤ (nb : Int) := by omega
  have q3 : ¬ nb = 0 := by omega
  have q4 : ¬ (nb : Int) = 0 := by omega
  have q5 : (ix : Int) < (nb : Int) := by omega
  have q6 : (0 : Int) ≤ (ix : Int) := by omega
  have q7 : decide ((nb : Int) = 0) = false := by simpa using q4
  rw [← em]
  have EB := Lib.hid eB
  have HB := Lib.hid (Below.refl B w)
  have HIX := Lib.hid hix
  have HNB : Hid (nb ≤ 400) := by show nb ≤ 400; omega
  have HZL : Hid (Z.length = nb) := by show Z.length = nb; omega
  have ENL := Lib.hid enl
  have ENB := Lib.hid enb
  have EL := Lib.hid eL
  have CK := Lib.hid ck; clear ck
  have CN := Lib.hid cnew; clear cnew
  have CS := Lib.hid cseal; clear cseal
  have CO := Lib.hid co; clear co
  have CDO := Lib.hid cdo; clear cdo
  have CVO := Lib.hid hcvO; clear hcvO
  have HRP := Lib.hid hrp; clear hrp
  have c1 := CK.out w HB.out
  have HSET := Lib.hid hset; clear hset
  have HYC := Lib.hid hyc; clear hyc
  have HOE := Lib.hid hoe; clear hoe
  clear hr hr3 hp ek ekv em eZ hZl ea enb eix hix hixZ eyb eL hLl enl eO eoe eov eol eB ezb
  go_enter Try.func5, Try.ntmps5
  go_upto_region 13 with (first
    | (go_at_call 13; refine Calls.mono c1 ?_; rintro e w1 ⟨rfl, hb1⟩; clear c1; have k2 := CN.out w1; have H1 := Lib.hid ((EB.out ▸ hb1 : Below B w w1)); clear hb1)
    | (go_at_call 12; refine Calls.mono k2 ?_; rintro e w2 ⟨x, rfl, hx, hxx, hb2⟩; clear k2; have hb2 := H1.out.trans (hb2.mono (EB.out ▸ H1.out.size)); have hxB : B ≤ x := by { have := H1.out.size; have := EB.out; omega }; have k3 := CS.out w2 x (HRP.out w2 x hxB hb2) hxx; have HX := Lib.hid hxB; have HXL := Lib.hid hxx.lt; have H2 := Lib.hid hb2; clear hx hxx hb2 hxB)
    | (go_at_call 14; refine Calls.mono k3 ?_; rintro e w3 ⟨g, As, sc, rfl, h1, h2, h3, h4, h5⟩; clear k3; have hg := Step.ge h5; have hb3 : Below B w w3 := below_chg H2.out (by have := H2.out.size; have := EB.out; omega) h5.1 (fun i _ hi => by have := Ow_none hi; have := HX.out; omega); have H3 := Lib.hid hb3; have GX := Lib.hid hg; have RA3 := Lib.hid (nw_ns h3 HXL.out); have BX3 := Lib.hid h4; have K1 := Lib.hid h1; have K2 := Lib.hid h2; clear h1 h2 h3 h4 h5 hg hb3))
  have hown : ∀ i, Ow x (some g) i → B ≤ i := fun i hi => by
    have := HX.out; have := GX.out; have := H2.out.size; have := EB.out
    rcases Ow_some hi with h | h <;> omega
  have OWN := Lib.hid hown; clear hown
  have raw0 : RdA (Ow x (some g)) w3 As (bvs Z) := RA3.out.mono (fun i _ hi => .inr hi)
  have RA4 : Hid (Rd (w3.alloc (.cells #[] 5)) w3.heap.size As (bvs Z)) := raw0.rd.alloc (Nat.le_refl _) _
  have LIT : Hid ((w3.alloc (.cells #[] 5)).ownsRow w3.heap.size 5 1 (.slice (some ⟨w3.heap.size, 0, none⟩) 0 0) 0 []) := World.ownsRow_lit (base := w3.heap.size) (e := 5) (size := 1) w3 #[] 0 (Nat.le_refl _) (by decide) (by rfl)
  go_upto_region 14 with (at_builtin; refine wpList_append_rd _ (by rfl) (.tmp 58) (.tmp 59) 22 (by rfl) w3.heap.size 5 ib _ 1 Try.underlying22 hi0 hz0 hs0 hb0 (by rfl) _ 0 [] (by rfl) LIT.out w3.heap.size As nb sc (bvs Z) (by rfl) (by rw [bvs_length]; exact HZL.out.symm) RA4.out (bvs_one _) (by have := HNB.out; unfold maxLen; omega) (by have := HNB.out; omega) (by simp) ?_; intro v4 w4 hown4 hgrow4 hat4; have O4 := Lib.hid hown4; have G4 := Lib.hid hgrow4; clear hown4 hgrow4 hat4)
  have ho4 : w4.ownsRow w3.heap.size 5 1 v4 nb (bvs Z) := by
    have := O4.out
    rwa [Nat.zero_add, List.nil_append] at this
  obtain ⟨g4, cap4, rfl, hg4, hg4l, hcell4⟩ := Sp.own_parts ho4 (by omega)
  have hcx : w4.cell? ⟨g4, ix, none⟩ = some (.int .u8 (yb.toNat : Int)) := hcell4 ix _ HYC.out
  have fz := fun j => ho4.frozenAt j
  have hst := (ho4.stored ix (bv zb)).1
  rw [HSET.out] at hst
  have hcap : nb ≤ cap4 ∧ cap4 ≤ maxLen := by
    rcases ho4.2 with ⟨hv, _⟩ | ⟨g', cap', cur, hv, _, _, h1, h2, _⟩
    · cases hv
    · injection hv with _ _ hv; subst hv; exact ⟨h1, h2⟩
  have hgn : ∀ i, Ow x (some g) i → i < w3.heap.size := BX3.out.own_lt
  have hc34 : Chg (fun i => w3.heap.size ≤ i) w3 w4 := (Chg.of_below ((Below.refl w3.heap.size w3).alloc (Nat.le_refl _) (.cells #[] 5))).trans (T := fun i => w3.heap.size ≤ i) ⟨G4.out.os, G4.out.tape, G4.out.output, G4.out.size, fun k hk hne => G4.out.block k hk (fun e => by simp [Value.ownBlock] at e; exact hne (by omega))⟩ (fun _ _ x => x)
  have HST := Lib.hid hst; clear hst
  have HCAP := Lib.hid hcap; clear hcap
  have HGN := Lib.hid hgn; clear hgn
  have HC34 := Lib.hid hc34; clear hc34
  have HG4 := Lib.hid hg4; clear hg4
  clear ho4 hcell4 raw0 hg4l
  have q8 : ix < nb := HIX.out
  go_upto_region 17 with fail
  have hcw : Chg (fun i => w3.heap.size ≤ i) w3 (w4.setCell ⟨g4, ix, none⟩ (bv zb)) := HC34.out.set (.inl HG4.out) _
  have BXW : Hid (Box (w4.setCell ⟨g4, ix, none⟩ (bv zb)) x ks (some g) (0 + 1) 0 0) := BX3.out.chg hcw (fun i hi hx => by have := HGN.out i hi; omega)
  have HBW : Hid (Below B w (w4.setCell ⟨g4, ix, none⟩ (bv zb))) := below_chg H3.out (by have := H3.out.size; have := EB.out; omega) hcw (fun i hi hx => by have := H3.out.size; have := EB.out; omega)
  have hraw : ∃ A4 c4, Value.slice (some ⟨g4, 0, none⟩) nb cap4 = .slice A4 nb c4 ∧ nb ≤ c4 ∧ c4 ≤ maxLen ∧ RdA (Ow x (some g)) (w4.setCell ⟨g4, ix, none⟩ (bv zb)) A4 (bvs L) := own_rda HST.out (fun k hk hi => by have := own_new HST.out k hk; have := HGN.out k hi; omega)
  obtain ⟨A4, c4, hv4, hv5, hv6, hr4⟩ := hraw
  injection hv4 with hv4 hvl hvc
  subst hv4 hvc
  clear hvl hv5 hv6
  have RAW := Lib.hid hr4; clear hr4
  have hnl : nl = nb := by rw [ENL.out, ENB.out]
  subst hnl
  have KC1 : Hid (nl ≤ cap4) := HCAP.out.1
  have KC2 : Hid (cap4 ≤ maxLen) := HCAP.out.2
  clear hcx fz hcw
  simp only [bv] at BXW HBW RAW
  generalize w4.setCell ⟨g4, ix, none⟩ (.int .u8 (zb.toNat : Int)) = w5 at BXW HBW RAW ⊢
  have hz : (by_.toNat : Int) = 0 ∨ ¬ (by_.toNat : Int) = 0 := Classical.em _
  rcases hz with hz | hz
  · obtain rfl : oe = 0 := HOE.out hz
    clear hby hxo HOE
    have k6 := CO.out w5 x (some g) (0 + 1) (some ⟨g4, 0, none⟩) cap4 KC1.out KC2.out RAW.out BXW.out
    go_wp2_with (first
      | (go_at_call 16; refine Calls.mono k6 ?_; rintro e w6 ⟨Ao, oc, h2, o1, r1, rfl, g1, g2, g3, g4, g5, g6, g7⟩; clear k6; have hb6 := below_chg HBW.out (by have := HBW.out.size; have := EB.out; omega) g5.1 (fun i _ hi => OWN.out i hi); have ra6 := RAW.out.keep (S' := fun _ => False) g5.1 (fun _ _ x => x) (fun _ _ x => x.elim); have ro6 := g3.mono (S' := fun _ => False) (fun _ _ x => x.elim); have k7 := CK.out w6 hb6; have H6 := Lib.hid hb6; have RA6 := Lib.hid ra6; have RO6 := Lib.hid ro6; clear g1 g2 g3 g4 g5 g6 g7 hb6 ra6 ro6)
      | (go_at_call 13; refine Calls.mono k7 ?_; rintro e w7 ⟨rfl, hb7⟩; clear k7; have ra7 := RA6.out.go (Chg.of_below hb7); have ro7 := RO6.out.go (Chg.of_below hb7); have hb7 := H6.out.trans (hb7.mono (by have := H6.out.size; have := EB.out; omega)); have k8 := CDO.out w7 (some ⟨g4, 0, none⟩) cap4 KC1.out ra7.rd; have H7 := Lib.hid hb7; have RO7 := Lib.hid ro7; clear hb7 ra7 ro7)
      | (go_at_call 17; refine Calls.mono k8 ?_; rintro e w8 ⟨Aq, qc, rfl, g1, hb8⟩; clear k8; have v3 := CVO.out w8 _ Ao oc (RO7.out.go (Chg.of_below hb8)).rd; have v4 := CVO.out w8 _ Aq qc g1; have hb8 := H7.out.trans (hb8.mono (by have := H7.out.size; have := EB.out; omega)); have k11 := known_any w8; have H8 := Lib.hid hb8; clear g1 hb8)
      | (go_at_call 18; refine Calls.mono k11 ?_; rintro e w11 ⟨rfl, hb11⟩; clear k11; have H11 := Lib.hid hb11; clear hb11))
    go_ret
    refine ⟨rfl, ?_⟩
    rw [← EB.out]
    exact H8.out.trans (H11.out.mono (by have := H8.out.size; have := EB.out; omega))
  · clear hby hxo HOE
    have k6 := CO.out w5 x (some g) (0 + 1) (some ⟨g4, 0, none⟩) cap4 KC1.out KC2.out RAW.out BXW.out
    go_wp2_with (first
      | (go_at_call 16; refine Calls.mono k6 ?_; rintro e w6 ⟨Ao, oc, h2, o1, r1, rfl, g1, g2, g3, g4, g5, g6, g7⟩; clear k6; have hb6 := below_chg HBW.out (by have := HBW.out.size; have := EB.out; omega) g5.1 (fun i _ hi => OWN.out i hi); have ra6 := RAW.out.keep (S' := fun _ => False) g5.1 (fun _ _ x => x) (fun _ _ x => x.elim); have ro6 := g3.mono (S' := fun _ => False) (fun _ _ x => x.elim); have k7 := CK.out w6 hb6; have H6 := Lib.hid hb6; have RA6 := Lib.hid ra6; have RO6 := Lib.hid ro6; clear g1 g2 g3 g4 g5 g6 g7 hb6 ra6 ro6)
      | (go_at_call 13; refine Calls.mono k7 ?_; rintro e w7 ⟨rfl, hb7⟩; clear k7; have ra7 := RA6.out.go (Chg.of_below hb7); have ro7 := RO6.out.go (Chg.of_below hb7); have hb7 := H6.out.trans (hb7.mono (by have := H6.out.size; have := EB.out; omega)); have k8 := CDO.out w7 (some ⟨g4, 0, none⟩) cap4 KC1.out ra7.rd; have H7 := Lib.hid hb7; have RO7 := Lib.hid ro7; clear hb7 ra7 ro7)
      | (go_at_call 17; refine Calls.mono k8 ?_; rintro e w8 ⟨Aq, qc, rfl, g1, hb8⟩; clear k8; have v3 := CVO.out w8 _ Ao oc (RO7.out.go (Chg.of_below hb8)).rd; have v4 := CVO.out w8 _ Aq qc g1; have hb8 := H7.out.trans (hb8.mono (by have := H7.out.size; have := EB.out; omega)); have k11 := known_any w8; have H8 := Lib.hid hb8; clear g1 hb8)
      | (go_at_call 18; refine Calls.mono k11 ?_; rintro e w11 ⟨rfl, hb11⟩; clear k11; have H11 := Lib.hid hb11; clear hb11))
    go_ret
    refine ⟨rfl, ?_⟩
    rw [← EB.out]
    exact H8.out.trans (H11.out.mono (by have := H8.out.size; have := EB.out; omega))
theorem turned (A : Option Addr) (l : List UInt8) (c : Nat) (A3 : Option Addr) (p : List UInt8) (c3 : Nat) (at_ : Int) (by_ : UInt8) (way : Int) (w : World) (hr : Rd w w.heap.size A (bvs l)) (hc : l.length ≤ c) (hm : c ≤ maxLen) (hr3 : Rd w w.heap.size A3 (bvs p)) (hc3 : p.length ≤ c3) (hm3 : c3 ≤ maxLen) (_ : (Lit.int .i64 at_).wf = true) (_ : (Lit.int .i64 way).wf = true) :
    Calls Try.prog 5 #[.slice A l.length c, .slice A3 p.length c3, .int .i64 at_, .int .u8 (by_.toNat : Int), .int .i64 way] w fun e w' => e = .returned (.bool true) ∧ Below w.heap.size w w' := by
  by_cases hx : p.length ≤ 300 ∧ 0 ≤ way ∧ way ≤ 2
  · have h3 : way = 0 ∨ way = 1 ∨ way = 2 := by omega
    rcases h3 with rfl | rfl | rfl
    · exact turned_0 A l c A3 p c3 at_ by_ w hr hr3 hx.1
    · exact turned_1 A l c A3 p c3 at_ by_ w hr hr3 hx.1
    · exact turned_2 A l c A3 p c3 at_ by_ w hr hr3 hx.1
  · have HB := Lib.hid (Below.refl w.heap.size w)
    obtain ⟨m, em⟩ : ∃ m, m = p.length := ⟨_, rfl⟩
    rw [← em] at hx ⊢
    have t : decide (300 < (m : Int)) = true ∨ (decide (300 < (m : Int)) = false ∧ decide (way < 0) = true) ∨ (decide (300 < (m : Int)) = false ∧ decide (way < 0) = false ∧ decide (2 < way) = true) := by
      simp only [decide_eq_true_eq, decide_eq_false_iff_not]
      omega
    clear hx em hr hr3 hc hm hc3 hm3
    rcases t with t1 | ⟨t1, t2⟩ | ⟨t1, t2, t3⟩ <;> (
      go_enter Try.func5, Try.ntmps5
      go_wp2
      go_ret
      exact ⟨rfl, HB.out⟩)
end Go.Proofs.Ytioonkckppmnoaa.SeL
