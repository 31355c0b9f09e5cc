/-
  Any bytes, sealed; any bytes, opened: the code's answers are the document's.
-/
import Derived.Test.YtioonkckppmnoaaSeRes
set_option linter.unusedVariables false
namespace Go.Proofs.Ytioonkckppmnoaa.SeL
open Go.RowKit Go.Proofs.Ytioonkckppmnoaa.Mem Go.Proofs.Ytioonkckppmnoaa.Se

theorem tells_own {w w' : World} {x B : Nat} {h1 : Option Nat} (hx : B ≤ x) (hB : B ≤ w.heap.size) (hs : StepO w w' x none h1) : ∀ i, Ow x h1 i → B ≤ i := by
  intro i hi
  rcases hs.2 with rfl | ⟨_, g, rfl, hg⟩
  · have := Ow_none hi; omega
  · rcases Ow_some hi with h | h <;> omega
set_option maxRecDepth 100000 in
set_option maxHeartbeats 3200000 in
theorem tells_yes (A : Option Addr) (l : List UInt8) (c : Nat) (u n : Int) (A3 : Option Addr) (p : List UInt8) (c3 : Nat) (A4 : Option Addr) (q : List UInt8) (c4 : Nat) (w : World) (hr : Rd w w.heap.size A (bvs l)) (hr3 : Rd w w.heap.size A3 (bvs p)) (hr4 : Rd w w.heap.size A4 (bvs q)) (wn : (Lit.int .i64 n).wf = true) (hc3 : p.length ≤ c3) (hm3 : c3 ≤ maxLen) (hc4 : q.length ≤ c4) (hm4 : c4 ≤ maxLen) (hp : p.length ≤ 1500) (hq : q.length ≤ 1500) :
    Calls Try.prog 3 #[.slice A l.length c, .int .i64 u, .int .i64 n, .slice A3 p.length c3, .slice A4 q.length c4] w fun e w' => e = .returned (.bool true) ∧ Below w.heap.size w w' := by
  obtain ⟨ks, ek⟩ : ∃ ks, ks = ksOf l := ⟨_, rfl⟩
  obtain ⟨B, eB⟩ : ∃ B, B = w.heap.size := ⟨_, rfl⟩
  have ck : ∀ w1, Below B w w1 → Calls Try.prog 13 #[.slice A l.length c] w1 fun e w' => e = .returned (.agg (key32 ks)) ∧ Below w1.heap.size w1 w' := fun w1 h => by rw [ek]; exact key_any A l.length c l w1 rfl ((eB ▸ hr.below (eB ▸ h)).more (eB ▸ h.size))
  have rp : ∀ w1, Below B w w1 → Rd w1 w1.heap.size A3 (bvs p) := fun w1 h => (eB ▸ hr3.below (eB ▸ h)).more (eB ▸ h.size)
  have rq : ∀ w1, Below B w w1 → Rd w1 w1.heap.size A4 (bvs q) := fun w1 h => (eB ▸ hr4.below (eB ▸ h)).more (eB ▸ h.size)
  have rpa : ∀ w1 (x : Nat) (h : Option Nat), (∀ i, Ow x h i → B ≤ i) → Below B w w1 → RdA (Ow x h) w1 A3 (bvs p) := fun w1 x h hb h1 => RdA.of_rd (B := B) (eB ▸ hr3.below (eB ▸ h1)) (eB ▸ h1.size) hb
  have rqa : ∀ w1 (x : Nat) (h : Option Nat), (∀ i, Ow x h i → B ≤ i) → Below B w w1 → RdA (Ow x h) w1 A4 (bvs q) := fun w1 x h hb h1 => RdA.of_rd (B := B) (eB ▸ hr4.below (eB ▸ h1)) (eB ▸ h1.size) hb
  have cs := fun (w1 : World) (x : Nat) (h1 : RdA (Ow x none) w1 A3 (bvs p)) (h2 : Box w1 x ks none 0 0 0) => seal_res x ks none 0 0 0 u n A3 p.length c3 p w1 (by decide) wn rfl (by unfold maxLen; omega) h1 h2
  have cds := fun (w1 : World) (h1 : Rd w1 w1.heap.size A3 (bvs p)) => dseal_res ks u n A3 p.length c3 p w1 rfl h1
  have co := fun (w1 : World) (x : Nat) (h : Option Nat) (a : Nat) (h1 : RdA (Ow x h) w1 A4 (bvs q)) (h2 : Box w1 x ks h a 0 0) => open_res x ks h a 0 0 u A4 q.length c4 q w1 (by decide) (by decide) rfl hc4 hm4 h1 h2
  have cdo := fun (w1 : World) (h1 : Rd w1 w1.heap.size A4 (bvs q)) => dopen_res ks u A4 q.length c4 q w1 rfl hc4 h1
  have cnew := fun w1 => new_any ks w1
  obtain ⟨kv, ekv⟩ : ∃ kv, kv = key32 ks := ⟨_, rfl⟩
  rw [← ekv] at ck cnew cds cdo
  obtain ⟨S, eS⟩ : ∃ S, S = (sealR ks u n p).1 := ⟨_, rfl⟩
  obtain ⟨se, ese⟩ : ∃ se, se = (sealR ks u n p).2 := ⟨_, rfl⟩
  obtain ⟨O, eO⟩ : ∃ O, O = (openR ks u q).1 := ⟨_, rfl⟩
  obtain ⟨oe, eoe⟩ : ∃ oe, oe = (openR ks u q).2 := ⟨_, rfl⟩
  rw [← eS, ← ese] at cs cds
  rw [← eO, ← eoe] at co cdo
  have hcvS := fun (w1 : World) (B : Nat) (A : Option Addr) (c : Nat) (h : Rd w1 B A (bvs S)) => run_bytes_str (P := Try.prog) w1 22 5 Try.underlying22 Try.underlying5 h S.length c rfl 9 Try.underlying9
  have hcvO := fun (w1 : World) (B : Nat) (A : Option Addr) (c : Nat) (h : Rd w1 B A (bvs O)) => run_bytes_str (P := Try.prog) w1 22 5 Try.underlying22 Try.underlying5 h O.length c rfl 9 Try.underlying9
  obtain ⟨sv, esv⟩ : ∃ sv : ByteArray, sv = ⟨S.toArray⟩ := ⟨_, rfl⟩
  obtain ⟨ov, eov⟩ : ∃ ov : ByteArray, ov = ⟨O.toArray⟩ := ⟨_, rfl⟩
  rw [← esv] at hcvS
  rw [← eov] at hcvO
  obtain ⟨sl, esl⟩ : ∃ sl, sl = S.length := ⟨_, rfl⟩
  obtain ⟨ol, eol⟩ : ∃ ol, ol = O.length := ⟨_, rfl⟩
  rw [← esl] at cs cds hcvS
  rw [← eol] at co cdo hcvO
  obtain ⟨pl, epl⟩ : ∃ pl, pl = p.length := ⟨_, rfl⟩
  obtain ⟨ql, eql⟩ : ∃ ql, ql = q.length := ⟨_, rfl⟩
  have t1 : decide (1500 < (pl : Int)) = false := by simp; omega
  have t2 : decide (1500 < (ql : Int)) = false := by simp; omega
  rw [← epl] at cs cds ⊢
  rw [← eql] at co cdo ⊢
  have EB := Lib.hid eB
  have HB := Lib.hid (Below.refl B w)
  have CK := Lib.hid ck; clear ck
  have RP := Lib.hid rp; clear rp
  have RQ := Lib.hid rq; clear rq
  have RPA := Lib.hid rpa; clear rpa
  have RQA := Lib.hid rqa; clear rqa
  have CS := Lib.hid cs; clear cs
  have CDS := Lib.hid cds; clear cds
  have CO := Lib.hid co; clear co
  have CDO := Lib.hid cdo; clear cdo
  have CN := Lib.hid cnew; clear cnew
  have CVS := Lib.hid hcvS; clear hcvS
  have CVO := Lib.hid hcvO; clear hcvO
  have c1 := CK.out w HB.out
  clear hr hr3 hr4 wn hc3 hm3 hc4 hm4 hp hq ek ekv eS ese eO eoe esv eov esl eol epl eql eB
  go_enter Try.func3, Try.ntmps3
  go_wp2_with (first
    | (go_at_call 13; refine Calls.mono c1 ?_; rintro e w1 ⟨rfl, hb1⟩; clear c1; have c2 := CN.out w1; have H1 := Lib.hid ((EB.out ▸ hb1 : Below B w w1)); clear hb1)
    | (go_at_call 12; refine Calls.mono c2 ?_; rintro e w2 ⟨x, rfl, hx, hxx, hb2⟩; clear c2; have hb2 := H1.out.trans (hb2.mono (EB.out ▸ H1.out.size)); have hxB : B ≤ x := by { have := H1.out.size; have := EB.out; omega }; have c3 := CS.out w2 x (RPA.out w2 x none (fun i hi => by have := Ow_none hi; omega) hb2) hxx; have HX := Lib.hid hxB; have HXL := Lib.hid hxx.lt; have H2 := Lib.hid hb2; clear hx hxx hb2 hxB)
    | (go_at_call 14; refine Calls.mono c3 ?_; rintro e w3 ⟨As, sc, h1, a1, rfl, k1, k2, k3, k4, k5, k6⟩; clear c3; have hb3 : Below B w w3 := below_chg H2.out (by have := H2.out.size; have := EB.out; omega) k5.1 (fun i _ hi => by have := Ow_none hi; have := HX.out; omega); have hown : ∀ i, Ow x h1 i → B ≤ i := tells_own HX.out (by have := H2.out.size; have := EB.out; omega) k5; have c4 := CK.out w3 hb3; have H3 := Lib.hid hb3; have OWN := Lib.hid hown; have RA3 := Lib.hid k3; have BX3 := Lib.hid k4; clear k1 k2 k3 k4 k5 k6 hb3 hown)
    | (go_at_call 13; refine Calls.mono c4 ?_; rintro e w4 ⟨rfl, hb4⟩; clear c4; have hx4 := BX3.out.below hb4; have ra4 := RA3.out.go (Chg.of_below hb4); have hb4 := H3.out.trans (hb4.mono (by have := H3.out.size; have := EB.out; omega)); have c5 := CDS.out w4 (RP.out w4 hb4); have H4 := Lib.hid hb4; have BX4 := Lib.hid hx4; have RA4 := Lib.hid ra4; clear hb4 hx4 ra4)
    | (go_at_call 15; refine Calls.mono c5 ?_; rintro e w5 ⟨Ad, dc, rfl, k1, hb5⟩; clear c5; have hx5 := BX4.out.below hb5; have ra5 := RA4.out.go (Chg.of_below hb5); have rd5 : RdA (Ow x h1) w5 Ad (bvs S) := k1.mono (fun i _ hi => BX4.out.own_lt i hi); have hb5 := H4.out.trans (hb5.mono (by have := H4.out.size; have := EB.out; omega)); have c6 := CO.out w5 x h1 a1 (RQA.out w5 x h1 OWN.out hb5) hx5; have H5 := Lib.hid hb5; have RA5 := Lib.hid ra5; have RD5 := Lib.hid rd5; clear k1 hb5 hx5 ra5 rd5)
    | (go_at_call 16; refine Calls.mono c6 ?_; rintro e w6 ⟨Ao, oc, h2, o1, r1, rfl, k1, k2, k3, k4, k5, k6, k7⟩; clear c6; have hb6 : Below B w w6 := below_chg H5.out (by have := H5.out.size; have := EB.out; omega) k5.1 (fun i _ hi => OWN.out i hi); have ra6 := RA5.out.keep (S' := fun _ => False) k5.1 (fun i _ hi => .inr hi) (fun _ _ x => x.elim); have rd6 := RD5.out.keep (S' := fun _ => False) k5.1 (fun i _ hi => hi) (fun _ _ x => x.elim); have ro6 := k3.mono (S' := fun _ => False) (fun _ _ x => x.elim); have c7 := CK.out w6 hb6; have H6 := Lib.hid hb6; have RA6 := Lib.hid ra6; have RD6 := Lib.hid rd6; have RO6 := Lib.hid ro6; clear k1 k2 k3 k4 k5 k6 k7 hb6 ra6 rd6 ro6)
    | (go_at_call 13; refine Calls.mono c7 ?_; rintro e w7 ⟨rfl, hb7⟩; clear c7; have ra7 := RA6.out.go (Chg.of_below hb7); have rd7 := RD6.out.go (Chg.of_below hb7); have ro7 := RO6.out.go (Chg.of_below hb7); have hb7 := H6.out.trans (hb7.mono (by have := H6.out.size; have := EB.out; omega)); have c8 := CDO.out w7 (RQ.out w7 hb7); have H7 := Lib.hid hb7; have RA7 := Lib.hid ra7; have RD7 := Lib.hid rd7; have RO7 := Lib.hid ro7; clear hb7 ra7 rd7 ro7)
    | (go_at_call 17; refine Calls.mono c8 ?_; rintro e w8 ⟨Aq, qc, rfl, k1, hb8⟩; clear c8; have v1 := CVS.out w8 _ As sc (RA7.out.go (Chg.of_below hb8)).rd; have v2 := CVS.out w8 _ Ad dc (RD7.out.go (Chg.of_below hb8)).rd; have v3 := CVO.out w8 _ Ao oc (RO7.out.go (Chg.of_below hb8)).rd; have v4 := CVO.out w8 _ Aq qc k1; have c9 := known_any w8; have H8 := Lib.hid (H7.out.trans (hb8.mono (by have := H7.out.size; have := EB.out; omega))); clear k1 hb8)
    | (go_at_call 18; refine Calls.mono c9 ?_; rintro e w9 ⟨rfl, hb9⟩; clear c9; have H9 := Lib.hid hb9; clear hb9))
  go_ret
  refine ⟨rfl, ?_⟩
  rw [← EB.out]
  exact H8.out.trans (H9.out.mono (by have := H8.out.size; have := EB.out; omega))
theorem tells (A : Option Addr) (l : List UInt8) (c : Nat) (u n : Int) (A3 : Option Addr) (p : List UInt8) (c3 : Nat) (A4 : Option Addr) (q : List UInt8) (c4 : Nat) (w : World) (hr : Rd w w.heap.size A (bvs l)) (hc : l.length ≤ c) (hm : c ≤ maxLen) (_ : (Lit.int .i64 u).wf = true) (wn : (Lit.int .i64 n).wf = true) (hr3 : Rd w w.heap.size A3 (bvs p)) (hc3 : p.length ≤ c3) (hm3 : c3 ≤ maxLen) (hr4 : Rd w w.heap.size A4 (bvs q)) (hc4 : q.length ≤ c4) (hm4 : c4 ≤ maxLen) :
    Calls Try.prog 3 #[.slice A l.length c, .int .i64 u, .int .i64 n, .slice A3 p.length c3, .slice A4 q.length c4] w fun e w' => e = .returned (.bool true) ∧ Below w.heap.size w w' := by
  by_cases hx : p.length ≤ 1500 ∧ q.length ≤ 1500
  · exact tells_yes A l c u n A3 p c3 A4 q c4 w hr hr3 hr4 wn hc3 hm3 hc4 hm4 hx.1 hx.2
  · obtain ⟨pl, epl⟩ : ∃ pl, pl = p.length := ⟨_, rfl⟩
    obtain ⟨ql, eql⟩ : ∃ ql, ql = q.length := ⟨_, rfl⟩
    rw [← epl, ← eql] at hx ⊢
    have HB := Lib.hid (Below.refl w.heap.size w)
    have t : decide (1500 < (pl : Int)) = true ∨ (decide (1500 < (pl : Int)) = false ∧ decide (1500 < (ql : Int)) = true) := by
      simp only [decide_eq_true_eq, decide_eq_false_iff_not]
      omega
    clear hx epl eql hr hr3 hr4 hc hm hc3 hm3 hc4 hm4 wn
    rcases t with t1 | ⟨t1, t2⟩ <;> (
      go_enter Try.func3, Try.ntmps3
      go_wp2
      go_ret
      exact ⟨rfl, HB.out⟩)
end Go.Proofs.Ytioonkckppmnoaa.SeL
