/-
  The document's own Cursor of chapter 1: 'Int'.
-/
import Derived.Test.YtkkpcnibghndgaaDerRCur3
import Derived.Test.YtkkpcnibghndgaaRegion
set_option linter.unusedVariables false
namespace Go.Proofs.Ytkkpcnibghndgaa.DerR
open Go.RowKit Go.Proofs.Ytkkpcnibghndgaa.Mem Go.Proofs.Ytkkpcnibghndgaa.DerP Go.Proofs.Ytkkpcnibghndgaa.Reg

/-- what 'Int' does to it -/
def Ints (w : World) (B g : Nat) (c : Option L) (e : Ending) (w' : World) : Prop :=
  e = .returned (.int .i64 ((intC c).1 : Int)) ∧ RC w' B g (intC c).2 ∧ w.grownBy w' (some g)
theorem ints_none {c : Option L} (h : bodyC 2 c = none ∨ ∃ p, bodyC 2 c = some p ∧ numL p = none) : intC c = (0, none) := by
  rcases h with h | ⟨p, h, h2⟩
  · simp [intC, h]
  · simp [intC, h, h2]
theorem ints_err {w0 w : World} {B g : Nat} {c : Option L} {A : Option Addr} {n cap : Nat} {e : Bool} (hb : Blk w g 35 #[.slice A n cap, .bool e]) (h : bodyC 2 c = none ∨ ∃ p, bodyC 2 c = some p ∧ numL p = none) (hg : w0.grownBy w (some g)) :
    Ints w0 B g c (.returned (.int .i64 0)) (w.setCell ⟨g, 1, none⟩ (.bool true)) := by
  unfold Ints
  rw [ints_none h]
  exact ⟨rfl, ⟨A, n, cap, true, hb.set 1 (.bool true), rfl⟩, g_set hg (.inl rfl) _⟩

set_option maxRecDepth 100000 in
set_option maxHeartbeats 1000000 in
theorem rint_none (B g : Nat) (c : Option L) (w : World) (h : RC w B g c) (hB : B ≤ w.heap.size) (hBg : B ≤ g) (hu : (c.getD []).length ≤ 100000) (hn : bodyC 2 c = none) :
    Calls Try.prog 25 #[.pointer (some ⟨g, 0, none⟩)] w (Ints w B g c) := by
  have HT := Lib.hid (rtake_any 2 B g w c h hB hBg hu)
  have HN := Lib.hid hn
  clear h hB hBg hu hn
  go_enter Try.func25, Try.ntmps25
  go_wp2_with (go_at_call 42; refine HT.out.mono ?_; rintro e w1 ⟨⟨A', cap', rfl, hcap, hrd⟩, hrc, hg⟩
               rw [body_next 2 c HN.out] at hrc
               obtain ⟨A, n, cap, e, hb, rfl⟩ := hrc
               have HB := Lib.hid hb
               have h1 : w1.cell? ⟨g, 1, none⟩ = some (.bool true) := hb.cell 1
               have f1 := hb.frozen 1
               clear hb hcap hrd)
  go_ret
  exact ints_err HB.out (.inl HN.out) hg

/-- what 'take' hands Int, when there is an element -/
theorem rtake_some (B g : Nat) (c : Option L) (w : World) (h : RC w B g c) (hB : B ≤ w.heap.size) (hBg : B ≤ g) (hu : (c.getD []).length ≤ 100000) (p r : L) (hp : bodyC 2 c = some p) (hr : nextC 2 c = some r) :
    Calls Try.prog 42 #[.pointer (some ⟨g, 0, none⟩), .int .u8 2] w fun e w' =>
      (∃ A' cap' A n cap, e = .returned (.slice A' p.length cap') ∧ Rd w' B A' (bvs p) ∧ Blk w' g 35 #[.slice A n cap, .bool false] ∧ RS w' B A n cap false (some r)) ∧ w.grownBy w' (some g) := by
  refine (rtake_any 2 B g w c h hB hBg hu).mono ?_
  rintro e w' ⟨⟨A', cap', rfl, _, hrd⟩, hrc, hg⟩
  rw [hp] at hrd
  rw [hr] at hrc
  obtain ⟨A, n, cap, e, hb, rfl, h2⟩ := hrc
  rw [hp]
  exact ⟨⟨A', cap', A, n, cap, rfl, hrd, hb, rfl, h2⟩, hg⟩

set_option maxRecDepth 100000 in
set_option maxHeartbeats 1000000 in
theorem rint_len (B g : Nat) (c : Option L) (w : World) (h : RC w B g c) (hB : B ≤ w.heap.size) (hBg : B ≤ g) (hu : (c.getD []).length ≤ 100000) (p r : L) (hp : bodyC 2 c = some p) (hr : nextC 2 c = some r) (hn : numL p = none) (hl : p.length = 0 ∨ 9 < p.length) :
    Calls Try.prog 25 #[.pointer (some ⟨g, 0, none⟩)] w (Ints w B g c) := by
  have HT := Lib.hid (rtake_some B g c w h hB hBg hu p r hp hr)
  have HN := Lib.hid (show bodyC 2 c = none ∨ ∃ p, bodyC 2 c = some p ∧ numL p = none from .inr ⟨p, hp, hn⟩)
  have go : ∀ b1 b2 : Bool, ((p.length : Int) == 0) = b1 → decide ((9 : Int) < (p.length : Int)) = b2 → (b1 || b2) = true →
      Calls Try.prog 25 #[.pointer (some ⟨g, 0, none⟩)] w (Ints w B g c) := by
    intro b1 b2 g1 g2 hor
    clear h hB hBg hu hn hp hr hl
    cases b1 <;> cases b2 <;> first
      | (exact (Bool.false_ne_true hor).elim)
      | (clear hor
         go_enter Try.func25, Try.ntmps25
         go_wp2_with (go_at_call 42; refine HT.out.mono ?_; rintro e w1 ⟨⟨A', cap', A, n, cap, rfl, hrd, hb, hrs⟩, hg⟩
                      have HB := Lib.hid hb
                      have h1 : w1.cell? ⟨g, 1, none⟩ = some (.bool false) := hb.cell 1
                      have f1 := hb.frozen 1
                      clear hb hrs hrd)
         go_ret
         exact ints_err HB.out HN.out hg)
  refine go _ _ rfl rfl ?_
  rcases hl with hl | hl
  · simp [hl]
  · simp; omega

theorem val_take_small {p : L} (h : numL p ≠ none) (i : Nat) : val (p.take i) < 9223372036854775808 := by
  cases p with
  | nil => exact absurd rfl h
  | cons a r =>
    by_cases hc : 7 < r.length ∨ 128 ≤ a.toNat
    · exact absurd (numL_none (.inl hc)) h
    · exact val_take_lt (by omega) (by omega) i
theorem or_range (x y : Int) : -9223372036854775808 ≤ bits .or .i64 x y ∧ bits .or .i64 x y ≤ 9223372036854775807 := by
  show -9223372036854775808 ≤ IntKind.i64.wrap _ ∧ IntKind.i64.wrap _ ≤ 9223372036854775807
  rw [IntKind.wrap_i64]
  omega
theorem num_of_enc {p : L} {v : Int} (hp : p.length ≤ 65535) (h0 : 0 ≤ v) (h1 : v ≤ 4611686018427387904) (h : encI v = elem 2 p) : numL p = some v.toNat := by
  have e := elem_inj (t := 2) (p := dig (clampN v)) (q := p) (r1 := []) (r2 := []) (by have := encI_len v; omega) hp (by rw [List.append_nil, List.append_nil]; exact h)
  rw [← e.1, num_dig _ (clampN_le v), clampN_of v h0 h1]

set_option maxRecDepth 100000 in
set_option maxHeartbeats 1000000 in
theorem rint_body (B g : Nat) (c : Option L) (w : World) (h : RC w B g c) (hB : B ≤ w.heap.size) (hBg : B ≤ g) (hu : (c.getD []).length ≤ 100000) (p r : L) (hp : bodyC 2 c = some p) (hr : nextC 2 c = some r) (hl0 : p.length ≠ 0) (hl : p.length ≤ 9) :
    Calls Try.prog 25 #[.pointer (some ⟨g, 0, none⟩)] w (Ints w B g c) := by
  have HT := Lib.hid (rtake_some B g c w h hB hBg hu p r hp hr)
  have HP := Lib.hid hp
  have HRR := Lib.hid hr
  have HBB := Lib.hid hB
  have HBG := Lib.hid hBg
  have HL := Lib.hid hl
  have g1 : ((p.length : Int) == 0) = false := by simp only [beq_eq_false_iff_ne, ne_eq]; omega
  have g2 : decide ((9 : Int) < (p.length : Int)) = false := by simp; omega
  have hlu : (p.length : Int) ≤ 9 := by omega
  clear h hB hBg hu hp hr hl0 hl
  go_enter Try.func25, Try.ntmps25
  go_wp2_with (go_at_call 42; refine HT.out.mono ?_; rintro e w1 ⟨⟨A', cap', A, n, cap, rfl, hrd, hb, hrs⟩, hg⟩
               have HB := Lib.hid hb
               have HRD := Lib.hid hrd
               have HRS := Lib.hid hrs
               have h1 : w1.cell? ⟨g, 1, none⟩ = some (.bool false) := hb.cell 1
               have f1 := hb.frozen 1
               clear hb hrs hrd)
  go_loop [4, 5] (fun nv i => ∃ (j : Nat) (v : Int), j ≤ p.length ∧ i = .int .i64 (j : Int) ∧ nv = .int .i64 v ∧ -9223372036854775808 ≤ v ∧ v ≤ 9223372036854775807 ∧ (numL p ≠ none → v = (val (p.take j) : Int))) (fun _ i => p.length - (intOf i).toNat)
  case atStart => exact ⟨0, 0, by omega, rfl, rfl, by omega, by omega, fun _ => by simp [val]⟩
  case round =>
    obtain ⟨j, v, hj, rfl, rfl, hv0, hv1, hval⟩ := hrel
    have HV := Lib.hid hval
    clear hval
    by_cases hlt : j < p.length
    · obtain ⟨b, o, rfl, hbB, hcell⟩ := HRD.out.at_ (bvs_at hlt)
      have hc1 : w1.cell? ⟨b, o + j, none⟩ = some (.int .u8 ((p[j]).toNat : Int)) := hcell
      have hb255 := u8_le p[j]
      have HSN := Lib.hid (val_take_snoc p j hlt)
      have HSM := Lib.hid (val_take_small (p := p))
      have HLT := Lib.hid (p[j]).toNat_lt
      clear hcell
      go_wp2
      refine ⟨⟨j + 1, _, by omega, by go_num, rfl, (or_range _ _).1, (or_range _ _).2, fun hne => ?_⟩, by simp [intOf]; omega⟩
      have e1 := HV.out hne
      have e2 := HSM.out hne (j + 1)
      have e3 := HSN.out
      rw [e3] at e2 ⊢
      have e4 := or_low (val (p.take j)) (p[j]).toNat HLT.out (by omega)
      have e5 : wrap64 (v * 256) = ((val (p.take j) : Nat) : Int) * 256 := by
        rw [e1]; exact IntWalk.wrap64_in _ (by omega)
      rw [e5, e4]; omega
    · obtain rfl : j = p.length := by omega
      clear hj hlt
      rw [List.take_length] at HV
      by_cases hneg : v < 0
      · have g3 : decide (v < 0) = true := by simp only [decide_eq_true_eq]; omega
        have HN := Lib.hid (show bodyC 2 c = none ∨ ∃ p, bodyC 2 c = some p ∧ numL p = none from .inr ⟨p, HP.out, by
          cases hx : numL p with
          | none => rfl
          | some y => have := HV.out (by rw [hx]; simp); omega⟩)
        clear hneg
        go_wp2
        go_quiet (fail)
        go_wp2
        go_ret
        exact ints_err (HB.out.drewN _) HN.out (g_drewN hg _)
      · have g3 : decide (v < 0) = false := by simp only [decide_eq_false_iff_not]; omega
        by_cases hbig : 4611686018427387904 < v
        · have g4 : decide (4611686018427387904 < v) = true := by simp only [decide_eq_true_eq]; omega
          have HN := Lib.hid (show bodyC 2 c = none ∨ ∃ p, bodyC 2 c = some p ∧ numL p = none from .inr ⟨p, HP.out, by
            cases hx : numL p with
            | none => rfl
            | some y => have := HV.out (by rw [hx]; simp); have := (numL_some hx).1; have := (numL_some hx).2.1; omega⟩)
          clear hneg hbig
          go_wp2
          go_quiet (fail)
          go_wp2
          go_ret
          exact ints_err (HB.out.drewN _) HN.out (g_drewN hg _)
        · have g4 : decide (4611686018427387904 < v) = false := by simp only [decide_eq_false_iff_not]; omega
          by_cases heq : encI v = elem 2 p
          · have HEQ := Lib.hid heq
            have HNUM := Lib.hid (num_of_enc (by have := HL.out; omega) (by omega) (by omega) heq)
            have HV0 := Lib.hid (show ¬ v < 0 from hneg)
            clear heq
            go_wp2
            refine region_begin 15 rfl (by kernel_rfl) ?_
            refine take_op 0 (v := ?ve0) rfl (by kernel_rfl) (by kernel_rfl) (by kernel_rfl) (fun _ _ _ h => h) (by rfl) (fun w' hS => ?hye0) ?reste0
            case hye0 => go_simp; rfl
            simp only [Act.put, List.setIfInBounds_toArray, List.set_cons_zero, List.set_cons_succ]
            refine take_op 1 (v := ?ve1) rfl (by kernel_rfl) (by kernel_rfl) (by kernel_rfl) (fun _ _ _ h => h) (by rfl) (fun w' hS => ?hye1) ?reste1
            case hye1 => go_simp; rfl
            simp only [Act.put, List.setIfInBounds_toArray, List.set_cons_zero, List.set_cons_succ]
            refine take_op 2 (v := ?ve2) rfl (by kernel_rfl) (by kernel_rfl) (by kernel_rfl) (fun _ _ _ h => h) (by rfl) (fun w' hS => ?hye2) ?reste2
            case hye2 => go_simp; rfl
            simp only [Act.put, List.setIfInBounds_toArray, List.set_cons_zero, List.set_cons_succ]
            refine take_op 3 (v := ?ve3) rfl (by kernel_rfl) (by kernel_rfl) (by kernel_rfl) (fun _ _ _ h => h) (by rfl) (fun w' hS => ?hye3) ?reste3
            case hye3 => go_simp; rfl
            simp only [Act.put, List.setIfInBounds_toArray, List.set_cons_zero, List.set_cons_succ]
            refine take_op 4 (v := ?ve4) rfl (by kernel_rfl) (by kernel_rfl) (by kernel_rfl) (fun _ _ _ h => h) (by rfl) (fun w' hS => ?hye4) ?reste4
            case hye4 => go_simp; rfl
            simp only [Act.put, List.setIfInBounds_toArray, List.set_cons_zero, List.set_cons_succ]
            refine take_op 5 (v := ?ve5) rfl (by kernel_rfl) (by kernel_rfl) (by kernel_rfl) (fun _ _ _ h => h) (by rfl) (fun w' hS => ?hye5) ?reste5
            case hye5 => go_simp; rfl
            simp only [Act.put, List.setIfInBounds_toArray, List.set_cons_zero, List.set_cons_succ]
            refine take_op 6 (v := ?ve6) rfl (by kernel_rfl) (by kernel_rfl) (by kernel_rfl) (fun _ _ _ h => h) (by rfl) (fun w' hS => ?hye6) ?reste6
            case hye6 => go_simp; rfl
            simp only [Act.put, List.setIfInBounds_toArray, List.set_cons_zero, List.set_cons_succ]
            refine take_op 7 (v := ?ve7) rfl (by kernel_rfl) (by kernel_rfl) (by kernel_rfl) (fun _ _ _ h => h) (by rfl) (fun w' hS => ?hye7) ?reste7
            case hye7 => go_simp; rfl
            simp only [Act.put, List.setIfInBounds_toArray, List.set_cons_zero, List.set_cons_succ]
            refine take_op 10 (v := ?ve10) rfl (by kernel_rfl) (by kernel_rfl) (by kernel_rfl) (fun _ _ _ h => h) (by rfl) (fun w' hS => ?hye10) ?reste10
            case hye10 => go_simp; rfl
            simp only [Act.put, List.setIfInBounds_toArray, List.set_cons_zero, List.set_cons_succ]
            refine call_op 8 rfl (by kernel_rfl) (by rfl) 15 #[.int .i64 v] (by go_simp) ?_
            refine Calls.mono (DerR.int_any v w1.drew) ?_
            rintro e w2 ⟨⟨q2, d2, rfl, hq2, hd2, hrd2⟩, hb2⟩
            refine ⟨_, rfl, hb2, ?_⟩
            have HRD2 := Lib.hid hrd2
            have B2 : Below w1.heap.size w1 w2 := bt (Below.refl _ _).drew hb2
            clear hrd2
            simp only [Act.put, List.setIfInBounds_toArray, List.set_cons_zero, List.set_cons_succ]
            refine take_op 9 (v := ?ve9) rfl (by kernel_rfl) (by kernel_rfl) (by kernel_rfl) (fun _ _ _ h => h) (by rfl) (fun w' hS => ?hye9) ?reste9
            case hye9 => have hh := since_str (P := Try.prog) Try.underlying22 Try.underlying5 Try.underlying9 (n := (encI v).length) (c := d2) HRD2.out (Nat.le_refl _) rfl w' hS; go_simp; rfl
            simp only [Act.put, List.setIfInBounds_toArray, List.set_cons_zero, List.set_cons_succ]
            refine call_op 11 rfl (by kernel_rfl) (by rfl) 37 #[.int .u8 2, .slice A' p.length cap'] (by go_simp) ?_
            refine Calls.mono (DerR.elem_any 2 p A' p.length cap' B w2 (HRD.out.below (B2.mono (Nat.le_trans HBB.out hg.size))) rfl (Nat.le_trans (Nat.le_trans HBB.out hg.size) B2.size) (by have := HL.out; omega)) ?_
            rintro e w3 ⟨⟨q3, d3, rfl, hq3, hd3, hrd3⟩, hb3⟩
            refine ⟨_, rfl, hb3, ?_⟩
            have HRD3 := Lib.hid hrd3
            have B3 : Below w1.heap.size w1 w3 := bt B2 hb3
            clear hrd3
            rw [← HEQ.out] at HRD3
            rw [← HEQ.out]
            simp only [Act.put, List.setIfInBounds_toArray, List.set_cons_zero, List.set_cons_succ]
            refine take_op 12 (v := ?ve12) rfl (by kernel_rfl) (by kernel_rfl) (by kernel_rfl) (fun _ _ _ h => h) (by rfl) (fun w' hS => ?hye12) ?reste12
            case hye12 => have hh := since_str (P := Try.prog) Try.underlying22 Try.underlying5 Try.underlying9 (n := (encI v).length) (c := d3) HRD3.out (Nat.le_refl _) rfl w' hS; go_simp; rfl
            simp only [Act.put, List.setIfInBounds_toArray, List.set_cons_zero, List.set_cons_succ]
            refine take_op 13 (v := ?ve13) rfl (by kernel_rfl) (by kernel_rfl) (by kernel_rfl) (fun _ _ _ h => h) (by rfl) (fun w' hS => ?hye13) ?reste13
            case hye13 => go_simp; rfl
            simp only [Act.put, List.setIfInBounds_toArray, List.set_cons_zero, List.set_cons_succ]
            refine take_op 14 (v := ?ve14) rfl (by kernel_rfl) (by kernel_rfl) (by kernel_rfl) (fun _ _ _ h => h) (by rfl) (fun w' hS => ?hye14) ?reste14
            case hye14 => go_simp; rfl
            simp only [Act.put, List.setIfInBounds_toArray, List.set_cons_zero, List.set_cons_succ]
            refine wpAnyH_done (by kernel_rfl) ?_ _
            have hc1 := HRS.out
            have h1' : w3.cell? ⟨g, 1, none⟩ = some (.bool false) := (HB.out.below B3).cell 1
            go_wp2
            go_ret
            have hI : intC c = (v.toNat, some r) := by simp only [intC, HP.out, HNUM.out, HRR.out]
            unfold Ints
            rw [hI]
            have hv0' := HV0.out
            have hvv : ((v.toNat : Nat) : Int) = v := by omega
            exact ⟨by show Ending.returned (.int .i64 v) = .returned (.int .i64 ((v.toNat : Nat) : Int)); rw [hvv], ⟨A, n, cap, false, HB.out.below B3, rfl, HRS.out.2.1, HRS.out.2.2.1, HRS.out.2.2.2.below (B3.mono (Nat.le_trans HBB.out hg.size))⟩, g_then hg B3⟩
          · have HNE := Lib.hid heq
            have HN := Lib.hid (show bodyC 2 c = none ∨ ∃ p, bodyC 2 c = some p ∧ numL p = none from .inr ⟨p, HP.out, by
              cases hx : numL p with
              | none => rfl
              | some y =>
                have e1 := HV.out (by rw [hx]; simp)
                obtain ⟨e2, e3, _⟩ := numL_some hx
                refine absurd ?_ heq
                rw [encI, clampN_of v (by omega) (by omega), show v.toNat = y by omega, dig_num hx]⟩)
            have hbeq : (encI v == elem 2 p) = false := by simp only [beq_eq_false_iff_ne, ne_eq]; exact heq
            clear heq
            go_wp2
            refine region_begin 15 rfl (by kernel_rfl) ?_
            refine take_op 0 (v := ?vf0) rfl (by kernel_rfl) (by kernel_rfl) (by kernel_rfl) (fun _ _ _ h => h) (by rfl) (fun w' hS => ?hyf0) ?restf0
            case hyf0 => go_simp; rfl
            simp only [Act.put, List.setIfInBounds_toArray, List.set_cons_zero, List.set_cons_succ]
            refine take_op 1 (v := ?vf1) rfl (by kernel_rfl) (by kernel_rfl) (by kernel_rfl) (fun _ _ _ h => h) (by rfl) (fun w' hS => ?hyf1) ?restf1
            case hyf1 => go_simp; rfl
            simp only [Act.put, List.setIfInBounds_toArray, List.set_cons_zero, List.set_cons_succ]
            refine take_op 2 (v := ?vf2) rfl (by kernel_rfl) (by kernel_rfl) (by kernel_rfl) (fun _ _ _ h => h) (by rfl) (fun w' hS => ?hyf2) ?restf2
            case hyf2 => go_simp; rfl
            simp only [Act.put, List.setIfInBounds_toArray, List.set_cons_zero, List.set_cons_succ]
            refine take_op 3 (v := ?vf3) rfl (by kernel_rfl) (by kernel_rfl) (by kernel_rfl) (fun _ _ _ h => h) (by rfl) (fun w' hS => ?hyf3) ?restf3
            case hyf3 => go_simp; rfl
            simp only [Act.put, List.setIfInBounds_toArray, List.set_cons_zero, List.set_cons_succ]
            refine take_op 4 (v := ?vf4) rfl (by kernel_rfl) (by kernel_rfl) (by kernel_rfl) (fun _ _ _ h => h) (by rfl) (fun w' hS => ?hyf4) ?restf4
            case hyf4 => go_simp; rfl
            simp only [Act.put, List.setIfInBounds_toArray, List.set_cons_zero, List.set_cons_succ]
            refine take_op 5 (v := ?vf5) rfl (by kernel_rfl) (by kernel_rfl) (by kernel_rfl) (fun _ _ _ h => h) (by rfl) (fun w' hS => ?hyf5) ?restf5
            case hyf5 => go_simp; rfl
            simp only [Act.put, List.setIfInBounds_toArray, List.set_cons_zero, List.set_cons_succ]
            refine take_op 6 (v := ?vf6) rfl (by kernel_rfl) (by kernel_rfl) (by kernel_rfl) (fun _ _ _ h => h) (by rfl) (fun w' hS => ?hyf6) ?restf6
            case hyf6 => go_simp; rfl
            simp only [Act.put, List.setIfInBounds_toArray, List.set_cons_zero, List.set_cons_succ]
            refine take_op 7 (v := ?vf7) rfl (by kernel_rfl) (by kernel_rfl) (by kernel_rfl) (fun _ _ _ h => h) (by rfl) (fun w' hS => ?hyf7) ?restf7
            case hyf7 => go_simp; rfl
            simp only [Act.put, List.setIfInBounds_toArray, List.set_cons_zero, List.set_cons_succ]
            refine take_op 10 (v := ?vf10) rfl (by kernel_rfl) (by kernel_rfl) (by kernel_rfl) (fun _ _ _ h => h) (by rfl) (fun w' hS => ?hyf10) ?restf10
            case hyf10 => go_simp; rfl
            simp only [Act.put, List.setIfInBounds_toArray, List.set_cons_zero, List.set_cons_succ]
            refine call_op 8 rfl (by kernel_rfl) (by rfl) 15 #[.int .i64 v] (by go_simp) ?_
            refine Calls.mono (DerR.int_any v w1.drew) ?_
            rintro e w2 ⟨⟨q2, d2, rfl, hq2, hd2, hrd2⟩, hb2⟩
            refine ⟨_, rfl, hb2, ?_⟩
            have HRD2 := Lib.hid hrd2
            have B2 : Below w1.heap.size w1 w2 := bt (Below.refl _ _).drew hb2
            clear hrd2
            simp only [Act.put, List.setIfInBounds_toArray, List.set_cons_zero, List.set_cons_succ]
            refine take_op 9 (v := ?vf9) rfl (by kernel_rfl) (by kernel_rfl) (by kernel_rfl) (fun _ _ _ h => h) (by rfl) (fun w' hS => ?hyf9) ?restf9
            case hyf9 => have hh := since_str (P := Try.prog) Try.underlying22 Try.underlying5 Try.underlying9 (n := (encI v).length) (c := d2) HRD2.out (Nat.le_refl _) rfl w' hS; go_simp; rfl
            simp only [Act.put, List.setIfInBounds_toArray, List.set_cons_zero, List.set_cons_succ]
            refine call_op 11 rfl (by kernel_rfl) (by rfl) 37 #[.int .u8 2, .slice A' p.length cap'] (by go_simp) ?_
            refine Calls.mono (DerR.elem_any 2 p A' p.length cap' B w2 (HRD.out.below (B2.mono (Nat.le_trans HBB.out hg.size))) rfl (Nat.le_trans (Nat.le_trans HBB.out hg.size) B2.size) (by have := HL.out; omega)) ?_
            rintro e w3 ⟨⟨q3, d3, rfl, hq3, hd3, hrd3⟩, hb3⟩
            refine ⟨_, rfl, hb3, ?_⟩
            have HRD3 := Lib.hid hrd3
            have B3 : Below w1.heap.size w1 w3 := bt B2 hb3
            clear hrd3
            simp only [Act.put, List.setIfInBounds_toArray, List.set_cons_zero, List.set_cons_succ]
            refine take_op 12 (v := ?vf12) rfl (by kernel_rfl) (by kernel_rfl) (by kernel_rfl) (fun _ _ _ h => h) (by rfl) (fun w' hS => ?hyf12) ?restf12
            case hyf12 => have hh := since_str (P := Try.prog) Try.underlying22 Try.underlying5 Try.underlying9 (n := (elem 2 p).length) (c := d3) HRD3.out (Nat.le_refl _) rfl w' hS; go_simp; rfl
            simp only [Act.put, List.setIfInBounds_toArray, List.set_cons_zero, List.set_cons_succ]
            refine take_op 13 (v := ?vf13) rfl (by kernel_rfl) (by kernel_rfl) (by kernel_rfl) (fun _ _ _ h => h) (by rfl) (fun w' hS => ?hyf13) ?restf13
            case hyf13 => go_simp; rfl
            simp only [Act.put, List.setIfInBounds_toArray, List.set_cons_zero, List.set_cons_succ]
            refine take_op 14 (v := ?vf14) rfl (by kernel_rfl) (by kernel_rfl) (by kernel_rfl) (fun _ _ _ h => h) (by rfl) (fun w' hS => ?hyf14) ?restf14
            case hyf14 => go_simp; rfl
            simp only [Act.put, List.setIfInBounds_toArray, List.set_cons_zero, List.set_cons_succ]
            refine wpAnyH_done (by kernel_rfl) ?_ _
            have h1' : w3.cell? ⟨g, 1, none⟩ = some (.bool false) := (HB.out.below B3).cell 1
            have f1' := (HB.out.below B3).frozen 1
            go_wp2
            go_ret
            exact ints_err (HB.out.below B3) HN.out (g_then hg B3)

theorem rint_any (B g : Nat) (c : Option L) (w : World) (h : RC w B g c) (hB : B ≤ w.heap.size) (hBg : B ≤ g) (hu : (c.getD []).length ≤ 100000) :
    Calls Try.prog 25 #[.pointer (some ⟨g, 0, none⟩)] w (Ints w B g c) := by
  cases hp : bodyC 2 c with
  | none => exact rint_none B g c w h hB hBg hu hp
  | some p =>
    obtain ⟨r, hr⟩ : ∃ r, nextC 2 c = some r := by
      cases c with
      | none => simp [bodyC] at hp
      | some s =>
        cases hs : splitL 2 s with
        | none => rw [(body_none hs).1] at hp; cases hp
        | some x => exact ⟨_, (body_some (b := x.1) (r := x.2) hs).2⟩
    by_cases hl : p.length = 0 ∨ 9 < p.length
    · have hn : numL p = none := by
        cases hx : numL p with
        | none => rfl
        | some y => obtain ⟨_, _, h1, h2, _⟩ := numL_some hx; omega
      exact rint_len B g c w h hB hBg hu p r hp hr hn hl
    · exact rint_body B g c w h hB hBg hu p r hp hr (by omega) (by omega)

end Go.Proofs.Ytkkpcnibghndgaa.DerR
