import Derived.Deep.LoopGhost
import Derived.Laws.OwnMore
import Derived.Test.YteeabfplnaknfaaGreatZB1
import Derived.Test.YteeabfplnaknfaaGreatZB2
import Derived.Test.YteeabfplnaknfaaGreatZB3
import Derived.Test.YteeabfplnaknfaaGreatZB4
section
set_option linter.unusedVariables false
namespace Go.Proofs.YteeabfplnaknfaaGreat.DerR
open Go.RowKit Go.Proofs.YteeabfplnaknfaaGreat.Mem Go.Proofs.YteeabfplnaknfaaGreat.DerP Go.Proofs.YteeabfplnaknfaaGreat.Reg

def Ints (w : World) (B g : Nat) (c : Option L) (e : Ending) (w' : World) : Prop :=
  e = .returned (.int .i64 ((intC c).1 : Int)) ∧ RC w' B g (intC c).2 ∧ w.grownBy w' (some g)
theorem ints_none {c : Option L} (h : bodyC 2 c = none ∨ ∃ p, bodyC 2 c = some p ∧ numL p = none) : intC c = (0, none) := by
  rcases h with h | ⟨p, h, h2⟩
  · simp [intC, h]
  · simp [intC, h, h2]
theorem ints_err {w0 w : World} {B g : Nat} {c : Option L} {A : Option Addr} {n cap : Nat} {e : Bool} (hb : Blk w g 100 #[.slice A n cap, .bool e]) (h : bodyC 2 c = none ∨ ∃ p, bodyC 2 c = some p ∧ numL p = none) (hg : w0.grownBy w (some g)) :
    Ints w0 B g c (.returned (.int .i64 0)) (w.setCell ⟨g, 1, none⟩ (.bool true)) := by
  unfold Ints
  rw [ints_none h]
  exact ⟨rfl, ⟨A, n, cap, true, hb.set 1 (.bool true), rfl⟩, g_set hg (.inl rfl) _⟩

set_option maxRecDepth 100000 in
set_option maxHeartbeats 1000000 in
theorem rint_none (B g : Nat) (c : Option L) (w : World) (h : RC w B g c) (hB : B ≤ w.heap.size) (hBg : B ≤ g) (hu : (c.getD []).length ≤ 100000) (hn : bodyC 2 c = none) :
    Calls Tryz.prog 47 #[.pointer (some ⟨g, 0, none⟩)] w (Ints w B g c) := by
  have HT := Lib.hid (rtake_any 2 B g w c h hB hBg hu)
  have HN := Lib.hid hn
  clear h hB hBg hu hn
  go_enter Tryz.func47, Tryz.ntmps47
  go_wp2_with (go_at_call 95; refine HT.out.mono ?_; rintro e w1 ⟨⟨A', cap', rfl, hcap, hrd⟩, hrc, hg⟩
               rw [body_next 2 c HN.out] at hrc
               obtain ⟨A, n, cap, e, hb, rfl⟩ := hrc
               have HB := Lib.hid hb
               have h1 : w1.cell? ⟨g, 1, none⟩ = some (.bool true) := hb.cell 1
               have f1 := hb.frozen 1
               clear hb hcap hrd)
  go_ret
  exact ints_err HB.out (.inl HN.out) hg

theorem rtake_some (B g : Nat) (c : Option L) (w : World) (h : RC w B g c) (hB : B ≤ w.heap.size) (hBg : B ≤ g) (hu : (c.getD []).length ≤ 100000) (p r : L) (hp : bodyC 2 c = some p) (hr : nextC 2 c = some r) :
    Calls Tryz.prog 95 #[.pointer (some ⟨g, 0, none⟩), .int .u8 2] w fun e w' =>
      (∃ A' cap' A n cap, e = .returned (.slice A' p.length cap') ∧ Rd w' B A' (bvs p) ∧ Blk w' g 100 #[.slice A n cap, .bool false] ∧ RS w' B A n cap false (some r)) ∧ w.grownBy w' (some g) := by
  refine (rtake_any 2 B g w c h hB hBg hu).mono ?_
  rintro e w' ⟨⟨A', cap', rfl, _, hrd⟩, hrc, hg⟩
  rw [hp] at hrd
  rw [hr] at hrc
  obtain ⟨A, n, cap, e, hb, rfl, h2⟩ := hrc
  rw [hp]
  exact ⟨⟨A', cap', A, n, cap, rfl, hrd, hb, rfl, h2⟩, hg⟩

set_option maxRecDepth 100000 in
set_option maxHeartbeats 1000000 in
theorem rint_len (B g : Nat) (c : Option L) (w : World) (h : RC w B g c) (hB : B ≤ w.heap.size) (hBg : B ≤ g) (hu : (c.getD []).length ≤ 100000) (p r : L) (hp : bodyC 2 c = some p) (hr : nextC 2 c = some r) (hn : numL p = none) (hl : p.length = 0 ∨ 9 < p.length) :
    Calls Tryz.prog 47 #[.pointer (some ⟨g, 0, none⟩)] w (Ints w B g c) := by
  have HT := Lib.hid (rtake_some B g c w h hB hBg hu p r hp hr)
  have HN := Lib.hid (show bodyC 2 c = none ∨ ∃ p, bodyC 2 c = some p ∧ numL p = none from .inr ⟨p, hp, hn⟩)
  have go : ∀ b1 b2 : Bool, ((p.length : Int) == 0) = b1 → decide ((9 : Int) < (p.length : Int)) = b2 → (b1 || b2) = true →
      Calls Tryz.prog 47 #[.pointer (some ⟨g, 0, none⟩)] w (Ints w B g c) := by
    intro b1 b2 g1 g2 hor
    clear h hB hBg hu hn hp hr hl
    cases b1 <;> cases b2 <;> first
      | (exact (Bool.false_ne_true hor).elim)
      | (clear hor
         go_enter Tryz.func47, Tryz.ntmps47
         go_wp2_with (go_at_call 95; refine HT.out.mono ?_; rintro e w1 ⟨⟨A', cap', A, n, cap, rfl, hrd, hb, hrs⟩, hg⟩
                      have HB := Lib.hid hb
                      have h1 : w1.cell? ⟨g, 1, none⟩ = some (.bool false) := hb.cell 1
                      have f1 := hb.frozen 1
                      clear hb hrs hrd)
         go_ret
         exact ints_err HB.out HN.out hg)
  refine go _ _ rfl rfl ?_
  rcases hl with hl | hl
  · simp [hl]
  · simp; omega

theorem val_take_small {p : L} (h : numL p ≠ none) (i : Nat) : val (p.take i) < 9223372036854775808 := by
  cases p with
  | nil => exact absurd rfl h
  | cons a r =>
    by_cases hc : 7 < r.length ∨ 128 ≤ a.toNat
    · exact absurd (numL_none (.inl hc)) h
    · exact val_take_lt (by omega) (by omega) i
theorem or_range (x y : Int) : -9223372036854775808 ≤ bits .or .i64 x y ∧ bits .or .i64 x y ≤ 9223372036854775807 := by
  show -9223372036854775808 ≤ IntKind.i64.wrap _ ∧ IntKind.i64.wrap _ ≤ 9223372036854775807
  rw [IntKind.wrap_i64]
  omega
theorem num_of_enc {p : L} {v : Int} (hp : p.length ≤ 65535) (h0 : 0 ≤ v) (h1 : v ≤ 4611686018427387904) (h : encI v = elem 2 p) : numL p = some v.toNat := by
  have e := elem_inj (t := 2) (p := dig (clampN v)) (q := p) (r1 := []) (r2 := []) (by have := encI_len v; omega) hp (by rw [List.append_nil, List.append_nil]; exact h)
  rw [← e.1, num_dig _ (clampN_le v), clampN_of v h0 h1]

set_option maxRecDepth 100000 in
set_option maxHeartbeats 1000000 in
theorem rint_body (B g : Nat) (c : Option L) (w : World) (h : RC w B g c) (hB : B ≤ w.heap.size) (hBg : B ≤ g) (hu : (c.getD []).length ≤ 100000) (p r : L) (hp : bodyC 2 c = some p) (hr : nextC 2 c = some r) (hl0 : p.length ≠ 0) (hl : p.length ≤ 9) :
    Calls Tryz.prog 47 #[.pointer (some ⟨g, 0, none⟩)] w (Ints w B g c) := by
  have HT := Lib.hid (rtake_some B g c w h hB hBg hu p r hp hr)
  have HP := Lib.hid hp
  have HRR := Lib.hid hr
  have HBB := Lib.hid hB
  have HBG := Lib.hid hBg
  have HL := Lib.hid hl
  have g1 : ((p.length : Int) == 0) = false := by simp only [beq_eq_false_iff_ne, ne_eq]; omega
  have g2 : decide ((9 : Int) < (p.length : Int)) = false := by simp; omega
  have hlu : (p.length : Int) ≤ 9 := by omega
  clear h hB hBg hu hp hr hl0 hl
  go_enter Tryz.func47, Tryz.ntmps47
  go_wp2_with (go_at_call 95; refine HT.out.mono ?_; rintro e w1 ⟨⟨A', cap', A, n, cap, rfl, hrd, hb, hrs⟩, hg⟩
               have HB := Lib.hid hb
               have HRD := Lib.hid hrd
               have HRS := Lib.hid hrs
               have h1 : w1.cell? ⟨g, 1, none⟩ = some (.bool false) := hb.cell 1
               have f1 := hb.frozen 1
               clear hb hrs hrd)
  go_loop [4, 5] (fun nv i => ∃ (j : Nat) (v : Int), j ≤ p.length ∧ i = .int .i64 (j : Int) ∧ nv = .int .i64 v ∧ -9223372036854775808 ≤ v ∧ v ≤ 9223372036854775807 ∧ (numL p ≠ none → v = (val (p.take j) : Int))) (fun _ i => p.length - (intOf i).toNat)
  case atStart => exact ⟨0, 0, by omega, rfl, rfl, by omega, by omega, fun _ => by simp [val]⟩
  case round =>
    obtain ⟨j, v, hj, rfl, rfl, hv0, hv1, hval⟩ := hrel
    have HV := Lib.hid hval
    clear hval
    by_cases hlt : j < p.length
    · obtain ⟨b, o, rfl, hbB, hcell⟩ := HRD.out.at_ (bvs_at hlt)
      have hc1 : w1.cell? ⟨b, o + j, none⟩ = some (.int .u8 ((p[j]).toNat : Int)) := hcell
      have hb255 := u8_le p[j]
      have HSN := Lib.hid (val_take_snoc p j hlt)
      have HSM := Lib.hid (val_take_small (p := p))
      have HLT := Lib.hid (p[j]).toNat_lt
      clear hcell
      go_wp2
      refine ⟨⟨j + 1, _, by omega, by go_num, rfl, (or_range _ _).1, (or_range _ _).2, fun hne => ?_⟩, by simp [intOf]; omega⟩
      have e1 := HV.out hne
      have e2 := HSM.out hne (j + 1)
      have e3 := HSN.out
      rw [e3] at e2 ⊢
      have e4 := or_low (val (p.take j)) (p[j]).toNat HLT.out (by omega)
      have e5 : wrap64 (v * 256) = ((val (p.take j) : Nat) : Int) * 256 := by
        rw [e1]; exact IntWalk.wrap64_in _ (by omega)
      rw [e5, e4]; omega
    · obtain rfl : j = p.length := by omega
      clear hj hlt
      rw [List.take_length] at HV
      by_cases hneg : v < 0
      · have g3 : decide (v < 0) = true := by simp only [decide_eq_true_eq]; omega
        have HN := Lib.hid (show bodyC 2 c = none ∨ ∃ p, bodyC 2 c = some p ∧ numL p = none from .inr ⟨p, HP.out, by
          cases hx : numL p with
          | none => rfl
          | some y => have := HV.out (by rw [hx]; simp); omega⟩)
        clear hneg
        go_wp2
        go_quiet (fail)
        go_wp2
        go_ret
        exact ints_err (HB.out.drewN _) HN.out (g_drewN hg _)
      · have g3 : decide (v < 0) = false := by simp only [decide_eq_false_iff_not]; omega
        by_cases hbig : 4611686018427387904 < v
        · have g4 : decide (4611686018427387904 < v) = true := by simp only [decide_eq_true_eq]; omega
          have HN := Lib.hid (show bodyC 2 c = none ∨ ∃ p, bodyC 2 c = some p ∧ numL p = none from .inr ⟨p, HP.out, by
            cases hx : numL p with
            | none => rfl
            | some y => have := HV.out (by rw [hx]; simp); have := (numL_some hx).1; have := (numL_some hx).2.1; omega⟩)
          clear hneg hbig
          go_wp2
          go_quiet (fail)
          go_wp2
          go_ret
          exact ints_err (HB.out.drewN _) HN.out (g_drewN hg _)
        · have g4 : decide (4611686018427387904 < v) = false := by simp only [decide_eq_false_iff_not]; omega
          by_cases heq : encI v = elem 2 p
          · have HEQ := Lib.hid heq
            have HNUM := Lib.hid (num_of_enc (by have := HL.out; omega) (by omega) (by omega) heq)
            have HV0 := Lib.hid (show ¬ v < 0 from hneg)
            clear heq
            go_wp2
            refine region_begin 15 rfl (by kernel_rfl) ?_
            refine take_op 0 (v := ?ve0) rfl (by kernel_rfl) (by kernel_rfl) (by kernel_rfl) (fun _ _ _ h => h) (by rfl) (fun w' hS => ?hye0) ?reste0
            case hye0 => go_simp; rfl
            simp only [Act.put, List.setIfInBounds_toArray, List.set_cons_zero, List.set_cons_succ]
            refine take_op 1 (v := ?ve1) rfl (by kernel_rfl) (by kernel_rfl) (by kernel_rfl) (fun _ _ _ h => h) (by rfl) (fun w' hS => ?hye1) ?reste1
            case hye1 => go_simp; rfl
            simp only [Act.put, List.setIfInBounds_toArray, List.set_cons_zero, List.set_cons_succ]
            refine take_op 2 (v := ?ve2) rfl (by kernel_rfl) (by kernel_rfl) (by kernel_rfl) (fun _ _ _ h => h) (by rfl) (fun w' hS => ?hye2) ?reste2
            case hye2 => go_simp; rfl
            simp only [Act.put, List.setIfInBounds_toArray, List.set_cons_zero, List.set_cons_succ]
            refine take_op 3 (v := ?ve3) rfl (by kernel_rfl) (by kernel_rfl) (by kernel_rfl) (fun _ _ _ h => h) (by rfl) (fun w' hS => ?hye3) ?reste3
            case hye3 => go_simp; rfl
            simp only [Act.put, List.setIfInBounds_toArray, List.set_cons_zero, List.set_cons_succ]
            refine take_op 4 (v := ?ve4) rfl (by kernel_rfl) (by kernel_rfl) (by kernel_rfl) (fun _ _ _ h => h) (by rfl) (fun w' hS => ?hye4) ?reste4
            case hye4 => go_simp; rfl
            simp only [Act.put, List.setIfInBounds_toArray, List.set_cons_zero, List.set_cons_succ]
            refine take_op 5 (v := ?ve5) rfl (by kernel_rfl) (by kernel_rfl) (by kernel_rfl) (fun _ _ _ h => h) (by rfl) (fun w' hS => ?hye5) ?reste5
            case hye5 => go_simp; rfl
            simp only [Act.put, List.setIfInBounds_toArray, List.set_cons_zero, List.set_cons_succ]
            refine take_op 6 (v := ?ve6) rfl (by kernel_rfl) (by kernel_rfl) (by kernel_rfl) (fun _ _ _ h => h) (by rfl) (fun w' hS => ?hye6) ?reste6
            case hye6 => go_simp; rfl
            simp only [Act.put, List.setIfInBounds_toArray, List.set_cons_zero, List.set_cons_succ]
            refine take_op 7 (v := ?ve7) rfl (by kernel_rfl) (by kernel_rfl) (by kernel_rfl) (fun _ _ _ h => h) (by rfl) (fun w' hS => ?hye7) ?reste7
            case hye7 => go_simp; rfl
            simp only [Act.put, List.setIfInBounds_toArray, List.set_cons_zero, List.set_cons_succ]
            refine take_op 10 (v := ?ve10) rfl (by kernel_rfl) (by kernel_rfl) (by kernel_rfl) (fun _ _ _ h => h) (by rfl) (fun w' hS => ?hye10) ?reste10
            case hye10 => go_simp; rfl
            simp only [Act.put, List.setIfInBounds_toArray, List.set_cons_zero, List.set_cons_succ]
            refine call_op 8 rfl (by kernel_rfl) (by rfl) 40 #[.int .i64 v] (by go_simp) ?_
            refine Calls.mono (DerR.int_any v w1.drew) ?_
            rintro e w2 ⟨⟨q2, d2, rfl, hq2, hd2, hrd2⟩, hb2⟩
            refine ⟨_, rfl, hb2, ?_⟩
            have HRD2 := Lib.hid hrd2
            have B2 : Below w1.heap.size w1 w2 := bt (Below.refl _ _).drew hb2
            clear hrd2
            simp only [Act.put, List.setIfInBounds_toArray, List.set_cons_zero, List.set_cons_succ]
            refine take_op 9 (v := ?ve9) rfl (by kernel_rfl) (by kernel_rfl) (by kernel_rfl) (fun _ _ _ h => h) (by rfl) (fun w' hS => ?hye9) ?reste9
            case hye9 => have hh := since_str (P := Tryz.prog) Tryz.underlying26 Tryz.underlying5 Tryz.underlying9 (n := (encI v).length) (c := d2) HRD2.out (Nat.le_refl _) rfl w' hS; go_simp; rfl
            simp only [Act.put, List.setIfInBounds_toArray, List.set_cons_zero, List.set_cons_succ]
            refine call_op 11 rfl (by kernel_rfl) (by rfl) 86 #[.int .u8 2, .slice A' p.length cap'] (by go_simp) ?_
            refine Calls.mono (DerR.elem_any 2 p A' p.length cap' B w2 (HRD.out.below (B2.mono (Nat.le_trans HBB.out hg.size))) rfl (Nat.le_trans (Nat.le_trans HBB.out hg.size) B2.size) (by have := HL.out; omega)) ?_
            rintro e w3 ⟨⟨q3, d3, rfl, hq3, hd3, hrd3⟩, hb3⟩
            refine ⟨_, rfl, hb3, ?_⟩
            have HRD3 := Lib.hid hrd3
            have B3 : Below w1.heap.size w1 w3 := bt B2 hb3
            clear hrd3
            rw [← HEQ.out] at HRD3
            rw [← HEQ.out]
            simp only [Act.put, List.setIfInBounds_toArray, List.set_cons_zero, List.set_cons_succ]
            refine take_op 12 (v := ?ve12) rfl (by kernel_rfl) (by kernel_rfl) (by kernel_rfl) (fun _ _ _ h => h) (by rfl) (fun w' hS => ?hye12) ?reste12
            case hye12 => have hh := since_str (P := Tryz.prog) Tryz.underlying26 Tryz.underlying5 Tryz.underlying9 (n := (encI v).length) (c := d3) HRD3.out (Nat.le_refl _) rfl w' hS; go_simp; rfl
            simp only [Act.put, List.setIfInBounds_toArray, List.set_cons_zero, List.set_cons_succ]
            refine take_op 13 (v := ?ve13) rfl (by kernel_rfl) (by kernel_rfl) (by kernel_rfl) (fun _ _ _ h => h) (by rfl) (fun w' hS => ?hye13) ?reste13
            case hye13 => go_simp; rfl
            simp only [Act.put, List.setIfInBounds_toArray, List.set_cons_zero, List.set_cons_succ]
            refine take_op 14 (v := ?ve14) rfl (by kernel_rfl) (by kernel_rfl) (by kernel_rfl) (fun _ _ _ h => h) (by rfl) (fun w' hS => ?hye14) ?reste14
            case hye14 => go_simp; rfl
            simp only [Act.put, List.setIfInBounds_toArray, List.set_cons_zero, List.set_cons_succ]
            refine wpAnyH_done (by kernel_rfl) ?_ _
            have hc1 := HRS.out
            have h1' : w3.cell? ⟨g, 1, none⟩ = some (.bool false) := (HB.out.below B3).cell 1
            go_wp2
            go_ret
            have hI : intC c = (v.toNat, some r) := by simp only [intC, HP.out, HNUM.out, HRR.out]
            unfold Ints
            rw [hI]
            have hv0' := HV0.out
            have hvv : ((v.toNat : Nat) : Int) = v := by omega
            exact ⟨by show Ending.returned (.int .i64 v) = .returned (.int .i64 ((v.toNat : Nat) : Int)); rw [hvv], ⟨A, n, cap, false, HB.out.below B3, rfl, HRS.out.2.1, HRS.out.2.2.1, HRS.out.2.2.2.below (B3.mono (Nat.le_trans HBB.out hg.size))⟩, g_then hg B3⟩
          · have HNE := Lib.hid heq
            have HN := Lib.hid (show bodyC 2 c = none ∨ ∃ p, bodyC 2 c = some p ∧ numL p = none from .inr ⟨p, HP.out, by
              cases hx : numL p with
              | none => rfl
              | some y =>
                have e1 := HV.out (by rw [hx]; simp)
                obtain ⟨e2, e3, _⟩ := numL_some hx
                refine absurd ?_ heq
                rw [encI, clampN_of v (by omega) (by omega), show v.toNat = y by omega, dig_num hx]⟩)
            have hbeq : (encI v == elem 2 p) = false := by simp only [beq_eq_false_iff_ne, ne_eq]; exact heq
            clear heq
            go_wp2
            refine region_begin 15 rfl (by kernel_rfl) ?_
            refine take_op 0 (v := ?vf0) rfl (by kernel_rfl) (by kernel_rfl) (by kernel_rfl) (fun _ _ _ h => h) (by rfl) (fun w' hS => ?hyf0) ?restf0
            case hyf0 => go_simp; rfl
            simp only [Act.put, List.setIfInBounds_toArray, List.set_cons_zero, List.set_cons_succ]
            refine take_op 1 (v := ?vf1) rfl (by kernel_rfl) (by kernel_rfl) (by kernel_rfl) (fun _ _ _ h => h) (by rfl) (fun w' hS => ?hyf1) ?restf1
            case hyf1 => go_simp; rfl
            simp only [Act.put, List.setIfInBounds_toArray, List.set_cons_zero, List.set_cons_succ]
            refine take_op 2 (v := ?vf2) rfl (by kernel_rfl) (by kernel_rfl) (by kernel_rfl) (fun _ _ _ h => h) (by rfl) (fun w' hS => ?hyf2) ?restf2
            case hyf2 => go_simp; rfl
            simp only [Act.put, List.setIfInBounds_toArray, List.set_cons_zero, List.set_cons_succ]
            refine take_op 3 (v := ?vf3) rfl (by kernel_rfl) (by kernel_rfl) (by kernel_rfl) (fun _ _ _ h => h) (by rfl) (fun w' hS => ?hyf3) ?restf3
            case hyf3 => go_simp; rfl
            simp only [Act.put, List.setIfInBounds_toArray, List.set_cons_zero, List.set_cons_succ]
            refine take_op 4 (v := ?vf4) rfl (by kernel_rfl) (by kernel_rfl) (by kernel_rfl) (fun _ _ _ h => h) (by rfl) (fun w' hS => ?hyf4) ?restf4
            case hyf4 => go_simp; rfl
            simp only [Act.put, List.setIfInBounds_toArray, List.set_cons_zero, List.set_cons_succ]
            refine take_op 5 (v := ?vf5) rfl (by kernel_rfl) (by kernel_rfl) (by kernel_rfl) (fun _ _ _ h => h) (by rfl) (fun w' hS => ?hyf5) ?restf5
            case hyf5 => go_simp; rfl
            simp only [Act.put, List.setIfInBounds_toArray, List.set_cons_zero, List.set_cons_succ]
            refine take_op 6 (v := ?vf6) rfl (by kernel_rfl) (by kernel_rfl) (by kernel_rfl) (fun _ _ _ h => h) (by rfl) (fun w' hS => ?hyf6) ?restf6
            case hyf6 => go_simp; rfl
            simp only [Act.put, List.setIfInBounds_toArray, List.set_cons_zero, List.set_cons_succ]
            refine take_op 7 (v := ?vf7) rfl (by kernel_rfl) (by kernel_rfl) (by kernel_rfl) (fun _ _ _ h => h) (by rfl) (fun w' hS => ?hyf7) ?restf7
            case hyf7 => go_simp; rfl
            simp only [Act.put, List.setIfInBounds_toArray, List.set_cons_zero, List.set_cons_succ]
            refine take_op 10 (v := ?vf10) rfl (by kernel_rfl) (by kernel_rfl) (by kernel_rfl) (fun _ _ _ h => h) (by rfl) (fun w' hS => ?hyf10) ?restf10
            case hyf10 => go_simp; rfl
            simp only [Act.put, List.setIfInBounds_toArray, List.set_cons_zero, List.set_cons_succ]
            refine call_op 8 rfl (by kernel_rfl) (by rfl) 40 #[.int .i64 v] (by go_simp) ?_
            refine Calls.mono (DerR.int_any v w1.drew) ?_
            rintro e w2 ⟨⟨q2, d2, rfl, hq2, hd2, hrd2⟩, hb2⟩
            refine ⟨_, rfl, hb2, ?_⟩
            have HRD2 := Lib.hid hrd2
            have B2 : Below w1.heap.size w1 w2 := bt (Below.refl _ _).drew hb2
            clear hrd2
            simp only [Act.put, List.setIfInBounds_toArray, List.set_cons_zero, List.set_cons_succ]
            refine take_op 9 (v := ?vf9) rfl (by kernel_rfl) (by kernel_rfl) (by kernel_rfl) (fun _ _ _ h => h) (by rfl) (fun w' hS => ?hyf9) ?restf9
            case hyf9 => have hh := since_str (P := Tryz.prog) Tryz.underlying26 Tryz.underlying5 Tryz.underlying9 (n := (encI v).length) (c := d2) HRD2.out (Nat.le_refl _) rfl w' hS; go_simp; rfl
            simp only [Act.put, List.setIfInBounds_toArray, List.set_cons_zero, List.set_cons_succ]
            refine call_op 11 rfl (by kernel_rfl) (by rfl) 86 #[.int .u8 2, .slice A' p.length cap'] (by go_simp) ?_
            refine Calls.mono (DerR.elem_any 2 p A' p.length cap' B w2 (HRD.out.below (B2.mono (Nat.le_trans HBB.out hg.size))) rfl (Nat.le_trans (Nat.le_trans HBB.out hg.size) B2.size) (by have := HL.out; omega)) ?_
            rintro e w3 ⟨⟨q3, d3, rfl, hq3, hd3, hrd3⟩, hb3⟩
            refine ⟨_, rfl, hb3, ?_⟩
            have HRD3 := Lib.hid hrd3
            have B3 : Below w1.heap.size w1 w3 := bt B2 hb3
            clear hrd3
            simp only [Act.put, List.setIfInBounds_toArray, List.set_cons_zero, List.set_cons_succ]
            refine take_op 12 (v := ?vf12) rfl (by kernel_rfl) (by kernel_rfl) (by kernel_rfl) (fun _ _ _ h => h) (by rfl) (fun w' hS => ?hyf12) ?restf12
            case hyf12 => have hh := since_str (P := Tryz.prog) Tryz.underlying26 Tryz.underlying5 Tryz.underlying9 (n := (elem 2 p).length) (c := d3) HRD3.out (Nat.le_refl _) rfl w' hS; go_simp; rfl
            simp only [Act.put, List.setIfInBounds_toArray, List.set_cons_zero, List.set_cons_succ]
            refine take_op 13 (v := ?vf13) rfl (by kernel_rfl) (by kernel_rfl) (by kernel_rfl) (fun _ _ _ h => h) (by rfl) (fun w' hS => ?hyf13) ?restf13
            case hyf13 => go_simp; rfl
            simp only [Act.put, List.setIfInBounds_toArray, List.set_cons_zero, List.set_cons_succ]
            refine take_op 14 (v := ?vf14) rfl (by kernel_rfl) (by kernel_rfl) (by kernel_rfl) (fun _ _ _ h => h) (by rfl) (fun w' hS => ?hyf14) ?restf14
            case hyf14 => go_simp; rfl
            simp only [Act.put, List.setIfInBounds_toArray, List.set_cons_zero, List.set_cons_succ]
            refine wpAnyH_done (by kernel_rfl) ?_ _
            have h1' : w3.cell? ⟨g, 1, none⟩ = some (.bool false) := (HB.out.below B3).cell 1
            have f1' := (HB.out.below B3).frozen 1
            go_wp2
            go_ret
            exact ints_err (HB.out.below B3) HN.out (g_then hg B3)

theorem rint_any (B g : Nat) (c : Option L) (w : World) (h : RC w B g c) (hB : B ≤ w.heap.size) (hBg : B ≤ g) (hu : (c.getD []).length ≤ 100000) :
    Calls Tryz.prog 47 #[.pointer (some ⟨g, 0, none⟩)] w (Ints w B g c) := by
  cases hp : bodyC 2 c with
  | none => exact rint_none B g c w h hB hBg hu hp
  | some p =>
    obtain ⟨r, hr⟩ : ∃ r, nextC 2 c = some r := by
      cases c with
      | none => simp [bodyC] at hp
      | some s =>
        cases hs : splitL 2 s with
        | none => rw [(body_none hs).1] at hp; cases hp
        | some x => exact ⟨_, (body_some (b := x.1) (r := x.2) hs).2⟩
    by_cases hl : p.length = 0 ∨ 9 < p.length
    · have hn : numL p = none := by
        cases hx : numL p with
        | none => rfl
        | some y => obtain ⟨_, _, h1, h2, _⟩ := numL_some hx; omega
      exact rint_len B g c w h hB hBg hu p r hp hr hn hl
    · exact rint_body B g c w h hB hBg hu p r hp hr (by omega) (by omega)

end Go.Proofs.YteeabfplnaknfaaGreat.DerR
end

section
set_option linter.unusedVariables false
namespace Go.Proofs.YteeabfplnaknfaaGreat.DerR
open Go.RowKit Go.Proofs.YteeabfplnaknfaaGreat.Mem Go.Proofs.YteeabfplnaknfaaGreat.DerP Go.Proofs.YteeabfplnaknfaaGreat.Reg

set_option maxRecDepth 100000 in
theorem roctets_any (B g : Nat) (c : Option L) (w : World) (h : RC w B g c) (hB : B ≤ w.heap.size) (hBg : B ≤ g) (hu : (c.getD []).length ≤ 100000) :
    Calls Tryz.prog 49 #[.pointer (some ⟨g, 0, none⟩)] w (Took w B g 4 c) := by
  have HT := Lib.hid (rtake_any 4 B g w c h hB hBg hu)
  clear h hB hBg hu
  go_enter Tryz.func49, Tryz.ntmps49
  go_wp2_with (go_at_call 95; refine HT.out.mono ?_; rintro e w1 ⟨⟨A', cap', rfl, hcap, hrd⟩, hrc, hg⟩)
  go_ret
  exact ⟨⟨A', cap', rfl, hcap, hrd⟩, hrc, hg⟩

set_option maxRecDepth 100000 in
theorem rtext_any (B g : Nat) (c : Option L) (w : World) (h : RC w B g c) (hB : B ≤ w.heap.size) (hBg : B ≤ g) (hu : (c.getD []).length ≤ 100000) :
    Calls Tryz.prog 64 #[.pointer (some ⟨g, 0, none⟩)] w fun e w' => e = .returned (.string ⟨((bodyC 27 c).getD []).toArray⟩) ∧ RC w' B g (nextC 27 c) ∧ w.grownBy w' (some g) := by
  have HT := Lib.hid (rtake_any 27 B g w c h hB hBg hu)
  clear h hB hBg hu
  go_enter Tryz.func64, Tryz.ntmps64
  go_wp2_with (go_at_call 95; refine HT.out.mono ?_; rintro e w1 ⟨⟨A', cap', rfl, hcap, hrd⟩, hrc, hg⟩
               have hcv := run_bytes_str (P := Tryz.prog) w1 26 5 Tryz.underlying26 Tryz.underlying5 hrd ((bodyC 27 c).getD []).length cap' rfl 9 Tryz.underlying9)
  go_ret
  exact ⟨rfl, hrc, hg⟩

theorem body_next_some {t : UInt8} {c : Option L} {p : L} (h : bodyC t c = some p) : ∃ r, nextC t c = some r := by
  cases c with
  | none => simp [bodyC] at h
  | some s =>
    cases hs : splitL t s with
    | none => rw [(body_none hs).1] at h; cases h
    | some x => exact ⟨_, (body_some (b := x.1) (r := x.2) hs).2⟩

set_option maxRecDepth 100000 in
set_option maxHeartbeats 1000000 in
theorem rinto_any (t : UInt8) (B g : Nat) (c : Option L) (w : World) (h : RC w B g c) (hB : B ≤ w.heap.size) (hBg : B ≤ g) (hu : (c.getD []).length ≤ 100000) :
    Calls Tryz.prog 45 #[.pointer (some ⟨g, 0, none⟩), .int .u8 t.toNat] w fun e w' =>
      (∃ g', e = .returned (.pointer (some ⟨g', 0, none⟩)) ∧ w.heap.size ≤ g' ∧ RC w' B g' (bodyC t c)) ∧ RC w' B g (nextC t c) ∧ w.grownBy w' (some g) := by
  have HT := Lib.hid (rtake_any t B g w c h hB hBg hu)
  have HB := Lib.hid hB
  cases hb : bodyC t c with
  | none =>
    have hn := body_next t c hb
    unfold Took at HT
    rw [hb, hn] at HT
    rw [hn]
    clear h hB hBg hu hb hn
    go_enter Tryz.func45, Tryz.ntmps45
    go_wp2_with (go_at_call 95; refine HT.out.mono ?_; rintro e w1 ⟨⟨A', cap', rfl, hcap, hrd⟩, ⟨A, n, cap, e, hb, rfl⟩, hg⟩
                 have HBK := Lib.hid hb
                 have h1 : w1.cell? ⟨g, 1, none⟩ = some (.bool true) := hb.cell 1
                 clear hb)
    go_ret
    exact ⟨⟨_, rfl, hg.size, _, _, _, true, Blk.new w1 _ _, rfl⟩, ⟨A, n, cap, true, HBK.out.alloc _, rfl⟩, g_alloc hg _⟩
  | some p =>
    obtain ⟨r, hn⟩ := body_next_some hb
    unfold Took at HT
    rw [hb, hn] at HT
    rw [hn]
    clear h hB hBg hu hb hn
    go_enter Tryz.func45, Tryz.ntmps45
    go_wp2_with (go_at_call 95; refine HT.out.mono ?_; rintro e w1 ⟨⟨A', cap', rfl, hcap, hrd⟩, ⟨A, n, cap, e, hb, rfl, hrs⟩, hg⟩
                 have HBK := Lib.hid hb
                 have HRS := Lib.hid hrs
                 have HRD := Lib.hid hrd
                 have HCP := Lib.hid hcap
                 have h1 : w1.cell? ⟨g, 1, none⟩ = some (.bool false) := hb.cell 1
                 clear hb hrs hrd hcap)
    go_ret
    have hs := Nat.le_trans HB.out hg.size
    exact ⟨⟨_, rfl, hg.size, _, _, _, false, Blk.new w1 _ _, rfl, rfl, HCP.out, HRD.out.alloc hs _⟩, ⟨A, n, cap, false, HBK.out.alloc _, rfl, HRS.out.1, HRS.out.2.1, HRS.out.2.2.alloc hs _⟩, g_alloc hg _⟩

set_option maxRecDepth 100000 in
theorem rwhole_any (B g : Nat) (c : Option L) (w : World) (h : RC w B g c) : Calls Tryz.prog 96 #[.pointer (some ⟨g, 0, none⟩)] w fun e w' => e = .returned (.bool (DerC.wholeC c)) ∧ w = w' := by
  obtain ⟨A, n, cap, e, hb, hrs⟩ := h
  have h0 : w.cell? ⟨g, 0, none⟩ = some (.slice A n cap) := hb.cell 0
  have h1 : w.cell? ⟨g, 1, none⟩ = some (.bool e) := hb.cell 1
  cases c with
  | none =>
    obtain rfl : e = true := hrs
    clear hb
    go_enter Tryz.func96, Tryz.ntmps96
    go_wp2
    go_ret
    exact ⟨rfl, rfl⟩
  | some l =>
    obtain ⟨rfl, hn, _⟩ := hrs
    clear hb
    by_cases hz : n = 0
    · have hl : DerC.wholeC (some l) = true := by
        have : l = [] := List.length_eq_zero_iff.1 (by omega)
        subst this; rfl
      subst hz
      rw [hl]
      clear hl hn
      go_enter Tryz.func96, Tryz.ntmps96
      go_wp2
      go_ret
      exact ⟨rfl, rfl⟩
    · have hl : DerC.wholeC (some l) = false := by
        cases l with
        | nil => exact absurd hn hz
        | cons a r => rfl
      have g0 : ((n : Int) == 0) = false := by simp only [beq_eq_false_iff_ne, ne_eq]; omega
      rw [hl]
      clear hl hn hz
      go_enter Tryz.func96, Tryz.ntmps96
      go_wp2
      go_ret
      exact ⟨rfl, rfl⟩

end Go.Proofs.YteeabfplnaknfaaGreat.DerR
end

section
set_option linter.unusedVariables false
namespace Go.Proofs.YteeabfplnaknfaaGreat.Nm
open Go.RowKit Go.Proofs.YteeabfplnaknfaaGreat.Mem
attribute [local go_sem] mk_at List.getElem_cons_zero List.getElem_cons_succ ext_tail ext_drop ext_mid ext_take

theorem Drawn.trans {a b c : World} (h : Drawn a b) (k : Drawn b c) : Drawn a c := by
  obtain ⟨n, rfl⟩ := h
  obtain ⟨m, rfl⟩ := k
  exact ⟨n + m, by simp [World.drewN_drewN]⟩

set_option maxHeartbeats 800000 in
theorem arelabels_any (l : L) (b : UInt8) (w : World) (hs : l.length ≤ 1000000000) : Calls Tryz.prog 144 #[.string ⟨l.toArray⟩, .string ⟨#[b]⟩] w fun e w' => e = .returned (.bool (areL b 4 l)) ∧ Drawn w w' := by
  have HS := Lib.hid hs; clear hs
  go_enter Tryz.func144, Tryz.ntmps144
  go_wp2
  go_loopw [0, 8] (fun sv iv wr => ∃ (k : Nat) (s : L), k ≤ 4 ∧ sv = .string ⟨s.toArray⟩ ∧ iv = .int .i64 (k : Int) ∧ areL b (4 - k) s = areL b 4 l ∧ s.length ≤ l.length ∧ Drawn w wr) (fun _ iv _ => 4 - (intOf iv).toNat)
  case atStart => exact ⟨0, l, by omega, rfl, rfl, rfl, Nat.le_refl _, Drawn.refl _⟩
  case round =>
    obtain ⟨k, s, hk, rfl, rfl, ha, hl, hd⟩ := hrel
    have HL := Lib.hid hl; clear hl
    have HD := Lib.hid hd; clear hd
    by_cases hlt : k < 4
    · have e1 : (k : Int) < 4 := by omega
      have hsl : s.length ≤ 1000000000 := Nat.le_trans HL.out HS.out
      have c1 := cut_one s b wr hsl
      have c2 := fun w1 => isword_cap (bef b s) w1 (by have := bef_len b s; omega)
      have C2 := Lib.hid c2; clear c2
      have ea : areL b (4 - k) s = (wordL capB (bef b s) && (if hasC b s then areL b (4 - (k + 1)) (aft b s) else true)) := by
        rw [show 4 - k = (4 - (k + 1)) + 1 by omega]; rfl
      rw [ea] at ha
      have hal : (aft b s).length ≤ l.length := by have := aft_len b s; have := HL.out; omega
      have HAL := Lib.hid hal; clear hal ea hsl
      cases hw : wordL capB (bef b s) with
      | false =>
        rw [hw, Bool.false_and] at ha
        have HA := Lib.hid ha; clear ha
        have HW := Lib.hid hw; clear hw
        go_wp2_with (first
          | (go_at_call 148; refine Calls.mono c1 ?_; rintro e w1 ⟨rfl, hd⟩; clear c1; have c2 := C2.out w1; rw [HW.out] at c2; have H1 := Lib.hid hd; clear hd)
          | (go_at_call 126; refine Calls.mono c2 ?_; rintro e w2 ⟨rfl, rfl⟩; clear c2))
        go_ret
        exact ⟨by rw [← HA.out]; rfl, HD.out.trans H1.out⟩
      | true =>
        rw [hw, Bool.true_and] at ha
        have HW := Lib.hid hw; clear hw
        cases hc : hasC b s with
        | false =>
          rw [hc, if_neg (by simp)] at ha
          rw [hc] at c1
          have HA := Lib.hid ha; clear ha
          have HC := Lib.hid hc; clear hc
          go_wp2_with (first
            | (go_at_call 148; refine Calls.mono c1 ?_; rintro e w1 ⟨rfl, hd⟩; clear c1; have c2 := C2.out w1; rw [HW.out] at c2; have H1 := Lib.hid hd; clear hd)
            | (go_at_call 126; refine Calls.mono c2 ?_; rintro e w2 ⟨rfl, rfl⟩; clear c2))
          go_ret
          exact ⟨by rw [← HA.out]; rfl, HD.out.trans H1.out⟩
        | true =>
          rw [hc, if_pos rfl] at ha
          rw [hc] at c1
          have HA := Lib.hid ha; clear ha
          have HC := Lib.hid hc; clear hc
          go_wp2_with (first
            | (go_at_call 148; refine Calls.mono c1 ?_; rintro e w1 ⟨rfl, hd⟩; clear c1; have c2 := C2.out w1; rw [HW.out] at c2; have H1 := Lib.hid hd; clear hd)
            | (go_at_call 126; refine Calls.mono c2 ?_; rintro e w2 ⟨rfl, rfl⟩; clear c2))
          go_roundw
          case rel => exact ⟨k + 1, aft b s, by omega, rfl, by go_num, HA.out, HAL.out, HD.out.trans H1.out⟩
          case measure => simp [intOf]; omega
    · have e1 : ¬ (k : Int) < 4 := by omega
      obtain rfl : k = 4 := by omega
      have HA := Lib.hid (show areL b 4 l = false by rw [← ha]; rfl); clear ha
      go_wp2
      go_ret
      exact ⟨by rw [HA.out]; rfl, HD.out⟩

theorem sl_pre (l : L) : slL l = (preL [47] l && labsL (split 47 (cpL [47] l))) := by
  cases l with
  | nil => rfl
  | cons x r =>
    rw [slL, cpL]
    by_cases h : x = 47
    · subst h
      have e : preL [47] (47 :: r) = true := by simp [preL]
      rw [e]; simp
    · have e : preL [47] (x :: r) = false := by
        cases q : preL [47] (x :: r) with
        | false => rfl
        | true => have := congrArg List.head? (pre_iff.1 q); simp at this; exact absurd this h
      rw [e]; simp [h]
theorem cp_len (p l : L) : (cpL p l).length ≤ l.length := by rw [cpL]; split <;> simp

set_option maxHeartbeats 800000 in
theorem kind_any (l : L) (w : World) (hs : l.length ≤ 1000000000) : Calls Tryz.prog 136 #[.string ⟨l.toArray⟩] w fun e w' => e = .returned (.int .i64 (kindL l : Int)) ∧ Drawn w w' := by
  have c1 := arelabels_any l 46 w hs
  rw [areL_labs] at c1
  have C2 := Lib.hid (fun w1 => cutprefix_any l [47] w1 hs (by decide))
  have c3 := fun w1 => arelabels_any (cpL [47] l) 47 w1 (by have := cp_len [47] l; omega)
  rw [areL_labs] at c3
  have C3 := Lib.hid c3; clear c3 hs
  have ek := kind_order l
  rw [sl_pre] at ek
  cases h1 : labsL (split 46 l) with
  | true =>
    rw [h1] at c1
    have E := Lib.hid (show kindL l = 1 by rw [ek, h1]; rfl); clear ek h1
    go_enter Tryz.func136, Tryz.ntmps136
    go_wp2_with (go_at_call 144; refine Calls.mono c1 ?_; rintro e w1 ⟨rfl, hd⟩; clear c1; have H1 := Lib.hid hd; clear hd)
    go_ret
    exact ⟨by rw [E.out]; rfl, H1.out⟩
  | false =>
    rw [h1] at c1
    rw [h1, if_neg (by simp)] at ek
    cases h2 : preL [47] l with
    | false =>
      have E := Lib.hid (show kindL l = 0 by rw [ek, h2]; rfl)
      have H2 := Lib.hid h2
      clear ek h1 h2
      go_enter Tryz.func136, Tryz.ntmps136
      go_wp2_with (first
        | (go_at_call 144; refine Calls.mono c1 ?_; rintro e w1 ⟨rfl, hd⟩; clear c1; have H1 := Lib.hid hd; clear hd; have c2 := C2.out w1; rw [H2.out] at c2)
        | (go_at_call 137; refine Calls.mono c2 ?_; rintro e w2 ⟨rfl, rfl⟩; clear c2))
      go_ret
      exact ⟨by rw [E.out]; rfl, H1.out⟩
    | true =>
      rw [h2, Bool.true_and] at ek
      have H2 := Lib.hid h2
      cases h3 : labsL (split 47 (cpL [47] l)) with
      | false =>
        have E := Lib.hid (show kindL l = 0 by rw [ek, h3]; rfl)
        have H3 := Lib.hid h3
        clear ek h1 h2 h3
        go_enter Tryz.func136, Tryz.ntmps136
        go_wp2_with (first
          | (go_at_call 144; refine Calls.mono c1 ?_; rintro e w1 ⟨rfl, hd⟩; clear c1; have H1 := Lib.hid hd; clear hd; have c2 := C2.out w1; rw [H2.out] at c2)
          | (go_at_call 137; refine Calls.mono c2 ?_; rintro e w2 ⟨rfl, rfl⟩; clear c2; have c4 := C3.out w1; rw [H3.out] at c4)
          | (go_at_call 144; refine Calls.mono c4 ?_; rintro e w3 ⟨rfl, hd⟩; clear c4; have H4 := Lib.hid hd; clear hd))
        go_ret
        exact ⟨by rw [E.out]; rfl, H1.out.trans H4.out⟩
      | true =>
        have E := Lib.hid (show kindL l = 2 by rw [ek, h3]; rfl)
        have H3 := Lib.hid h3
        clear ek h1 h2 h3
        go_enter Tryz.func136, Tryz.ntmps136
        go_wp2_with (first
          | (go_at_call 144; refine Calls.mono c1 ?_; rintro e w1 ⟨rfl, hd⟩; clear c1; have H1 := Lib.hid hd; clear hd; have c2 := C2.out w1; rw [H2.out] at c2)
          | (go_at_call 137; refine Calls.mono c2 ?_; rintro e w2 ⟨rfl, rfl⟩; clear c2; have c4 := C3.out w1; rw [H3.out] at c4)
          | (go_at_call 144; refine Calls.mono c4 ?_; rintro e w3 ⟨rfl, hd⟩; clear c4; have H4 := Lib.hid hd; clear hd))
        go_ret
        exact ⟨by rw [E.out]; rfl, H1.out.trans H4.out⟩

theorem is_any (l : L) (w : World) (hs : l.length ≤ 1000000000) : Calls Tryz.prog 124 #[.string ⟨l.toArray⟩] w fun e w' => e = .returned (.bool (isL l)) ∧ Drawn w w' := by
  have c1 := kind_any l w hs
  by_cases h : 1 ≤ kindL l
  · have E := Lib.hid (show isL l = true by simp [isL, h])
    have t : ((kindL l : Int) != 0) = true := by simp; omega
    clear h
    go_enter Tryz.func124, Tryz.ntmps124
    go_wp2_with (go_at_call 136; refine Calls.mono c1 ?_; rintro e w1 ⟨rfl, hd⟩; clear c1; have H1 := Lib.hid hd; clear hd)
    go_ret
    exact ⟨by rw [E.out]; rfl, H1.out⟩
  · have E := Lib.hid (show isL l = false by simp [isL]; omega)
    have e0 : kindL l = 0 := by omega
    rw [e0] at c1
    clear h e0
    go_enter Tryz.func124, Tryz.ntmps124
    go_wp2_with (go_at_call 136; refine Calls.mono c1 ?_; rintro e w1 ⟨rfl, hd⟩; clear c1; have H1 := Lib.hid hd; clear hd)
    go_ret
    exact ⟨by rw [E.out]; rfl, H1.out⟩
end Go.Proofs.YteeabfplnaknfaaGreat.Nm
end

section
set_option linter.unusedVariables false
namespace Go.Proofs.YteeabfplnaknfaaGreat.Nm
open Go.RowKit Go.Proofs.YteeabfplnaknfaaGreat.Mem

def st (l : L) : Value := .string ⟨l.toArray⟩
def strs (ls : List L) : List Value := ls.map st
theorem strs_length (ls : List L) : (strs ls).length = ls.length := by simp [strs]
theorem strs_append (ls ms : List L) : strs (ls ++ ms) = strs ls ++ strs ms := by simp [strs]
theorem strs_one (ls : List L) : ∀ u ∈ strs ls, u.oneCell' = true := by
  intro u hu
  obtain ⟨b, _, rfl⟩ := List.mem_map.1 hu
  rfl
theorem strs_at {ls : List L} {i : Nat} (h : i < ls.length) : (strs ls)[i]? = some (st (pl ls i)) := by
  rw [strs, List.getElem?_map, List.getElem?_eq_getElem h, pl_lt h]; rfl
theorem str_info : (Tryz.prog.info? 9).map (fun i => (i.zero, i.size, i.bytes)) = some (some (.string ⟨#[]⟩), 1, 16) := by kernel_rfl

def Own (w : World) (base : Nat) (v : Value) (ls : List L) : Prop := w.ownsRow base 9 1 v ls.length (strs ls)
theorem Own.nil (w : World) (base : Nat) : Own w base (.slice none 0 0) [] := World.ownsRow_nil w base _ 1
theorem Own.below {w w' : World} {base : Nat} {v : Value} {ls : List L} (h : Own w base v ls) (hb : Below w.heap.size w w') : Own w' base v ls := own_kept h hb
theorem Own.slice {w : World} {base : Nat} {v : Value} {ls : List L} (h : Own w base v ls) : ∃ A c, v = .slice A ls.length c ∧ Rd w w.heap.size A (strs ls) := by
  have h' := h
  rcases h.2 with ⟨h1, h2⟩ | ⟨g, cap, cur, h1, _⟩
  · have e : ls = [] := List.eq_nil_of_length_eq_zero h2
    subst e
    exact ⟨none, 0, h1, .inl rfl⟩
  · subst h1
    exact ⟨_, cap, rfl, Rd.of_own (n := ls.length) (cap := cap) h'⟩
theorem Own.lt {w : World} {base : Nat} {v : Value} {ls : List L} (h : Own w base v ls) : ∀ k, v.ownBlock = some k → base ≤ k ∧ k < w.heap.size := World.ownsRow.lt h
theorem rd_txt {w : World} {B : Nat} {A : Option Addr} {ls : List L} (h : Rd w B A (strs ls)) {i : Nat} (hi : i < ls.length) : ∃ b o, A = some ⟨b, o, none⟩ ∧ b < B ∧ w.cell? ⟨b, o + i, none⟩ = some (.string ⟨(pl ls i).toArray⟩) :=
  h.at_ (strs_at hi)

section
variable {w : World} {ops : Array Oper} {rest : List Oper} {o : Oper} {a : Act} {Q : Exit → Act → World → Prop}
theorem app_rd (hgd : o.guard = none) (s x : Operand) (ho : o.op = .call { callee := .builtin .append, args := #[s, x], argTypes := #[172, 172] })
    (base : Nat) (v : Value) (ls : List L) (hs : a.eval s = v) (hown : Own w base v ls) (B : Nat) (A : Option Addr) (c : Nat) (ms : List L) (hx : a.eval x = .slice A ms.length c) (hr : Rd w B A (strs ms))
    (hl : ls.length + ms.length ≤ 8000000000000) (hb : base ≤ w.heap.size)
    (h : ∀ v' w', Own w' base v' (ls ++ ms) → Below base w w' → wpList Tryz.prog ops Q rest (a.put o.dst v') w') : wpList Tryz.prog ops Q (o :: rest) a w := by
  obtain ⟨i0, hi0, hz0, hs0, hb0⟩ := info_parts str_info
  refine wpList_append_rd w hgd s x 172 ho base 9 i0 _ 16 Tryz.underlying172 hi0 hz0 hs0 hb0 rfl v ls.length (strs ls) hs hown B A ms.length c (strs ms) hx (strs_length _).symm hr (strs_one _) (by unfold maxLen; omega) (by omega) hb ?_
  intro v' w' h1 h2 _
  refine h v' w' (by rw [Own, List.length_append, strs_append]; exact h1) ?_
  exact (Below.refl _ _).grown h2 hb (fun k hk => (hown.lt k hk).1)
theorem app_one (hgd : o.guard = none) (s x : Operand) (ho : o.op = .call { callee := .builtin .append, args := #[s, x], argTypes := #[172, 172] })
    (base : Nat) (v : Value) (ls : List L) (hs : a.eval s = v) (hown : Own w base v ls) (r : L) (hx : a.eval x = .slice (some ⟨w.heap.size, 0, none⟩) 1 1)
    (hl : ls.length + 1 ≤ 8000000000000) (hb : base ≤ w.heap.size)
    (h : ∀ v' w', Own w' base v' (ls ++ [r]) → Below base w w' → wpList Tryz.prog ops Q rest (a.put o.dst v') w') : wpList Tryz.prog ops Q (o :: rest) a (w.alloc (.cells #[.string ⟨r.toArray⟩] 9)) := by
  refine app_rd hgd s x ho base v ls hs (hown.below ((Below.refl _ _).alloc (Nat.le_refl _) _)) (w.heap.size + 1) _ 1 [r] hx ?_ hl (by simp; omega) ?_
  · refine .inr ⟨w.heap.size, 0, rfl, by omega, fun i u hu => ?_⟩
    cases i with
    | zero =>
      simp only [strs, List.map_cons, List.map_nil, List.getElem?_cons_zero, Option.some.injEq] at hu
      subst hu
      exact (Blk.new w 9 _).cell 0
    | succ i => simp [strs] at hu
  · intro v' w' h1 h2
    exact h v' w' h1 (((Below.refl _ _).alloc hb _).trans h2)
end

theorem Own.drew {w : World} {base : Nat} {v : Value} {ls : List L} (h : Own w base v ls) : Own w.drew base v ls := h
end Go.Proofs.YteeabfplnaknfaaGreat.Nm
end

section
set_option linter.unusedVariables false
namespace Go.Proofs.YteeabfplnaknfaaGreat.Nm
open Go.RowKit Go.Proofs.YteeabfplnaknfaaGreat.Mem
attribute [local go_sem] mk_at List.getElem_cons_zero List.getElem_cons_succ ext_tail ext_drop ext_mid ext_take

def krb : L := [107, 114, 98, 116, 103, 116, 47]
def tgL (n : L) : Bool := preL krb n && isL (cpL krb n)
def tgR (n : L) : L := if tgL n then n.drop 7 else []
def princL (r n : L) : Bool := isL r && (tgL n || wordL wordB n)
set_option maxHeartbeats 800000 in
theorem target_any (n : L) (w : World) (hs : n.length ≤ 1000000000) : Calls Tryz.prog 125 #[.string ⟨n.toArray⟩] w fun e w' => e = .returned (.tuple #[.string ⟨(tgR n).toArray⟩, .bool (tgL n)]) ∧ Below w.heap.size w w' := by
  have c1 := cutprefix_any n krb w hs (by decide)
  have hcl := cp_len krb n
  have c2 := is_any (cpL krb n) w (by omega)
  have C3 := Lib.hid (fun w1 => clone_any (cpL krb n) w1 (by omega))
  have HB0 := Lib.hid (Below.refl w.heap.size w)
  cases h1 : preL krb n with
  | false =>
    have E1 := Lib.hid (show tgL n = false by rw [tgL, h1]; rfl)
    have E2 := Lib.hid (show tgR n = [] by rw [tgR, E1.out]; rfl)
    rw [h1] at c1
    clear h1 hs hcl c2
    go_enter Tryz.func125, Tryz.ntmps125
    go_wp2_with (go_at_call 137; refine Calls.mono c1 ?_; rintro e w1 ⟨rfl, rfl⟩; clear c1)
    go_ret2
    exact ⟨by rw [E1.out, E2.out]; rfl, HB0.out⟩
  | true =>
    cases h2 : isL (cpL krb n) with
    | false =>
      have E1 := Lib.hid (show tgL n = false by rw [tgL, h1, h2]; rfl)
      have E2 := Lib.hid (show tgR n = [] by rw [tgR, E1.out]; rfl)
      rw [h1] at c1
      rw [h2] at c2
      clear h1 h2 hs hcl
      go_enter Tryz.func125, Tryz.ntmps125
      go_wp2_with (first
        | (go_at_call 137; refine Calls.mono c1 ?_; rintro e w1 ⟨rfl, rfl⟩; clear c1)
        | (go_at_call 124; refine Calls.mono c2 ?_; rintro e w2 ⟨rfl, hd⟩; clear c2; have H2 := Lib.hid hd.below; clear hd))
      go_ret2
      exact ⟨by rw [E1.out, E2.out]; rfl, H2.out⟩
    | true =>
      have E1 := Lib.hid (show tgL n = true by rw [tgL, h1, h2]; rfl)
      have E2 := Lib.hid (show tgR n = cpL krb n by rw [tgR, E1.out, cpL, h1]; rfl)
      rw [h1] at c1
      rw [h2] at c2
      clear h1 h2 hs hcl
      go_enter Tryz.func125, Tryz.ntmps125
      go_wp2_with (first
        | (go_at_call 137; refine Calls.mono c1 ?_; rintro e w1 ⟨rfl, rfl⟩; clear c1)
        | (go_at_call 124; refine Calls.mono c2 ?_; rintro e w2 ⟨rfl, hd⟩; clear c2; have H2 := Lib.hid hd.below; clear hd; have c3 := C3.out w2)
        | (go_at_call 130; refine Calls.mono c3 ?_; rintro e w3 ⟨rfl, hb⟩; clear c3; have H3 := Lib.hid (H2.out.trans (hb.mono H2.out.size)); clear hb))
      go_ret2
      exact ⟨by rw [E1.out, E2.out]; rfl, H3.out⟩

set_option maxHeartbeats 800000 in
theorem isprinc_any (r n : L) (w : World) (hs : r.length ≤ 1000000000) (hs2 : n.length ≤ 1000000000) : Calls Tryz.prog 100 #[.agg #[.string ⟨r.toArray⟩, .string ⟨n.toArray⟩]] w fun e w' => e = .returned (.bool (princL r n)) ∧ Below w.heap.size w w' := by
  have c1 := is_any r (w.alloc (.cells #[.string ⟨r.toArray⟩, .string ⟨n.toArray⟩] 23)) hs
  have hk := Blk.new w 23 #[.string ⟨r.toArray⟩, .string ⟨n.toArray⟩]
  have hb0 := (Below.refl w.heap.size w).alloc (Nat.le_refl _) (.cells #[.string ⟨r.toArray⟩, .string ⟨n.toArray⟩] 23)
  have hsz : w.heap.size < (w.alloc (.cells #[.string ⟨r.toArray⟩, .string ⟨n.toArray⟩] 23)).heap.size := by simp
  obtain ⟨N, eN⟩ : ∃ N, N = w.heap.size := ⟨_, rfl⟩
  have C2 := Lib.hid (fun w1 => target_any n w1 hs2)
  have C3 := Lib.hid (fun w1 => isword_sd n w1 hs2)
  have E1 := Lib.hid (show princL r n = (isL r && (tgL n || wordL wordB n)) from rfl)
  rw [← eN] at hk hb0 hsz ⊢
  have EN := Lib.hid eN; clear eN
  have HK := Lib.hid hk; clear hk
  have HB0 := Lib.hid hb0; clear hb0
  have HSZ := Lib.hid hsz; clear hsz hs hs2
  cases h1 : isL r with
  | false =>
    rw [h1] at c1
    have E := Lib.hid (show princL r n = false by rw [E1.out, h1]; rfl)
    clear h1
    go_enter Tryz.func100, Tryz.ntmps100
    go_wp2_with (go_at_call 124; refine Calls.mono c1 ?_; rintro e w1 ⟨rfl, hd⟩; clear c1; have H1 := Lib.hid (HB0.out.trans (hd.below.mono (Nat.le_of_lt HSZ.out))); clear hd)
    go_ret
    exact ⟨by rw [E.out]; rfl, H1.out⟩
  | true =>
    rw [h1] at c1
    have C2' := Lib.hid (fun w1 => C2.out w1)
    cases h2 : tgL n with
    | true =>
      have E := Lib.hid (show princL r n = true by rw [E1.out, h1, h2]; rfl)
      have HT := Lib.hid h2
      clear h1 h2
      go_enter Tryz.func100, Tryz.ntmps100
      go_wp2_with (first
        | (go_at_call 124; refine Calls.mono c1 ?_; rintro e w1 ⟨rfl, hd⟩; clear c1; have H1 := Lib.hid (HB0.out.trans (hd.below.mono (Nat.le_of_lt HSZ.out))); have hk1 := (HK.out.below hd.below).cell 1; have hs1 : N < w1.heap.size := (by have := hd.below.size; have := HSZ.out; omega); have HS1 := Lib.hid hs1; rw [EN.out] at hk1; clear hd hs1; have c2 := C2.out w1; rw [HT.out] at c2)
        | (go_at_call 125; refine Calls.mono c2 ?_; rintro e w2 ⟨rfl, hb⟩; clear c2; have H2 := Lib.hid (H1.out.trans (hb.mono (Nat.le_of_lt HS1.out))); clear hb))
      go_ret
      exact ⟨by rw [E.out]; rfl, H2.out⟩
    | false =>
      have E := Lib.hid (show princL r n = wordL wordB n by rw [E1.out, h1, h2]; rfl)
      have HT := Lib.hid h2
      clear h1 h2
      go_enter Tryz.func100, Tryz.ntmps100
      go_wp2_with (first
        | (go_at_call 124; refine Calls.mono c1 ?_; rintro e w1 ⟨rfl, hd⟩; clear c1; have H1 := Lib.hid (HB0.out.trans (hd.below.mono (Nat.le_of_lt HSZ.out))); have hkk := HK.out.below hd.below; have HKK := Lib.hid hkk; have hk1 := hkk.cell 1; have hs1 : N < w1.heap.size := (by have := hd.below.size; have := HSZ.out; omega); have HS1 := Lib.hid hs1; rw [EN.out] at hk1; clear hd hs1 hkk; have c2 := C2.out w1; rw [HT.out] at c2)
        | (go_at_call 125; refine Calls.mono c2 ?_; rintro e w2 ⟨rfl, hb⟩; clear c2 hk1; have H2 := Lib.hid (H1.out.trans (hb.mono (Nat.le_of_lt HS1.out))); have hk2 := (HKK.out.below hb).cell 1; rw [EN.out] at hk2; clear hb; have c3 := C3.out w2)
        | (go_at_call 126; refine Calls.mono c3 ?_; rintro e w3 ⟨rfl, rfl⟩; clear c3))
      go_ret
      exact ⟨by rw [E.out]; rfl, H2.out⟩
end Go.Proofs.YteeabfplnaknfaaGreat.Nm
end

section
set_option linter.unusedVariables false
namespace Go.Proofs.YteeabfplnaknfaaGreat.Nm
open Go.RowKit Go.Proofs.YteeabfplnaknfaaGreat.Mem
theorem ext_rng (l : List UInt8) (f k : Nat) : (ByteArray.mk l.toArray).extract f k = ByteArray.mk ((l.drop f).take (k - f)).toArray := by
  rw [ByteArray.extract_mk]
attribute [local go_sem] mk_at List.getElem_cons_zero List.getElem_cons_succ ext_rng

def piece (l : L) (f k : Nat) : L := (l.drop f).take (k - f)
theorem piece_cut {l : L} {f k : Nat} (hf : f ≤ k) (hk : k < l.length) : l.drop f = piece l f k ++ l[k] :: l.drop (k + 1) := by
  have h1 : l.drop f = (l.drop f).take (k - f) ++ (l.drop f).drop (k - f) := (List.take_append_drop _ _).symm
  rw [List.drop_drop, show f + (k - f) = k by omega, List.drop_eq_getElem_cons hk] at h1
  exact h1
theorem piece_succ {l : L} {f k : Nat} (hf : f ≤ k) (hk : k < l.length) : piece l f (k + 1) = piece l f k ++ [l[k]] := by
  have h := piece_cut hf hk
  have hl : (piece l f k).length = k - f := by rw [piece, List.length_take, List.length_drop]; omega
  rw [piece, h, show k + 1 - f = (piece l f k).length + 1 by omega, List.take_append, List.take_of_length_le (by omega), Nat.add_sub_cancel_left]
  rfl
theorem piece_all {l : L} {f : Nat} : piece l f l.length = l.drop f := by rw [piece, List.take_of_length_le (by simp)]
theorem split_le (c : UInt8) (l : L) : (split c l).length ≤ l.length + 1 := by
  induction l with
  | nil => simp [split]
  | cons x r ih =>
    rw [split]; split
    · simp; omega
    · split <;> simp_all <;> omega

set_option maxHeartbeats 1600000 in
set_option maxRecDepth 100000 in
theorem split_any (l : L) (c : UInt8) (w : World) (hs : l.length ≤ 1000000000) : Calls Tryz.prog 142 #[.string ⟨l.toArray⟩, .int .u8 (c.toNat : Int)] w fun e w' => ∃ v, e = .returned v ∧ Own w' w.heap.size v (split c l) ∧ Below w.heap.size w w' := by
  obtain ⟨N, eN⟩ : ∃ N, N = w.heap.size := ⟨_, rfl⟩
  rw [← eN]
  have HB0 := Lib.hid (show Below N w w by exact Below.refl _ _)
  have EN := Lib.hid eN; clear eN
  have HNE0 := Lib.hid (show ∀ w1 : World, Below N w w1 → N ≤ w1.heap.size from fun w1 h => by have := h.size; have := EN.out; omega)
  go_enter Tryz.func142, Tryz.ntmps142
  go_wp2
  go_loopw [5, 6, 7] (fun vv fv iv wr => ∃ (f k : Nat) (ls : List L), f ≤ k ∧ k ≤ l.length ∧ fv = .int .i64 (f : Int) ∧ iv = .int .i64 (k : Int) ∧ Own wr N vv ls ∧ c ∉ piece l f k ∧ ls ++ split c (l.drop f) = split c l ∧ ls.length ≤ f ∧ Below N w wr) (fun _ _ iv _ => l.length - (intOf iv).toNat)
  case atStart => exact ⟨0, 0, [], Nat.le_refl _, Nat.zero_le _, rfl, rfl, Own.nil _ _, by simp [piece], by simp, by simp, HB0.out⟩
  case round =>
    obtain ⟨f, k, ls, hf, hk, rfl, rfl, ho, hc, hsp, hll, hb⟩ := hrel
    have HO := Lib.hid ho; clear ho
    have HB := Lib.hid hb; clear hb
    have HC := Lib.hid hc; clear hc
    have HSP := Lib.hid hsp; clear hsp
    by_cases hlt : k < l.length
    · have e1 : (k : Int) < (l.length : Int) := by omega
      have hpc := piece_cut hf hlt
      have hps := piece_succ hf hlt
      by_cases hx : l[k] = c
      · have t1 : ((l[k].toNat : Int) == (c.toNat : Int)) = true := by simp [hx]
        have hn : (ls ++ [piece l f k]) ++ split c (l.drop (k + 1)) = split c l := by
          rw [← HSP.out, hpc, hx, split_head HC.out]; simp
        have HN := Lib.hid hn; clear hn hpc hps hx
        have e2 : (f : Int) ≤ (k : Int) := by omega
        go_wp2_with (at_builtin; refine app_one rfl (.tmp 19) (.tmp 24) rfl N _ ls rfl HO.out (piece l f k) rfl (by omega) (HNE0.out _ HB.out) ?_; intro v' w3 ho3 hb3; have H3 := Lib.hid (HB.out.trans hb3); have HO3 := Lib.hid ho3; clear ho3 hb3)
        go_roundw
        case rel => exact ⟨k + 1, k + 1, _, Nat.le_refl _, by omega, by go_num, by go_num, HO3.out, by simp [piece], HN.out, by simp; omega, H3.out⟩
        case measure => simp [intOf]; omega
      · have t1 : ((l[k].toNat : Int) == (c.toNat : Int)) = false := by
          simp only [beq_eq_false_iff_ne, ne_eq]
          intro q
          exact hx (UInt8.toNat_inj.1 (by omega))
        have HC1 := Lib.hid (show c ∉ piece l f (k + 1) by
          rw [hps, List.mem_append, not_or]
          exact ⟨HC.out, by simpa using fun q : c = l[k] => hx q.symm⟩)
        clear hpc hps hx
        go_wp2
        go_roundw
        case rel => exact ⟨f, k + 1, ls, by omega, by omega, rfl, by go_num, HO.out, HC1.out, HSP.out, hll, HB.out⟩
        case measure => simp [intOf]; omega
    · obtain rfl : k = l.length := by omega
      have e1 : ¬ (l.length : Int) < (l.length : Int) := by omega
      have e2 : (f : Int) ≤ (l.length : Int) := by omega
      have hc := HC.out
      rw [piece_all] at hc
      have hn : ls ++ [piece l f l.length] = split c l := by rw [← HSP.out, split_none hc, piece_all]
      have HN := Lib.hid hn; clear hn hc
      go_wp2_with (at_builtin; refine app_one rfl (.tmp 28) (.tmp 32) rfl N _ ls rfl HO.out (piece l f l.length) rfl (by omega) (HNE0.out _ HB.out) ?_; intro v' w3 ho3 hb3; have H3 := Lib.hid (HB.out.trans hb3); have HO3 := Lib.hid ho3; clear ho3 hb3)
      go_ret
      exact ⟨_, rfl, by rw [← HN.out]; exact HO3.out, H3.out⟩
end Go.Proofs.YteeabfplnaknfaaGreat.Nm
end
