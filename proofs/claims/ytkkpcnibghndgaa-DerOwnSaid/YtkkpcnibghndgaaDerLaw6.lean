/-
  The walk of the law that what is handed in is neither changed nor kept, and that what is taken is new memory.
-/
import Derived.Test.YtkkpcnibghndgaaDerRef3
import Derived.Test.YtkkpcnibghndgaaRegion
set_option linter.unusedVariables false
namespace Go.Proofs.Ytkkpcnibghndgaa.DerL
open Go.RowKit Go.Proofs.Ytkkpcnibghndgaa.Mem Go.Proofs.Ytkkpcnibghndgaa.DerP Go.Proofs.Ytkkpcnibghndgaa.Reg

set_option maxRecDepth 100000 in
set_option maxHeartbeats 1000000 in
theorem own_in (A : Option Addr) (p : L) (c : Nat) (w : World) (hr : Rd w w.heap.size A (bvs p)) (h1 : 1 ≤ p.length) (h2 : p.length ≤ 300) :
    Calls Try.prog 13 #[.slice A p.length c] w fun e w' => e = .returned (.bool true) ∧ Below w.heap.size w w' := by
  have g1 : decide ((p.length : Int) < 1) = false := by simp; omega
  have g2 : decide ((300 : Int) < (p.length : Int)) = false := by simp; omega
  have hcv := run_bytes_str (P := Try.prog) w 22 5 Try.underlying22 Try.underlying5 hr p.length c rfl 9 Try.underlying9
  have HR := Lib.hid hr
  have H1 := Lib.hid h1
  have H2 := Lib.hid h2
  clear hr h1 h2
  go_enter Try.func13, Try.ntmps13
  go_wp2_with (go_at_call 16; refine (DerW.octets_any p A _ c w.heap.size w HR.out rfl (Nat.le_refl _) (by have := H2.out; omega)).mono ?_; rintro e w1 ⟨v1, rfl, hown1, hb1⟩
               obtain ⟨q1, d1, rfl, hq1, _, hrd1⟩ := DerK.own_slice hown1 (by rw [length_elem]; omega)
               have HRD1 := Lib.hid hrd1
               clear hown1 hcv hrd1)
  have HB1 := Lib.hid hb1
  have HRD1d : Hid (Rd w1.drew w1.drew.heap.size (some ⟨q1, 0, none⟩) (bvs (elem 4 p))) := HRD1.out
  have HRd : Hid (Rd w1.drew w.heap.size A (bvs p)) := HR.out.below hb1.drew
  refine region_begin 6 rfl (by kernel_rfl) ?_
  refine take_op 0 (v := ?va) rfl (by kernel_rfl) (by kernel_rfl) (by kernel_rfl) (fun _ _ _ h => h) (by rfl) (fun w' hS => ?hya) ?resta
  case hya => go_simp; rfl
  simp only [Act.put, List.setIfInBounds_toArray, List.set_cons_zero, List.set_cons_succ]
  refine take_op 1 (v := ?vb) rfl (by kernel_rfl) (by kernel_rfl) (by kernel_rfl) (fun _ _ _ h => h) (by rfl) (fun w' hS => ?hyb) ?restb
  case hyb => have hh := since_str (P := Try.prog) Try.underlying22 Try.underlying5 Try.underlying9 (n := (elem 4 p).length) (c := d1) HRD1d.out (Nat.le_refl _) rfl w' hS; go_simp; rfl
  simp only [Act.put, List.setIfInBounds_toArray, List.set_cons_zero, List.set_cons_succ]
  refine take_op 2 (v := ?vc) rfl (by kernel_rfl) (by kernel_rfl) (by kernel_rfl) (fun _ _ _ h => h) (by rfl) (fun w' hS => ?hyc) ?restc
  case hyc => go_simp; rfl
  simp only [Act.put, List.setIfInBounds_toArray, List.set_cons_zero, List.set_cons_succ]
  refine call_op 3 rfl (by kernel_rfl) (by rfl) 17 #[.slice A p.length c] (by go_simp) ?_
  refine Calls.mono (DerR.octets_any p A _ c w.heap.size w1.drew HRd.out rfl hb1.size (by have := H2.out; omega)) ?_
  rintro e w2 ⟨⟨q2, d2, rfl, hq2, hd2, hrd2⟩, hb2⟩
  refine ⟨_, rfl, hb2, ?_⟩
  have HRD2 := Lib.hid hrd2
  clear hrd2
  simp only [Act.put, List.setIfInBounds_toArray, List.set_cons_zero, List.set_cons_succ]
  refine take_op 4 (v := ?ve) rfl (by kernel_rfl) (by kernel_rfl) (by kernel_rfl) (fun _ _ _ h => h) (by rfl) (fun w' hS => ?hye) ?reste
  case hye => have hh := since_str (P := Try.prog) Try.underlying22 Try.underlying5 Try.underlying9 (n := (elem 4 p).length) (c := d2) HRD2.out (Nat.le_refl _) rfl w' hS; go_simp; rfl
  simp only [Act.put, List.setIfInBounds_toArray, List.set_cons_zero, List.set_cons_succ]
  refine take_op 5 (v := ?vf) rfl (by kernel_rfl) (by kernel_rfl) (by kernel_rfl) (fun _ _ _ h => h) (by rfl) (fun w' hS => ?hyf) ?restf
  case hyf => go_simp; rfl
  simp only [Act.put, List.setIfInBounds_toArray, List.set_cons_zero, List.set_cons_succ]
  refine wpAnyH_done (by kernel_rfl) ?_ _
  have B2 : Below w.heap.size w w2 := bt hb1.drew hb2
  have hrd12 : Rd w2 w2.heap.size (some ⟨q1, 0, none⟩) (bvs (elem 4 p)) := (HRD1d.out.below hb2).more hb2.size
  have hcvb := run_bytes_str (P := Try.prog) w2 22 5 Try.underlying22 Try.underlying5 hrd12 (elem 4 p).length d1 rfl 9 Try.underlying9
  have HB12 := Lib.hid hrd12
  have HP0 := Lib.hid (show 0 < p.length from H1.out)
  clear hrd12 hb1 hb2
  have b2' : Hid (Below w.heap.size w w2) := B2
  go_wp2_with (first
    | (go_at_call 23; refine (DerC.open_any _ _ _ _ _ _ HB12.out rfl).mono ?_; rintro e w3 ⟨g, rfl, hg, hcur, hb3⟩
       have HC := Lib.hid (show DerC.Cur w3 g (some (elem 4 p ++ [])) by rw [List.append_nil]; exact hcur)
       clear hcur))
  refine (octets_good g p [] _ (by have := H2.out; omega) (by simp) HC.out).mono ?_
  rintro e w4 ⟨⟨b4, cap4, rfl, hcap4, hf4⟩, hcur4, hg4⟩
  have hcvq := run_bytes_str (P := Try.prog) w4 22 5 Try.underlying22 Try.underlying5 hf4.rd p.length cap4 rfl 9 Try.underlying9
  obtain ⟨hcell, hfroz⟩ := hf4.2.2 0 HP0.out
  have hcell' : w4.cell? ⟨b4, 0, none⟩ = some (.int .u8 ((p[0]'HP0.out).toNat : Int)) := hcell
  have hbw3 : w3.heap.size ≤ b4 := hf4.1
  have b24 : Below w2.heap.size w2 w4 := btg hb3 hg4 hg
  have hset : ∀ u, (convert 22 9 (.slice (some ⟨q1, 0, none⟩) (elem 4 p).length d1)).run Try.prog (w4.setCell ⟨b4, 0, none⟩ u) = .ok (.string ⟨(elem 4 p).toArray⟩) (w4.setCell ⟨b4, 0, none⟩ u) :=
    fun u => run_bytes_str (P := Try.prog) _ 22 5 Try.underlying22 Try.underlying5 (HB12.out.below (b24.setCell (p := ⟨b4, 0, none⟩) (Nat.le_trans hb3.size hbw3) u)) _ d1 rfl 9 Try.underlying9
  have hset2 : ∀ u, (convert 22 9 (.slice A p.length c)).run Try.prog (w4.setCell ⟨b4, 0, none⟩ u) = .ok (.string ⟨p.toArray⟩) (w4.setCell ⟨b4, 0, none⟩ u) :=
    fun u => run_bytes_str (P := Try.prog) _ 22 5 Try.underlying22 Try.underlying5 (HR.out.below ((bt B2 b24).setCell (p := ⟨b4, 0, none⟩) (Nat.le_trans (Nat.le_trans B2.size hb3.size) hbw3) u)) _ c rfl 9 Try.underlying9
  have hend : Hid (∀ u, Below w.heap.size w (w4.setCell ⟨b4, 0, none⟩ u)) := fun u => (bt B2 b24).setCell (p := ⟨b4, 0, none⟩) (Nat.le_trans (Nat.le_trans B2.size hb3.size) hbw3) u
  have hpl : ((p.length : Int) == 0) = false := beq_eq_false_iff_ne.2 (by have := H1.out; omega)
  have hpl' : (0 : Int) < (p.length : Int) := by have := H1.out; omega
  clear hcell hcur4 hg4 HC hcvb hb3
  go_wp2_with (go_at_call 22; refine (DerK.known_any _).mono ?_; rintro e w8 ⟨rfl, hb8⟩)
  go_ret
  exact ⟨rfl, bt (hend.out _) hb8⟩

set_option maxRecDepth 100000 in
theorem ownAll (A : Option Addr) (p : L) (c : Nat) (w : World) (hr : Rd w w.heap.size A (bvs p)) (hc : p.length ≤ c) (hm : c ≤ maxLen) :
    Calls Try.prog 13 #[.slice A p.length c] w fun e w' => e = .returned (.bool true) ∧ Below w.heap.size w w' := by
  by_cases h1 : p.length < 1
  · have g1 : decide ((p.length : Int) < 1) = true := by simp only [decide_eq_true_eq]; omega
    clear hr hc hm h1
    go_enter Try.func13, Try.ntmps13
    go_wp2
    go_ret
    exact ⟨rfl, Below.refl _ _⟩
  · by_cases h2 : 300 < p.length
    · have g1 : decide ((p.length : Int) < 1) = false := by simp only [decide_eq_false_iff_not]; omega
      have g2 : decide ((300 : Int) < (p.length : Int)) = true := by simp only [decide_eq_true_eq]; omega
      clear hr hc hm h1 h2
      go_enter Try.func13, Try.ntmps13
      go_wp2
      go_ret
      exact ⟨rfl, Below.refl _ _⟩
    · exact own_in A p c w hr (by omega) (by omega)

end Go.Proofs.Ytkkpcnibghndgaa.DerL
