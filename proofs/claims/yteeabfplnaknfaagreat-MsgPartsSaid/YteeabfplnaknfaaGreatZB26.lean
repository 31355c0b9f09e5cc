import Derived.Deep.LoopGhost
import Derived.Test.YteeabfplnaknfaaGreatZB1
import Derived.Test.YteeabfplnaknfaaGreatZB2
import Derived.Test.YteeabfplnaknfaaGreatZB3
import Derived.Test.YteeabfplnaknfaaGreatZB4
import Derived.Test.YteeabfplnaknfaaGreatZB5
import Derived.Test.YteeabfplnaknfaaGreatZB6
import Derived.Test.YteeabfplnaknfaaGreatZB7
import Derived.Test.YteeabfplnaknfaaGreatZB9
import Derived.Test.YteeabfplnaknfaaGreatZB10
import Derived.Test.YteeabfplnaknfaaGreatZB11
import Derived.Test.YteeabfplnaknfaaGreatZB12
import Derived.Test.YteeabfplnaknfaaGreatZB13
import Derived.Test.YteeabfplnaknfaaGreatZB14
import Derived.Test.YteeabfplnaknfaaGreatZB15
import Derived.Test.YteeabfplnaknfaaGreatZB16
import Derived.Test.YteeabfplnaknfaaGreatZB17
import Derived.Test.YteeabfplnaknfaaGreatZB18
import Derived.Test.YteeabfplnaknfaaGreatZB19
import Derived.Test.YteeabfplnaknfaaGreatZB20
import Derived.Test.YteeabfplnaknfaaGreatZB21
import Derived.Test.YteeabfplnaknfaaGreatZB22
import Derived.Test.YteeabfplnaknfaaGreatZB23
import Derived.Test.YteeabfplnaknfaaGreatZB24
import Derived.Test.YteeabfplnaknfaaGreatZB25
section
set_option linter.unusedVariables false
set_option linter.unusedSimpArgs false
namespace Go.Proofs.YteeabfplnaknfaaGreat.Mc
open Go.RowKit Go.Proofs.YteeabfplnaknfaaGreat.Mem Go.Proofs.YteeabfplnaknfaaGreat.DerP Go.Proofs.YteeabfplnaknfaaGreat.Ms

theorem w64_in {x : Int} (h1 : -9223372036854775808 ≤ x) (h2 : x ≤ 9223372036854775807) : wrap64 x = x := by unfold wrap64; omega
theorem wi64 {x : Int} (h1 : -9223372036854775808 ≤ x) (h2 : x ≤ 9223372036854775807) : IntKind.i64.wrap x = x := by rw [IntKind.wrap_i64]; omega
set_option maxHeartbeats 800000 in
theorem lprinc_any (p : Pr) (w : World) (h1 : p.1.length ≤ 281474976710656) (h2 : p.2.length ≤ 281474976710656) : Calls Tryz.prog 16 #[.agg #[.string ⟨p.1.toArray⟩, .string ⟨p.2.toArray⟩]] w fun e w' => e = .returned (.int .i64 ((p.1.length : Int) + (p.2.length : Int))) ∧ Below w.heap.size w w' := by
  have HB := Lib.hid ((Below.refl w.heap.size w).alloc (Nat.le_refl _) (.cells #[.string ⟨p.1.toArray⟩, .string ⟨p.2.toArray⟩] 23))
  have q1 : (p.1.length : Int) ≤ 281474976710656 := by omega
  have q2 : (p.2.length : Int) ≤ 281474976710656 := by omega
  clear h1 h2
  go_enter Tryz.func16, Tryz.ntmps16
  go_wp2
  go_ret
  exact ⟨by first | rfl | (rw [w64_in (by omega) (by omega)]), HB.out⟩
theorem blk_at2 (w : World) (g : Nat) (t : TypeId) (cs : Array Value) (hg : w.heap.size = g) : Blk (w.alloc (.cells cs t)) g t cs := hg ▸ Blk.new w t cs
theorem eql_an (p : Pr) (t q : Int) (w : World) : (Op.equalIn 10000 57 (.agg #[.string ⟨p.1.toArray⟩, .string ⟨p.2.toArray⟩, .int .i64 t, .int .i64 q]) (.agg #[.string ⟨p.1.toArray⟩, .string ⟨p.2.toArray⟩, .int .i64 t, .int .i64 q])).run Tryz.prog w = .ok true w := by go_simp
set_option maxHeartbeats 25600000 in
set_option maxRecDepth 10000 in
theorem parts_ (p : Pt) (a : An) (r : Rp) (A : Option Addr) (b : L) (c : Nat) (w : World) (hp : p.ss.length = 32) (hr : r.ss.length = 32) (hrd : Rd w w.heap.size A (bvs b)) (hc : b.length ≤ c)
    (l1 : p.c.1.length ≤ 281474976710656) (l2 : p.c.2.length ≤ 281474976710656) (l3 : a.c.1.length ≤ 281474976710656) (l4 : a.c.2.length ≤ 281474976710656) (l5 : r.s.1.length ≤ 281474976710656) (l6 : r.s.2.length ≤ 281474976710656) (l7 : p.tr.length ≤ 281474976710656) :
    Calls Tryz.prog 4 #[.agg (ptC p).toArray, .agg (anC a).toArray, .agg (rpC r).toArray, .slice A b.length c] w fun e w' => e = .returned (.bool true) ∧ Below w.heap.size w w' := by
  have HPI := Lib.hid (show (Tryz.prog.info? 55).map (·.size) = some (ptC p).toArray.size by rw [pt_size hp]; kernel_rfl)
  have HAI := Lib.hid (show (Tryz.prog.info? 57).map (·.size) = some (anC a).toArray.size by rw [show (anC a).toArray.size = 4 from rfl]; kernel_rfl)
  have HQI := Lib.hid (show (Tryz.prog.info? 59).map (·.size) = some (rpC r).toArray.size by rw [rp_size hr]; kernel_rfl)
  have hb3 : Below w.heap.size w (((w.alloc (.cells (ptC p).toArray 55)).alloc (.cells (anC a).toArray 57)).alloc (.cells (rpC r).toArray 59)) := (((Below.refl w.heap.size w).alloc (Nat.le_refl _) _).alloc (by simp) _).alloc (by simp; omega) _
  have HG := Lib.hid hb3; have HR := Lib.hid (rd_on hrd hb3); clear hb3 hrd
  have HX := Lib.hid (show Blk (((w.alloc (.cells (ptC p).toArray 55)).alloc (.cells (anC a).toArray 57)).alloc (.cells (rpC r).toArray 59)) w.heap.size 55 (ptC p).toArray from ((blk_at2 _ _ _ _ rfl).alloc _).alloc _)
  have HY := Lib.hid (show Blk (((w.alloc (.cells (ptC p).toArray 55)).alloc (.cells (anC a).toArray 57)).alloc (.cells (rpC r).toArray 59)) (w.heap.size + 1) 57 (anC a).toArray from (blk_at2 _ _ _ _ (by simp)).alloc _)
  have HZ := Lib.hid (show Blk (((w.alloc (.cells (ptC p).toArray 55)).alloc (.cells (anC a).toArray 57)).alloc (.cells (rpC r).toArray 59)) (w.heap.size + 1 + 1) 59 (rpC r).toArray from blk_at2 _ _ _ _ (by simp))
  have CF1 := Lib.hid (fun (w' : World) (h : Blk w' w.heap.size 55 (ptC p).toArray) => pt_cells hp h)
  have CF3 := Lib.hid (fun (w' : World) (h : Blk w' (w.heap.size + 1 + 1) 59 (rpC r).toArray) => rp_cells hr h)
  have CA0 := Lib.hid (fun (w' : World) (h : Blk w' (w.heap.size + 1) 57 (anC a).toArray) => (show w'.cell? ⟨w.heap.size + 1, 0, none⟩ = some (.string ⟨a.c.1.toArray⟩) from h.cell 0))
  have CA1 := Lib.hid (fun (w' : World) (h : Blk w' (w.heap.size + 1) 57 (anC a).toArray) => (show w'.cell? ⟨w.heap.size + 1, 1, none⟩ = some (.string ⟨a.c.2.toArray⟩) from h.cell 1))
  have N1 := Lib.hid (fun w1 => lprinc_any p.c w1 l1 l2)
  have N2 := Lib.hid (fun w1 => lprinc_any a.c w1 l3 l4)
  have N3 := Lib.hid (fun w1 => lprinc_any r.s w1 l5 l6)
  obtain ⟨n1, en1⟩ : ∃ n : Int, n = (p.c.1.length : Int) + (p.c.2.length : Int) := ⟨_, rfl⟩
  rw [← en1] at N1
  have u1 : 0 ≤ n1 := by omega
  have v1 : n1 ≤ 562949953421312 := by omega
  obtain ⟨n2, en2⟩ : ∃ n : Int, n = (a.c.1.length : Int) + (a.c.2.length : Int) := ⟨_, rfl⟩
  rw [← en2] at N2
  have u2 : 0 ≤ n2 := by omega
  have v2 : n2 ≤ 562949953421312 := by omega
  obtain ⟨n3, en3⟩ : ∃ n : Int, n = (r.s.1.length : Int) + (r.s.2.length : Int) := ⟨_, rfl⟩
  rw [← en3] at N3
  have u3 : 0 ≤ n3 := by omega
  have v3 : n3 ≤ 562949953421312 := by omega
  have EP := Lib.hid (fun w1 m1 m4 => (encpart_any p w1 hp m1 m4).mono fun e w' h => enc_str h)
  have RP := Lib.hid (fun w1 m1 m4 => (rencpart_any p w1 hp m1 m4).mono fun e w' h => enc_str h)
  have EA := Lib.hid (fun w1 m2 => ((show Calls Tryz.prog 19 #[.agg (anC a).toArray] w1 (EncR w1 (anO a)) from encauthn_any a w1 m2)).mono fun e w' h => enc_str h)
  have RA := Lib.hid (fun w1 m2 => ((show Calls Tryz.prog 20 #[.agg (anC a).toArray] w1 (EncR w1 (anO a)) from rencauthn_any a w1 m2)).mono fun e w' h => enc_str h)
  have ER := Lib.hid (fun w1 m3 => (encrep_any r w1 hr m3).mono fun e w' h => enc_str h)
  have RR := Lib.hid (fun w1 m3 => (rencrep_any r w1 hr m3).mono fun e w' h => enc_str h)
  have K1 : pSm p.c = (p.c.1.length ≤ 1000000000 ∧ p.c.2.length ≤ 1000000000) := rfl
  have K2 : pSm a.c = (a.c.1.length ≤ 1000000000 ∧ a.c.2.length ≤ 1000000000) := rfl
  have K3 : pSm r.s = (r.s.1.length ≤ 1000000000 ∧ r.s.2.length ≤ 1000000000) := rfl
  have hsm : n1 + (p.tr.length : Int) + n2 + n3 ≤ 3000 → pSm p.c ∧ pSm a.c ∧ pSm r.s ∧ p.tr.length ≤ 1000000000 := fun h => by rw [K1, K2, K3]; refine ⟨⟨?_, ?_⟩, ⟨?_, ?_⟩, ⟨?_, ?_⟩, ?_⟩ <;> omega
  obtain ⟨y1, ey1⟩ : ∃ l : L, l = (ptO p).getD [] := ⟨_, rfl⟩
  obtain ⟨i1, ei1⟩ : ∃ i : Int, i = if (ptO p).isSome = true then 0 else 1 := ⟨_, rfl⟩
  rw [← ey1, ← ei1] at EP RP
  clear ey1 ei1
  obtain ⟨y2, ey2⟩ : ∃ l : L, l = (anO a).getD [] := ⟨_, rfl⟩
  obtain ⟨i2, ei2⟩ : ∃ i : Int, i = if (anO a).isSome = true then 0 else 1 := ⟨_, rfl⟩
  rw [← ey2, ← ei2] at EA RA
  clear ey2 ei2
  obtain ⟨y3, ey3⟩ : ∃ l : L, l = (rpO r).getD [] := ⟨_, rfl⟩
  obtain ⟨i3, ei3⟩ : ∃ i : Int, i = if (rpO r).isSome = true then 0 else 1 := ⟨_, rfl⟩
  rw [← ey3, ← ei3] at ER RR
  clear ey3 ei3
  obtain ⟨cp, ecp⟩ : ∃ c : Array Value, c = (ptC p).toArray := ⟨_, rfl⟩
  obtain ⟨ca, eca⟩ : ∃ c : Array Value, c = (anC a).toArray := ⟨_, rfl⟩
  obtain ⟨cr, ecr⟩ : ∃ c : Array Value, c = (rpC r).toArray := ⟨_, rfl⟩
  rw [← ecp] at HPI HG HX HY HZ HR CF1 EP RP ⊢
  rw [← eca] at HAI HG HX HY HZ HR CA0 CA1 EA RA ⊢
  rw [← ecr] at HQI HG HX HY HZ HR CF3 ER RR ⊢
  have l7' : (p.tr.length : Int) ≤ 281474976710656 := by omega
  clear ecp eca ecr en1 en2 en3 l1 l2 l3 l4 l5 l6 l7 K1 K2 K3
  obtain ⟨s, es⟩ : ∃ s, s = p.tr := ⟨_, rfl⟩
  rw [← es] at CF1 l7' hsm
  have HSM := Lib.hid hsm; have HES := Lib.hid es; clear hsm es hp hr
  have HC := Lib.hid hc; clear hc
  have HN : (n1 + (s.length : Int) + n2 + n3 ≤ 3000) ∨ (3000 < n1 + (s.length : Int) + n2 + n3) := by omega
  rcases HN with HN | HN
  · have t0 : decide ((3000 : Int) < n1 + (s.length : Int) + n2 + n3) = false := decide_eq_false (by omega)
    have HM := Lib.hid (HSM.out HN); clear HSM HN
    by_cases h2 : 2000 < b.length
    · have t1 : decide ((2000 : Int) < (b.length : Int)) = true := decide_eq_true (by omega)
      clear h2 EP RP EA RA ER RR
      go_enter Tryz.func4, Tryz.ntmps4
      go_upto_region 1 with fail
      generalize (((w.alloc (.cells cp 55)).alloc (.cells ca 57)).alloc (.cells cr 59)) = W at HX HY HZ HG HR ⊢
      refine Reg.region_begin 21 rfl (by kernel_rfl) ?_
      have hb : Below W.heap.size W W.drew := below_drewN (Below.refl _ _) 1
      replace HX := Lib.hid (HX.out.below hb); replace HY := Lib.hid (HY.out.below hb); replace HZ := Lib.hid (HZ.out.below hb); replace HG := Lib.hid (HG.out.trans (hb.mono HG.out.size)); replace HR := Lib.hid (rd_on HR.out hb); clear hb
      refine Reg.take_op 0 (v := ?va0) rfl (by kernel_rfl) (by kernel_rfl) (by kernel_rfl) (fun _ _ _ h => h) (by rfl) (fun w' hS => ?ha0) ?ra0
      case ha0 => go_simp; rfl
      simp only [Act.put, List.setIfInBounds_toArray, List.set_cons_zero, List.set_cons_succ]
      refine Reg.take_op 1 (v := ?va1) rfl (by kernel_rfl) (by kernel_rfl) (by kernel_rfl) (fun _ _ _ h => h) (by rfl) (fun w' hS => ?ha1) ?ra1
      case ha1 => obtain ⟨q0, q1, q2, _, _⟩ := CF1.out _ (HX.out.below hS); go_simp; rfl
      simp only [Act.put, List.setIfInBounds_toArray, List.set_cons_zero, List.set_cons_succ]
      refine Reg.take_op 3 (v := ?va3) rfl (by kernel_rfl) (by kernel_rfl) (by kernel_rfl) (fun _ _ _ h => h) (by rfl) (fun w' hS => ?ha3) ?ra3
      case ha3 => go_simp; rfl
      simp only [Act.put, List.setIfInBounds_toArray, List.set_cons_zero, List.set_cons_succ]
      refine Reg.take_op 4 (v := ?va4) rfl (by kernel_rfl) (by kernel_rfl) (by kernel_rfl) (fun _ _ _ h => h) (by rfl) (fun w' hS => ?ha4) ?ra4
      case ha4 => obtain ⟨q0, q1, q2, _, _⟩ := CF1.out _ (HX.out.below hS); go_simp; rfl
      simp only [Act.put, List.setIfInBounds_toArray, List.set_cons_zero, List.set_cons_succ]
      refine Reg.take_op 5 (v := ?va5) rfl (by kernel_rfl) (by kernel_rfl) (by kernel_rfl) (fun _ _ _ h => h) (by rfl) (fun w' hS => ?ha5) ?ra5
      case ha5 => go_simp; rfl
      simp only [Act.put, List.setIfInBounds_toArray, List.set_cons_zero, List.set_cons_succ]
      refine Reg.take_op 7 (v := ?va7) rfl (by kernel_rfl) (by kernel_rfl) (by kernel_rfl) (fun _ _ _ h => h) (by rfl) (fun w' hS => ?ha7) ?ra7
      case ha7 => go_simp; rfl
      simp only [Act.put, List.setIfInBounds_toArray, List.set_cons_zero, List.set_cons_succ]
      refine Reg.take_op 8 (v := ?va8) rfl (by kernel_rfl) (by kernel_rfl) (by kernel_rfl) (fun _ _ _ h => h) (by rfl) (fun w' hS => ?ha8) ?ra8
      case ha8 => have hk := HY.out.below hS; have q0 := CA0.out _ hk; have q1 := CA1.out _ hk; go_simp; rfl
      simp only [Act.put, List.setIfInBounds_toArray, List.set_cons_zero, List.set_cons_succ]
      refine Reg.take_op 11 (v := ?va11) rfl (by kernel_rfl) (by kernel_rfl) (by kernel_rfl) (fun _ _ _ h => h) (by rfl) (fun w' hS => ?ha11) ?ra11
      case ha11 => go_simp; rfl
      simp only [Act.put, List.setIfInBounds_toArray, List.set_cons_zero, List.set_cons_succ]
      refine Reg.take_op 12 (v := ?va12) rfl (by kernel_rfl) (by kernel_rfl) (by kernel_rfl) (fun _ _ _ h => h) (by rfl) (fun w' hS => ?ha12) ?ra12
      case ha12 => obtain ⟨q0, q1, _, _, _⟩ := CF3.out _ (HZ.out.below hS); go_simp; rfl
      simp only [Act.put, List.setIfInBounds_toArray, List.set_cons_zero, List.set_cons_succ]
      refine Reg.call_op 2 rfl (by kernel_rfl) (by rfl) 16 #[.agg #[.string ⟨p.c.1.toArray⟩, .string ⟨p.c.2.toArray⟩]] (by go_simp) ?_
      refine Calls.mono (N1.out _) ?_
      rintro e wn1 ⟨rfl, hb⟩
      refine ⟨_, rfl, hb, ?_⟩
      replace HX := Lib.hid (HX.out.below hb); replace HY := Lib.hid (HY.out.below hb); replace HZ := Lib.hid (HZ.out.below hb); replace HG := Lib.hid (HG.out.trans (hb.mono HG.out.size)); replace HR := Lib.hid (rd_on HR.out hb); clear hb
      simp only [Act.put, List.setIfInBounds_toArray, List.set_cons_zero, List.set_cons_succ]
      refine Reg.take_op 6 (v := .int .i64 (n1 + (s.length : Int))) rfl (by kernel_rfl) (by kernel_rfl) (by kernel_rfl) (fun _ _ _ h => h) (by rfl) (fun w' hS => ?ha6) ?ra6
      case ha6 => go_simp; exact wi64 (by omega) (by omega)
      simp only [Act.put, List.setIfInBounds_toArray, List.set_cons_zero, List.set_cons_succ]
      refine Reg.call_op 9 rfl (by kernel_rfl) (by rfl) 16 #[.agg #[.string ⟨a.c.1.toArray⟩, .string ⟨a.c.2.toArray⟩]] (by go_simp) ?_
      refine Calls.mono (N2.out _) ?_
      rintro e wn2 ⟨rfl, hb⟩
      refine ⟨_, rfl, hb, ?_⟩
      replace HX := Lib.hid (HX.out.below hb); replace HY := Lib.hid (HY.out.below hb); replace HZ := Lib.hid (HZ.out.below hb); replace HG := Lib.hid (HG.out.trans (hb.mono HG.out.size)); replace HR := Lib.hid (rd_on HR.out hb); clear hb
      simp only [Act.put, List.setIfInBounds_toArray, List.set_cons_zero, List.set_cons_succ]
      refine Reg.take_op 10 (v := .int .i64 (n1 + (s.length : Int) + n2)) rfl (by kernel_rfl) (by kernel_rfl) (by kernel_rfl) (fun _ _ _ h => h) (by rfl) (fun w' hS => ?ha10) ?ra10
      case ha10 => go_simp; exact wi64 (by omega) (by omega)
      simp only [Act.put, List.setIfInBounds_toArray, List.set_cons_zero, List.set_cons_succ]
      refine Reg.call_op 13 rfl (by kernel_rfl) (by rfl) 16 #[.agg #[.string ⟨r.s.1.toArray⟩, .string ⟨r.s.2.toArray⟩]] (by go_simp) ?_
      refine Calls.mono (N3.out _) ?_
      rintro e wn3 ⟨rfl, hb⟩
      refine ⟨_, rfl, hb, ?_⟩
      replace HX := Lib.hid (HX.out.below hb); replace HY := Lib.hid (HY.out.below hb); replace HZ := Lib.hid (HZ.out.below hb); replace HG := Lib.hid (HG.out.trans (hb.mono HG.out.size)); replace HR := Lib.hid (rd_on HR.out hb); clear hb
      simp only [Act.put, List.setIfInBounds_toArray, List.set_cons_zero, List.set_cons_succ]
      refine Reg.take_op 14 (v := .int .i64 (n1 + (s.length : Int) + n2 + n3)) rfl (by kernel_rfl) (by kernel_rfl) (by kernel_rfl) (fun _ _ _ h => h) (by rfl) (fun w' hS => ?ha14) ?ra14
      case ha14 => go_simp; exact wi64 (by omega) (by omega)
      simp only [Act.put, List.setIfInBounds_toArray, List.set_cons_zero, List.set_cons_succ]
      refine Reg.take_op 15 (v := .bool false) rfl (by kernel_rfl) (by kernel_rfl) (by kernel_rfl) (fun _ _ _ h => h) (by rfl) (fun w' hS => ?ha15) ?ra15
      case ha15 => go_simp
      simp only [Act.put, List.setIfInBounds_toArray, List.set_cons_zero, List.set_cons_succ]
      refine Reg.take_op 16 (v := ?va16) rfl (by kernel_rfl) (by kernel_rfl) (by kernel_rfl) (fun _ _ _ h => h) (by rfl) (fun w' hS => ?ha16) ?ra16
      case ha16 => go_simp; rfl
      simp only [Act.put, List.setIfInBounds_toArray, List.set_cons_zero, List.set_cons_succ]
      refine Reg.take_op 17 (v := ?va17) rfl (by kernel_rfl) (by kernel_rfl) (by kernel_rfl) (fun _ _ _ h => h) (by rfl) (fun w' hS => ?ha17) ?ra17
      case ha17 => go_simp; rfl
      simp only [Act.put, List.setIfInBounds_toArray, List.set_cons_zero, List.set_cons_succ]
      refine Reg.take_op 18 (v := ?va18) rfl (by kernel_rfl) (by kernel_rfl) (by kernel_rfl) (fun _ _ _ h => h) (by rfl) (fun w' hS => ?ha18) ?ra18
      case ha18 => go_simp; rfl
      simp only [Act.put, List.setIfInBounds_toArray, List.set_cons_zero, List.set_cons_succ]
      refine Reg.take_op 19 (v := ?va19) rfl (by kernel_rfl) (by kernel_rfl) (by kernel_rfl) (fun _ _ _ h => h) (by rfl) (fun w' hS => ?ha19) ?ra19
      case ha19 => go_simp; rfl
      simp only [Act.put, List.setIfInBounds_toArray, List.set_cons_zero, List.set_cons_succ]
      refine Reg.take_op 20 (v := ?va20) rfl (by kernel_rfl) (by kernel_rfl) (by kernel_rfl) (fun _ _ _ h => h) (by rfl) (fun w' hS => ?ha20) ?ra20
      case ha20 => go_simp; rfl
      simp only [Act.put, List.setIfInBounds_toArray, List.set_cons_zero, List.set_cons_succ]
      refine wpAnyH_done (by kernel_rfl) ?_ _
      go_wp2
      go_ret
      exact ⟨rfl, HG.out⟩
    · have t1 : decide ((2000 : Int) < (b.length : Int)) = false := decide_eq_false (by omega)
      have HL := Lib.hid (show b.length ≤ 2000 by omega); clear h2
      go_enter Tryz.func4, Tryz.ntmps4
      go_upto_region 1 with fail
      generalize (((w.alloc (.cells cp 55)).alloc (.cells ca 57)).alloc (.cells cr 59)) = W at HX HY HZ HG HR ⊢
      refine Reg.region_begin 21 rfl (by kernel_rfl) ?_
      have hb : Below W.heap.size W W.drew := below_drewN (Below.refl _ _) 1
      replace HX := Lib.hid (HX.out.below hb); replace HY := Lib.hid (HY.out.below hb); replace HZ := Lib.hid (HZ.out.below hb); replace HG := Lib.hid (HG.out.trans (hb.mono HG.out.size)); replace HR := Lib.hid (rd_on HR.out hb); clear hb
      refine Reg.take_op 0 (v := ?vb0) rfl (by kernel_rfl) (by kernel_rfl) (by kernel_rfl) (fun _ _ _ h => h) (by rfl) (fun w' hS => ?hb0) ?rb0
      case hb0 => go_simp; rfl
      simp only [Act.put, List.setIfInBounds_toArray, List.set_cons_zero, List.set_cons_succ]
      refine Reg.take_op 1 (v := ?vb1) rfl (by kernel_rfl) (by kernel_rfl) (by kernel_rfl) (fun _ _ _ h => h) (by rfl) (fun w' hS => ?hb1) ?rb1
      case hb1 => obtain ⟨q0, q1, q2, _, _⟩ := CF1.out _ (HX.out.below hS); go_simp; rfl
      simp only [Act.put, List.setIfInBounds_toArray, List.set_cons_zero, List.set_cons_succ]
      refine Reg.take_op 3 (v := ?vb3) rfl (by kernel_rfl) (by kernel_rfl) (by kernel_rfl) (fun _ _ _ h => h) (by rfl) (fun w' hS => ?hb3) ?rb3
      case hb3 => go_simp; rfl
      simp only [Act.put, List.setIfInBounds_toArray, List.set_cons_zero, List.set_cons_succ]
      refine Reg.take_op 4 (v := ?vb4) rfl (by kernel_rfl) (by kernel_rfl) (by kernel_rfl) (fun _ _ _ h => h) (by rfl) (fun w' hS => ?hb4) ?rb4
      case hb4 => obtain ⟨q0, q1, q2, _, _⟩ := CF1.out _ (HX.out.below hS); go_simp; rfl
      simp only [Act.put, List.setIfInBounds_toArray, List.set_cons_zero, List.set_cons_succ]
      refine Reg.take_op 5 (v := ?vb5) rfl (by kernel_rfl) (by kernel_rfl) (by kernel_rfl) (fun _ _ _ h => h) (by rfl) (fun w' hS => ?hb5) ?rb5
      case hb5 => go_simp; rfl
      simp only [Act.put, List.setIfInBounds_toArray, List.set_cons_zero, List.set_cons_succ]
      refine Reg.take_op 7 (v := ?vb7) rfl (by kernel_rfl) (by kernel_rfl) (by kernel_rfl) (fun _ _ _ h => h) (by rfl) (fun w' hS => ?hb7) ?rb7
      case hb7 => go_simp; rfl
      simp only [Act.put, List.setIfInBounds_toArray, List.set_cons_zero, List.set_cons_succ]
      refine Reg.take_op 8 (v := ?vb8) rfl (by kernel_rfl) (by kernel_rfl) (by kernel_rfl) (fun _ _ _ h => h) (by rfl) (fun w' hS => ?hb8) ?rb8
      case hb8 => have hk := HY.out.below hS; have q0 := CA0.out _ hk; have q1 := CA1.out _ hk; go_simp; rfl
      simp only [Act.put, List.setIfInBounds_toArray, List.set_cons_zero, List.set_cons_succ]
      refine Reg.take_op 11 (v := ?vb11) rfl (by kernel_rfl) (by kernel_rfl) (by kernel_rfl) (fun _ _ _ h => h) (by rfl) (fun w' hS => ?hb11) ?rb11
      case hb11 => go_simp; rfl
      simp only [Act.put, List.setIfInBounds_toArray, List.set_cons_zero, List.set_cons_succ]
      refine Reg.take_op 12 (v := ?vb12) rfl (by kernel_rfl) (by kernel_rfl) (by kernel_rfl) (fun _ _ _ h => h) (by rfl) (fun w' hS => ?hb12) ?rb12
      case hb12 => obtain ⟨q0, q1, _, _, _⟩ := CF3.out _ (HZ.out.below hS); go_simp; rfl
      simp only [Act.put, List.setIfInBounds_toArray, List.set_cons_zero, List.set_cons_succ]
      refine Reg.call_op 2 rfl (by kernel_rfl) (by rfl) 16 #[.agg #[.string ⟨p.c.1.toArray⟩, .string ⟨p.c.2.toArray⟩]] (by go_simp) ?_
      refine Calls.mono (N1.out _) ?_
      rintro e wn1 ⟨rfl, hb⟩
      refine ⟨_, rfl, hb, ?_⟩
      replace HX := Lib.hid (HX.out.below hb); replace HY := Lib.hid (HY.out.below hb); replace HZ := Lib.hid (HZ.out.below hb); replace HG := Lib.hid (HG.out.trans (hb.mono HG.out.size)); replace HR := Lib.hid (rd_on HR.out hb); clear hb
      simp only [Act.put, List.setIfInBounds_toArray, List.set_cons_zero, List.set_cons_succ]
      refine Reg.take_op 6 (v := .int .i64 (n1 + (s.length : Int))) rfl (by kernel_rfl) (by kernel_rfl) (by kernel_rfl) (fun _ _ _ h => h) (by rfl) (fun w' hS => ?hb6) ?rb6
      case hb6 => go_simp; exact wi64 (by omega) (by omega)
      simp only [Act.put, List.setIfInBounds_toArray, List.set_cons_zero, List.set_cons_succ]
      refine Reg.call_op 9 rfl (by kernel_rfl) (by rfl) 16 #[.agg #[.string ⟨a.c.1.toArray⟩, .string ⟨a.c.2.toArray⟩]] (by go_simp) ?_
      refine Calls.mono (N2.out _) ?_
      rintro e wn2 ⟨rfl, hb⟩
      refine ⟨_, rfl, hb, ?_⟩
      replace HX := Lib.hid (HX.out.below hb); replace HY := Lib.hid (HY.out.below hb); replace HZ := Lib.hid (HZ.out.below hb); replace HG := Lib.hid (HG.out.trans (hb.mono HG.out.size)); replace HR := Lib.hid (rd_on HR.out hb); clear hb
      simp only [Act.put, List.setIfInBounds_toArray, List.set_cons_zero, List.set_cons_succ]
      refine Reg.take_op 10 (v := .int .i64 (n1 + (s.length : Int) + n2)) rfl (by kernel_rfl) (by kernel_rfl) (by kernel_rfl) (fun _ _ _ h => h) (by rfl) (fun w' hS => ?hb10) ?rb10
      case hb10 => go_simp; exact wi64 (by omega) (by omega)
      simp only [Act.put, List.setIfInBounds_toArray, List.set_cons_zero, List.set_cons_succ]
      refine Reg.call_op 13 rfl (by kernel_rfl) (by rfl) 16 #[.agg #[.string ⟨r.s.1.toArray⟩, .string ⟨r.s.2.toArray⟩]] (by go_simp) ?_
      refine Calls.mono (N3.out _) ?_
      rintro e wn3 ⟨rfl, hb⟩
      refine ⟨_, rfl, hb, ?_⟩
      replace HX := Lib.hid (HX.out.below hb); replace HY := Lib.hid (HY.out.below hb); replace HZ := Lib.hid (HZ.out.below hb); replace HG := Lib.hid (HG.out.trans (hb.mono HG.out.size)); replace HR := Lib.hid (rd_on HR.out hb); clear hb
      simp only [Act.put, List.setIfInBounds_toArray, List.set_cons_zero, List.set_cons_succ]
      refine Reg.take_op 14 (v := .int .i64 (n1 + (s.length : Int) + n2 + n3)) rfl (by kernel_rfl) (by kernel_rfl) (by kernel_rfl) (fun _ _ _ h => h) (by rfl) (fun w' hS => ?hb14) ?rb14
      case hb14 => go_simp; exact wi64 (by omega) (by omega)
      simp only [Act.put, List.setIfInBounds_toArray, List.set_cons_zero, List.set_cons_succ]
      refine Reg.take_op 15 (v := .bool false) rfl (by kernel_rfl) (by kernel_rfl) (by kernel_rfl) (fun _ _ _ h => h) (by rfl) (fun w' hS => ?hb15) ?rb15
      case hb15 => go_simp
      simp only [Act.put, List.setIfInBounds_toArray, List.set_cons_zero, List.set_cons_succ]
      refine Reg.take_op 16 (v := ?vb16) rfl (by kernel_rfl) (by kernel_rfl) (by kernel_rfl) (fun _ _ _ h => h) (by rfl) (fun w' hS => ?hb16) ?rb16
      case hb16 => go_simp; rfl
      simp only [Act.put, List.setIfInBounds_toArray, List.set_cons_zero, List.set_cons_succ]
      refine Reg.take_op 17 (v := ?vb17) rfl (by kernel_rfl) (by kernel_rfl) (by kernel_rfl) (fun _ _ _ h => h) (by rfl) (fun w' hS => ?hb17) ?rb17
      case hb17 => go_simp; rfl
      simp only [Act.put, List.setIfInBounds_toArray, List.set_cons_zero, List.set_cons_succ]
      refine Reg.take_op 18 (v := ?vb18) rfl (by kernel_rfl) (by kernel_rfl) (by kernel_rfl) (fun _ _ _ h => h) (by rfl) (fun w' hS => ?hb18) ?rb18
      case hb18 => go_simp; rfl
      simp only [Act.put, List.setIfInBounds_toArray, List.set_cons_zero, List.set_cons_succ]
      refine Reg.take_op 19 (v := ?vb19) rfl (by kernel_rfl) (by kernel_rfl) (by kernel_rfl) (fun _ _ _ h => h) (by rfl) (fun w' hS => ?hb19) ?rb19
      case hb19 => go_simp; rfl
      simp only [Act.put, List.setIfInBounds_toArray, List.set_cons_zero, List.set_cons_succ]
      refine Reg.take_op 20 (v := ?vb20) rfl (by kernel_rfl) (by kernel_rfl) (by kernel_rfl) (fun _ _ _ h => h) (by rfl) (fun w' hS => ?hb20) ?rb20
      case hb20 => go_simp; rfl
      simp only [Act.put, List.setIfInBounds_toArray, List.set_cons_zero, List.set_cons_succ]
      refine wpAnyH_done (by kernel_rfl) ?_ _
      have DP := Lib.hid (fun A c w1 (h : Rd w1 w1.heap.size A (bvs b)) => decpart_any A b c w1 h)
      have FP := Lib.hid (fun A c w1 (h : Rd w1 w1.heap.size A (bvs b)) (hc : b.length ≤ c) => rdecpart_any b A c w1 h hc (by have := HL.out; omega))
      have DR := Lib.hid (fun A c w1 (h : Rd w1 w1.heap.size A (bvs b)) => decrep_any A b c w1 h)
      have FR := Lib.hid (fun A c w1 (h : Rd w1 w1.heap.size A (bvs b)) (hc : b.length ≤ c) => rdecrep_any b A c w1 h hc (by have := HL.out; omega))
      have DA := Lib.hid (fun A c w1 (h : Rd w1 w1.heap.size A (bvs b)) => decauthn_any A b c w1 h)
      have FA := Lib.hid (fun A c w1 (h : Rd w1 w1.heap.size A (bvs b)) (hc : b.length ≤ c) => show Calls Tryz.prog 26 #[.slice A b.length c] w1 fun e w' => e = .returned (.tuple #[.agg (anC (anG b)).toArray, .int .i64 (anI b)]) ∧ Below w1.heap.size w1 w' from rdecauthn_any b A c w1 h hc (by have := HL.out; omega))
      have QP := Lib.hid (fun w1 => eql_pt (ptG b) (ptG_key b) w1)
      have QR := Lib.hid (fun w1 => eql_rp (rpG b) (rpG_key b) w1)
      have QA := Lib.hid (fun w1 => show (Op.equalIn 10000 57 (.agg (anC (anG b)).toArray) (.agg (anC (anG b)).toArray)).run Tryz.prog w1 = .ok true w1 from eql_an (anG b).c (anG b).t (anG b).q w1)
      have PDS := Lib.hid (show (ptC (ptG b)).toArray.size = 37 from pt_size (ptG_key b))
      have PDI := Lib.hid (show (Tryz.prog.info? 55).map (·.size) = some (ptC (ptG b)).toArray.size by rw [PDS.out]; kernel_rfl)
      have PDO := Lib.hid (show (ptC (ptG b)).toArray.all (·.oneCell') = true from one_ptQ _ _ _ _ _)
      obtain ⟨cq, ecq⟩ : ∃ c : Array Value, c = (ptC (ptG b)).toArray := ⟨_, rfl⟩
      rw [← ecq] at DP FP QP PDS PDI PDO
      clear ecq
      have ADS := Lib.hid (show (anC (anG b)).toArray.size = 4 from rfl)
      have ADI := Lib.hid (show (Tryz.prog.info? 57).map (·.size) = some (anC (anG b)).toArray.size by rw [ADS.out]; kernel_rfl)
      have ADO := Lib.hid (show (anC (anG b)).toArray.all (·.oneCell') = true from one_anC _)
      obtain ⟨cb, ecb⟩ : ∃ c : Array Value, c = (anC (anG b)).toArray := ⟨_, rfl⟩
      rw [← ecb] at DA FA QA ADS ADI ADO
      clear ecb
      have RDS := Lib.hid (show (rpC (rpG b)).toArray.size = 37 from rp_size (rpG_key b))
      have RDI := Lib.hid (show (Tryz.prog.info? 59).map (·.size) = some (rpC (rpG b)).toArray.size by rw [RDS.out]; kernel_rfl)
      have RDO := Lib.hid (show (rpC (rpG b)).toArray.all (·.oneCell') = true from one_rpQ _ _ _ _ _)
      obtain ⟨cz, ecz⟩ : ∃ c : Array Value, c = (rpC (rpG b)).toArray := ⟨_, rfl⟩
      rw [← ecz] at DR FR QR RDS RDI RDO
      clear ecz
      obtain ⟨j1, ej1⟩ : ∃ i : Int, i = ptI b := ⟨_, rfl⟩
      rw [← ej1] at DP FP
      clear ej1
      obtain ⟨j2, ej2⟩ : ∃ i : Int, i = anI b := ⟨_, rfl⟩
      rw [← ej2] at DA FA
      clear ej2
      obtain ⟨j3, ej3⟩ : ∃ i : Int, i = rpI b := ⟨_, rfl⟩
      rw [← ej3] at DR FR
      clear ej3
      have hqp := QP.out; have hqa := QA.out; have hqr := QR.out; clear QP QA QR CF1 CF3 CA0 CA1 N1 N2 N3
      go_wp2_with (first
        | (refine load_g (by rfl) 55 (.tmp 4) (by rfl) (w.heap.size) 0 (by rfl) cp _ (range_blk HX.out) Tryz.underlying55 (by rfl) HPI.out ?_)
        | (go_at_call 17; refine Calls.mono (EP.out _ HM.out.1 (by rw [← HES.out]; exact HM.out.2.2.2)) ?_; rintro e wx ⟨AEP, cEP, rfl, _, hrx, hb⟩; clear EP; replace HX := Lib.hid (HX.out.below hb); replace HY := Lib.hid (HY.out.below hb); replace HZ := Lib.hid (HZ.out.below hb); replace HR := Lib.hid (rd_on HR.out hb); replace HG := Lib.hid (HG.out.trans (hb.mono HG.out.size)); clear hb; have SEP := Lib.hid hrx; clear hrx)
        | (go_at_call 18; refine Calls.mono (RP.out _ HM.out.1 (by rw [← HES.out]; exact HM.out.2.2.2)) ?_; rintro e wx ⟨ARP, cRP, rfl, _, hrx, hb⟩; clear RP; replace HX := Lib.hid (HX.out.below hb); replace HY := Lib.hid (HY.out.below hb); replace HZ := Lib.hid (HZ.out.below hb); replace HR := Lib.hid (rd_on HR.out hb); replace SEP := Lib.hid (rd_on SEP.out hb); replace HG := Lib.hid (HG.out.trans (hb.mono HG.out.size)); clear hb; have SRP := Lib.hid hrx; clear hrx)
        | (refine load_g (by rfl) 57 (.tmp 5) (by rfl) (w.heap.size + 1) 0 (by rfl) ca _ (range_blk HY.out) Tryz.underlying57 (by rfl) HAI.out ?_)
        | (go_at_call 19; refine Calls.mono (EA.out _ HM.out.2.1) ?_; rintro e wx ⟨AEA, cEA, rfl, _, hrx, hb⟩; clear EA; replace HX := Lib.hid (HX.out.below hb); replace HY := Lib.hid (HY.out.below hb); replace HZ := Lib.hid (HZ.out.below hb); replace HR := Lib.hid (rd_on HR.out hb); replace SEP := Lib.hid (rd_on SEP.out hb); replace SRP := Lib.hid (rd_on SRP.out hb); replace HG := Lib.hid (HG.out.trans (hb.mono HG.out.size)); clear hb; have SEA := Lib.hid hrx; clear hrx)
        | (go_at_call 20; refine Calls.mono (RA.out _ HM.out.2.1) ?_; rintro e wx ⟨ARA, cRA, rfl, _, hrx, hb⟩; clear RA; replace HX := Lib.hid (HX.out.below hb); replace HY := Lib.hid (HY.out.below hb); replace HZ := Lib.hid (HZ.out.below hb); replace HR := Lib.hid (rd_on HR.out hb); replace SEP := Lib.hid (rd_on SEP.out hb); replace SRP := Lib.hid (rd_on SRP.out hb); replace SEA := Lib.hid (rd_on SEA.out hb); replace HG := Lib.hid (HG.out.trans (hb.mono HG.out.size)); clear hb; have SRA := Lib.hid hrx; clear hrx)
        | (refine load_g (by rfl) 59 (.tmp 6) (by rfl) (w.heap.size + 1 + 1) 0 (by rfl) cr _ (range_blk HZ.out) Tryz.underlying59 (by rfl) HQI.out ?_)
        | (go_at_call 21; refine Calls.mono (ER.out _ HM.out.2.2.1) ?_; rintro e wx ⟨AER, cER, rfl, _, hrx, hb⟩; clear ER; replace HX := Lib.hid (HX.out.below hb); replace HY := Lib.hid (HY.out.below hb); replace HZ := Lib.hid (HZ.out.below hb); replace HR := Lib.hid (rd_on HR.out hb); replace SEP := Lib.hid (rd_on SEP.out hb); replace SRP := Lib.hid (rd_on SRP.out hb); replace SEA := Lib.hid (rd_on SEA.out hb); replace SRA := Lib.hid (rd_on SRA.out hb); replace HG := Lib.hid (HG.out.trans (hb.mono HG.out.size)); clear hb; have SER := Lib.hid hrx; clear hrx)
        | (go_at_call 22; refine Calls.mono (RR.out _ HM.out.2.2.1) ?_; rintro e wx ⟨ARR, cRR, rfl, _, hrx, hb⟩; clear RR; replace HX := Lib.hid (HX.out.below hb); replace HY := Lib.hid (HY.out.below hb); replace HZ := Lib.hid (HZ.out.below hb); replace HR := Lib.hid (rd_on HR.out hb); replace SEP := Lib.hid (rd_on SEP.out hb); replace SRP := Lib.hid (rd_on SRP.out hb); replace SEA := Lib.hid (rd_on SEA.out hb); replace SRA := Lib.hid (rd_on SRA.out hb); replace SER := Lib.hid (rd_on SER.out hb); replace HG := Lib.hid (HG.out.trans (hb.mono HG.out.size)); clear hb; have SRR := Lib.hid hrx; clear hrx; have cv0 := run_bytes_str (P := Tryz.prog) wx 26 5 Tryz.underlying26 Tryz.underlying5 SEP.out y1.length cEP rfl 9 Tryz.underlying9; have cv1 := run_bytes_str (P := Tryz.prog) wx 26 5 Tryz.underlying26 Tryz.underlying5 SRP.out y1.length cRP rfl 9 Tryz.underlying9; have cv2 := run_bytes_str (P := Tryz.prog) wx 26 5 Tryz.underlying26 Tryz.underlying5 SEA.out y2.length cEA rfl 9 Tryz.underlying9; have cv3 := run_bytes_str (P := Tryz.prog) wx 26 5 Tryz.underlying26 Tryz.underlying5 SRA.out y2.length cRA rfl 9 Tryz.underlying9; have cv4 := run_bytes_str (P := Tryz.prog) wx 26 5 Tryz.underlying26 Tryz.underlying5 SER.out y3.length cER rfl 9 Tryz.underlying9; have cv5 := run_bytes_str (P := Tryz.prog) wx 26 5 Tryz.underlying26 Tryz.underlying5 SRR.out y3.length cRR rfl 9 Tryz.underlying9; clear SEP SRP SEA SRA SER SRR)
        | (go_at_call 23; refine Calls.mono (DP.out _ _ _ HR.out) ?_; rintro e wDP ⟨rfl, hb⟩; clear DP; replace HR := Lib.hid (rd_on HR.out hb); replace HG := Lib.hid (HG.out.trans (hb.mono HG.out.size)); clear hb; clear HX HY HZ)
        | (refine store_new (by rfl) 55 (.tmp 21) (.tmp 121) (by rfl) 55 rfl cq (by rfl) (by rfl) (by rw [PDS.out]; rfl) PDI.out PDO.out ?_; rintro V1 hV hb; replace HR := Lib.hid (rd_on HR.out hb); replace HG := Lib.hid (HG.out.trans (hb.mono HG.out.size)); clear hb; have BDP := Lib.hid hV; clear hV)
        | (go_at_call 24; refine Calls.mono (FP.out _ _ _ HR.out HC.out) ?_; rintro e wFP ⟨rfl, hb⟩; clear FP; replace BDP := Lib.hid (BDP.out.below hb); replace HR := Lib.hid (rd_on HR.out hb); replace HG := Lib.hid (HG.out.trans (hb.mono HG.out.size)); clear hb)
        | (refine store_new (by rfl) 55 (.tmp 23) (.tmp 126) (by rfl) 55 rfl cq (by rfl) (by rfl) (by rw [PDS.out]; rfl) PDI.out PDO.out ?_; rintro V2 hV hb; replace BDP := Lib.hid (BDP.out.below hb); replace HR := Lib.hid (rd_on HR.out hb); replace HG := Lib.hid (HG.out.trans (hb.mono HG.out.size)); clear hb; have BFP := Lib.hid hV; clear hV)
        | (go_at_call 25; refine Calls.mono (DA.out _ _ _ HR.out) ?_; rintro e wDA ⟨rfl, hb⟩; clear DA; replace BDP := Lib.hid (BDP.out.below hb); replace BFP := Lib.hid (BFP.out.below hb); replace HR := Lib.hid (rd_on HR.out hb); replace HG := Lib.hid (HG.out.trans (hb.mono HG.out.size)); clear hb)
        | (refine store_new (by rfl) 57 (.tmp 25) (.tmp 131) (by rfl) 57 rfl cb (by rfl) (by rfl) (by rw [ADS.out]; rfl) ADI.out ADO.out ?_; rintro V3 hV hb; replace BDP := Lib.hid (BDP.out.below hb); replace BFP := Lib.hid (BFP.out.below hb); replace HR := Lib.hid (rd_on HR.out hb); replace HG := Lib.hid (HG.out.trans (hb.mono HG.out.size)); clear hb; have BDA := Lib.hid hV; clear hV)
        | (go_at_call 26; refine Calls.mono (FA.out _ _ _ HR.out HC.out) ?_; rintro e wFA ⟨rfl, hb⟩; clear FA; replace BDP := Lib.hid (BDP.out.below hb); replace BFP := Lib.hid (BFP.out.below hb); replace BDA := Lib.hid (BDA.out.below hb); replace HR := Lib.hid (rd_on HR.out hb); replace HG := Lib.hid (HG.out.trans (hb.mono HG.out.size)); clear hb)
        | (refine store_new (by rfl) 57 (.tmp 27) (.tmp 136) (by rfl) 57 rfl cb (by rfl) (by rfl) (by rw [ADS.out]; rfl) ADI.out ADO.out ?_; rintro V4 hV hb; replace BDP := Lib.hid (BDP.out.below hb); replace BFP := Lib.hid (BFP.out.below hb); replace BDA := Lib.hid (BDA.out.below hb); replace HR := Lib.hid (rd_on HR.out hb); replace HG := Lib.hid (HG.out.trans (hb.mono HG.out.size)); clear hb; have BFA := Lib.hid hV; clear hV)
        | (go_at_call 27; refine Calls.mono (DR.out _ _ _ HR.out) ?_; rintro e wDR ⟨rfl, hb⟩; clear DR; replace BDP := Lib.hid (BDP.out.below hb); replace BFP := Lib.hid (BFP.out.below hb); replace BDA := Lib.hid (BDA.out.below hb); replace BFA := Lib.hid (BFA.out.below hb); replace HR := Lib.hid (rd_on HR.out hb); replace HG := Lib.hid (HG.out.trans (hb.mono HG.out.size)); clear hb)
        | (refine store_new (by rfl) 59 (.tmp 29) (.tmp 141) (by rfl) 59 rfl cz (by rfl) (by rfl) (by rw [RDS.out]; rfl) RDI.out RDO.out ?_; rintro V5 hV hb; replace BDP := Lib.hid (BDP.out.below hb); replace BFP := Lib.hid (BFP.out.below hb); replace BDA := Lib.hid (BDA.out.below hb); replace BFA := Lib.hid (BFA.out.below hb); replace HR := Lib.hid (rd_on HR.out hb); replace HG := Lib.hid (HG.out.trans (hb.mono HG.out.size)); clear hb; have BDR := Lib.hid hV; clear hV)
        | (go_at_call 28; refine Calls.mono (FR.out _ _ _ HR.out HC.out) ?_; rintro e wFR ⟨rfl, hb⟩; clear FR; replace BDP := Lib.hid (BDP.out.below hb); replace BFP := Lib.hid (BFP.out.below hb); replace BDA := Lib.hid (BDA.out.below hb); replace BFA := Lib.hid (BFA.out.below hb); replace BDR := Lib.hid (BDR.out.below hb); replace HR := Lib.hid (rd_on HR.out hb); replace HG := Lib.hid (HG.out.trans (hb.mono HG.out.size)); clear hb)
        | (refine store_new (by rfl) 59 (.tmp 31) (.tmp 146) (by rfl) 59 rfl cz (by rfl) (by rfl) (by rw [RDS.out]; rfl) RDI.out RDO.out ?_; rintro V6 hV hb; replace BDP := Lib.hid (BDP.out.below hb); replace BFP := Lib.hid (BFP.out.below hb); replace BDA := Lib.hid (BDA.out.below hb); replace BFA := Lib.hid (BFA.out.below hb); replace BDR := Lib.hid (BDR.out.below hb); replace HR := Lib.hid (rd_on HR.out hb); replace HG := Lib.hid (HG.out.trans (hb.mono HG.out.size)); clear hb; have BFR := Lib.hid hV; clear hV)
        | (refine load_g (by rfl) 55 (.tmp 21) (by rfl) (wDP.heap.size) 0 (by rfl) cq _ (range_blk BDP.out) Tryz.underlying55 (by rfl) PDI.out ?_)
        | (refine load_g (by rfl) 55 (.tmp 23) (by rfl) (wFP.heap.size) 0 (by rfl) cq _ (range_blk BFP.out) Tryz.underlying55 (by rfl) PDI.out ?_)
        | (refine load_g (by rfl) 57 (.tmp 25) (by rfl) (wDA.heap.size) 0 (by rfl) cb _ (range_blk BDA.out) Tryz.underlying57 (by rfl) ADI.out ?_)
        | (refine load_g (by rfl) 57 (.tmp 27) (by rfl) (wFA.heap.size) 0 (by rfl) cb _ (range_blk BFA.out) Tryz.underlying57 (by rfl) ADI.out ?_)
        | (refine load_g (by rfl) 59 (.tmp 29) (by rfl) (wDR.heap.size) 0 (by rfl) cz _ (range_blk BDR.out) Tryz.underlying59 (by rfl) RDI.out ?_)
        | (refine load_g (by rfl) 59 (.tmp 31) (by rfl) (wFR.heap.size) 0 (by rfl) cz _ (range_blk BFR.out) Tryz.underlying59 (by rfl) RDI.out ?_)
        | (go_at_call 15; refine Calls.mono (known_any _) ?_; rintro e wx ⟨rfl, hb⟩; replace HG := Lib.hid (HG.out.trans (hb.mono HG.out.size)); clear hb)
        | fail)
      go_ret
      exact ⟨rfl, HG.out⟩
  · have t0 : decide ((3000 : Int) < n1 + (s.length : Int) + n2 + n3) = true := decide_eq_true (by omega)
    clear HN HSM EP RP EA RA ER RR
    go_enter Tryz.func4, Tryz.ntmps4
    go_upto_region 1 with fail
    generalize (((w.alloc (.cells cp 55)).alloc (.cells ca 57)).alloc (.cells cr 59)) = W at HX HY HZ HG HR ⊢
    refine Reg.region_begin 21 rfl (by kernel_rfl) ?_
    have hb : Below W.heap.size W W.drew := below_drewN (Below.refl _ _) 1
    replace HX := Lib.hid (HX.out.below hb); replace HY := Lib.hid (HY.out.below hb); replace HZ := Lib.hid (HZ.out.below hb); replace HG := Lib.hid (HG.out.trans (hb.mono HG.out.size)); replace HR := Lib.hid (rd_on HR.out hb); clear hb
    refine Reg.take_op 0 (v := ?vc0) rfl (by kernel_rfl) (by kernel_rfl) (by kernel_rfl) (fun _ _ _ h => h) (by rfl) (fun w' hS => ?hc0) ?rc0
    case hc0 => go_simp; rfl
    simp only [Act.put, List.setIfInBounds_toArray, List.set_cons_zero, List.set_cons_succ]
    refine Reg.take_op 1 (v := ?vc1) rfl (by kernel_rfl) (by kernel_rfl) (by kernel_rfl) (fun _ _ _ h => h) (by rfl) (fun w' hS => ?hc1) ?rc1
    case hc1 => obtain ⟨q0, q1, q2, _, _⟩ := CF1.out _ (HX.out.below hS); go_simp; rfl
    simp only [Act.put, List.setIfInBounds_toArray, List.set_cons_zero, List.set_cons_succ]
    refine Reg.take_op 3 (v := ?vc3) rfl (by kernel_rfl) (by kernel_rfl) (by kernel_rfl) (fun _ _ _ h => h) (by rfl) (fun w' hS => ?hc3) ?rc3
    case hc3 => go_simp; rfl
    simp only [Act.put, List.setIfInBounds_toArray, List.set_cons_zero, List.set_cons_succ]
    refine Reg.take_op 4 (v := ?vc4) rfl (by kernel_rfl) (by kernel_rfl) (by kernel_rfl) (fun _ _ _ h => h) (by rfl) (fun w' hS => ?hc4) ?rc4
    case hc4 => obtain ⟨q0, q1, q2, _, _⟩ := CF1.out _ (HX.out.below hS); go_simp; rfl
    simp only [Act.put, List.setIfInBounds_toArray, List.set_cons_zero, List.set_cons_succ]
    refine Reg.take_op 5 (v := ?vc5) rfl (by kernel_rfl) (by kernel_rfl) (by kernel_rfl) (fun _ _ _ h => h) (by rfl) (fun w' hS => ?hc5) ?rc5
    case hc5 => go_simp; rfl
    simp only [Act.put, List.setIfInBounds_toArray, List.set_cons_zero, List.set_cons_succ]
    refine Reg.take_op 7 (v := ?vc7) rfl (by kernel_rfl) (by kernel_rfl) (by kernel_rfl) (fun _ _ _ h => h) (by rfl) (fun w' hS => ?hc7) ?rc7
    case hc7 => go_simp; rfl
    simp only [Act.put, List.setIfInBounds_toArray, List.set_cons_zero, List.set_cons_succ]
    refine Reg.take_op 8 (v := ?vc8) rfl (by kernel_rfl) (by kernel_rfl) (by kernel_rfl) (fun _ _ _ h => h) (by rfl) (fun w' hS => ?hc8) ?rc8
    case hc8 => have hk := HY.out.below hS; have q0 := CA0.out _ hk; have q1 := CA1.out _ hk; go_simp; rfl
    simp only [Act.put, List.setIfInBounds_toArray, List.set_cons_zero, List.set_cons_succ]
    refine Reg.take_op 11 (v := ?vc11) rfl (by kernel_rfl) (by kernel_rfl) (by kernel_rfl) (fun _ _ _ h => h) (by rfl) (fun w' hS => ?hc11) ?rc11
    case hc11 => go_simp; rfl
    simp only [Act.put, List.setIfInBounds_toArray, List.set_cons_zero, List.set_cons_succ]
    refine Reg.take_op 12 (v := ?vc12) rfl (by kernel_rfl) (by kernel_rfl) (by kernel_rfl) (fun _ _ _ h => h) (by rfl) (fun w' hS => ?hc12) ?rc12
    case hc12 => obtain ⟨q0, q1, _, _, _⟩ := CF3.out _ (HZ.out.below hS); go_simp; rfl
    simp only [Act.put, List.setIfInBounds_toArray, List.set_cons_zero, List.set_cons_succ]
    refine Reg.call_op 2 rfl (by kernel_rfl) (by rfl) 16 #[.agg #[.string ⟨p.c.1.toArray⟩, .string ⟨p.c.2.toArray⟩]] (by go_simp) ?_
    refine Calls.mono (N1.out _) ?_
    rintro e wn1 ⟨rfl, hb⟩
    refine ⟨_, rfl, hb, ?_⟩
    replace HX := Lib.hid (HX.out.below hb); replace HY := Lib.hid (HY.out.below hb); replace HZ := Lib.hid (HZ.out.below hb); replace HG := Lib.hid (HG.out.trans (hb.mono HG.out.size)); replace HR := Lib.hid (rd_on HR.out hb); clear hb
    simp only [Act.put, List.setIfInBounds_toArray, List.set_cons_zero, List.set_cons_succ]
    refine Reg.take_op 6 (v := .int .i64 (n1 + (s.length : Int))) rfl (by kernel_rfl) (by kernel_rfl) (by kernel_rfl) (fun _ _ _ h => h) (by rfl) (fun w' hS => ?hc6) ?rc6
    case hc6 => go_simp; exact wi64 (by omega) (by omega)
    simp only [Act.put, List.setIfInBounds_toArray, List.set_cons_zero, List.set_cons_succ]
    refine Reg.call_op 9 rfl (by kernel_rfl) (by rfl) 16 #[.agg #[.string ⟨a.c.1.toArray⟩, .string ⟨a.c.2.toArray⟩]] (by go_simp) ?_
    refine Calls.mono (N2.out _) ?_
    rintro e wn2 ⟨rfl, hb⟩
    refine ⟨_, rfl, hb, ?_⟩
    replace HX := Lib.hid (HX.out.below hb); replace HY := Lib.hid (HY.out.below hb); replace HZ := Lib.hid (HZ.out.below hb); replace HG := Lib.hid (HG.out.trans (hb.mono HG.out.size)); replace HR := Lib.hid (rd_on HR.out hb); clear hb
    simp only [Act.put, List.setIfInBounds_toArray, List.set_cons_zero, List.set_cons_succ]
    refine Reg.take_op 10 (v := .int .i64 (n1 + (s.length : Int) + n2)) rfl (by kernel_rfl) (by kernel_rfl) (by kernel_rfl) (fun _ _ _ h => h) (by rfl) (fun w' hS => ?hc10) ?rc10
    case hc10 => go_simp; exact wi64 (by omega) (by omega)
    simp only [Act.put, List.setIfInBounds_toArray, List.set_cons_zero, List.set_cons_succ]
    refine Reg.call_op 13 rfl (by kernel_rfl) (by rfl) 16 #[.agg #[.string ⟨r.s.1.toArray⟩, .string ⟨r.s.2.toArray⟩]] (by go_simp) ?_
    refine Calls.mono (N3.out _) ?_
    rintro e wn3 ⟨rfl, hb⟩
    refine ⟨_, rfl, hb, ?_⟩
    replace HX := Lib.hid (HX.out.below hb); replace HY := Lib.hid (HY.out.below hb); replace HZ := Lib.hid (HZ.out.below hb); replace HG := Lib.hid (HG.out.trans (hb.mono HG.out.size)); replace HR := Lib.hid (rd_on HR.out hb); clear hb
    simp only [Act.put, List.setIfInBounds_toArray, List.set_cons_zero, List.set_cons_succ]
    refine Reg.take_op 14 (v := .int .i64 (n1 + (s.length : Int) + n2 + n3)) rfl (by kernel_rfl) (by kernel_rfl) (by kernel_rfl) (fun _ _ _ h => h) (by rfl) (fun w' hS => ?hc14) ?rc14
    case hc14 => go_simp; exact wi64 (by omega) (by omega)
    simp only [Act.put, List.setIfInBounds_toArray, List.set_cons_zero, List.set_cons_succ]
    refine Reg.take_op 15 (v := .bool true) rfl (by kernel_rfl) (by kernel_rfl) (by kernel_rfl) (fun _ _ _ h => h) (by rfl) (fun w' hS => ?hc15) ?rc15
    case hc15 => go_simp
    simp only [Act.put, List.setIfInBounds_toArray, List.set_cons_zero, List.set_cons_succ]
    refine Reg.take_op 16 (v := ?vc16) rfl (by kernel_rfl) (by kernel_rfl) (by kernel_rfl) (fun _ _ _ h => h) (by rfl) (fun w' hS => ?hc16) ?rc16
    case hc16 => go_simp; rfl
    simp only [Act.put, List.setIfInBounds_toArray, List.set_cons_zero, List.set_cons_succ]
    refine Reg.skip_op 17 rfl (by kernel_rfl) (by kernel_rfl) (by kernel_rfl) (fun _ _ _ h => h) (by rfl) ?_
    simp only [Act.put, List.setIfInBounds_toArray, List.set_cons_zero, List.set_cons_succ]
    refine Reg.skip_op 18 rfl (by kernel_rfl) (by kernel_rfl) (by kernel_rfl) (fun _ _ _ h => h) (by rfl) ?_
    simp only [Act.put, List.setIfInBounds_toArray, List.set_cons_zero, List.set_cons_succ]
    refine Reg.skip_op 19 rfl (by kernel_rfl) (by kernel_rfl) (by kernel_rfl) (fun _ _ _ h => h) (by rfl) ?_
    simp only [Act.put, List.setIfInBounds_toArray, List.set_cons_zero, List.set_cons_succ]
    refine Reg.take_op 20 (v := ?vc20) rfl (by kernel_rfl) (by kernel_rfl) (by kernel_rfl) (fun _ _ _ h => h) (by rfl) (fun w' hS => ?hc20) ?rc20
    case hc20 => go_simp; rfl
    simp only [Act.put, List.setIfInBounds_toArray, List.set_cons_zero, List.set_cons_succ]
    refine wpAnyH_done (by kernel_rfl) ?_ _
    go_wp2
    go_ret
    exact ⟨rfl, HG.out⟩
end Go.Proofs.YteeabfplnaknfaaGreat.Mc
end
