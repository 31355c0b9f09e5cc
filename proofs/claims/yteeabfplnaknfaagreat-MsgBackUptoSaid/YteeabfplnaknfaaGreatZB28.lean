import Derived.Deep.LoopGhost
import Derived.Deep.CutRange
import Derived.Test.YteeabfplnaknfaaGreatZB1
import Derived.Test.YteeabfplnaknfaaGreatZB2
import Derived.Test.YteeabfplnaknfaaGreatZB3
import Derived.Test.YteeabfplnaknfaaGreatZB4
import Derived.Test.YteeabfplnaknfaaGreatZB5
import Derived.Test.YteeabfplnaknfaaGreatZB6
import Derived.Test.YteeabfplnaknfaaGreatZB7
import Derived.Test.YteeabfplnaknfaaGreatZB8
import Derived.Test.YteeabfplnaknfaaGreatZB9
import Derived.Test.YteeabfplnaknfaaGreatZB10
import Derived.Test.YteeabfplnaknfaaGreatZB11
import Derived.Test.YteeabfplnaknfaaGreatZB12
import Derived.Test.YteeabfplnaknfaaGreatZB13
import Derived.Test.YteeabfplnaknfaaGreatZB14
import Derived.Test.YteeabfplnaknfaaGreatZB15
import Derived.Test.YteeabfplnaknfaaGreatZB16
import Derived.Test.YteeabfplnaknfaaGreatZB17
import Derived.Test.YteeabfplnaknfaaGreatZB18
import Derived.Test.YteeabfplnaknfaaGreatZB19
import Derived.Test.YteeabfplnaknfaaGreatZB20
import Derived.Test.YteeabfplnaknfaaGreatZB21
import Derived.Test.YteeabfplnaknfaaGreatZB22
import Derived.Test.YteeabfplnaknfaaGreatZB25
import Derived.Test.YteeabfplnaknfaaGreatZB27
section
set_option linter.unusedVariables false
set_option linter.unusedSimpArgs false
namespace Go.Proofs.YteeabfplnaknfaaGreat.Mc
open Go.RowKit Go.Proofs.YteeabfplnaknfaaGreat.Mem Go.Proofs.YteeabfplnaknfaaGreat.DerP Go.Proofs.YteeabfplnaknfaaGreat.Ms

theorem wi8 {x : Int} (h1 : -9223372036854775808 ≤ x) (h2 : x ≤ 9223372036854775807) : IntKind.i64.wrap x = x := by rw [IntKind.wrap_i64]; omega
theorem w64_on {x : Int} (h1 : -9223372036854775808 ≤ x) (h2 : x ≤ 9223372036854775807) : wrap64 x = x := by unfold wrap64; omega
set_option maxHeartbeats 800000 in
theorem lpr_any (p : Pr) (w : World) (h1 : p.1.length ≤ 281474976710656) (h2 : p.2.length ≤ 281474976710656) : Calls Tryz.prog 16 #[.agg #[.string ⟨p.1.toArray⟩, .string ⟨p.2.toArray⟩]] w fun e w' => e = .returned (.int .i64 ((p.1.length : Int) + (p.2.length : Int))) ∧ Below w.heap.size w w' := by
  have HB := Lib.hid ((Below.refl w.heap.size w).alloc (Nat.le_refl _) (.cells #[.string ⟨p.1.toArray⟩, .string ⟨p.2.toArray⟩] 23))
  have q1 : (p.1.length : Int) ≤ 281474976710656 := by omega
  have q2 : (p.2.length : Int) ≤ 281474976710656 := by omega
  clear h1 h2
  go_enter Tryz.func16, Tryz.ntmps16
  go_wp2
  go_ret
  exact ⟨by first | rfl | (rw [w64_on (by omega) (by omega)]), HB.out⟩
set_option maxHeartbeats 3200000 in
set_option maxRecDepth 10000 in
theorem lticket_any (t : Tk) (A : Option Addr) (c : Nat) (w : World) (h1 : t.s.1.length ≤ 281474976710656) (h2 : t.s.2.length ≤ 281474976710656) (h3 : t.b.length ≤ 281474976710656) : Calls Tryz.prog 32 #[.agg #[.string ⟨t.s.1.toArray⟩, .string ⟨t.s.2.toArray⟩, .int .i64 t.k, .slice A t.b.length c]] w fun e w' => e = .returned (.int .i64 ((t.s.1.length : Int) + (t.s.2.length : Int) + (t.b.length : Int))) ∧ Below w.heap.size w w' := by
  have HG := Lib.hid ((Below.refl w.heap.size w).alloc (Nat.le_refl _) (.cells #[.string ⟨t.s.1.toArray⟩, .string ⟨t.s.2.toArray⟩, .int .i64 t.k, .slice A t.b.length c] 28))
  have HX := Lib.hid (Blk.new w 28 #[.string ⟨t.s.1.toArray⟩, .string ⟨t.s.2.toArray⟩, .int .i64 t.k, .slice A t.b.length c])
  have CF := Lib.hid (fun (w' : World) (h : Blk w' w.heap.size 28 #[.string ⟨t.s.1.toArray⟩, .string ⟨t.s.2.toArray⟩, .int .i64 t.k, .slice A t.b.length c]) => (show w'.cell? ⟨w.heap.size, 0, none⟩ = some (.string ⟨t.s.1.toArray⟩) ∧ w'.cell? ⟨w.heap.size, 1, none⟩ = some (.string ⟨t.s.2.toArray⟩) ∧ w'.cell? ⟨w.heap.size, 3, none⟩ = some (.slice A t.b.length c) from ⟨h.cell 0, h.cell 1, h.cell 3⟩))
  have N1 := Lib.hid (fun w1 => lpr_any t.s w1 h1 h2)
  obtain ⟨n1, en1⟩ : ∃ n : Int, n = (t.s.1.length : Int) + (t.s.2.length : Int) := ⟨_, rfl⟩
  rw [← en1] at N1 ⊢
  have u1 : 0 ≤ n1 := by omega
  have v1 : n1 ≤ 562949953421312 := by omega
  have v2 : (t.b.length : Int) ≤ 281474976710656 := by omega
  clear en1 h1 h2 h3
  go_enter Tryz.func32, Tryz.ntmps32
  go_upto_region 1 with fail
  generalize (w.alloc (.cells #[.string ⟨t.s.1.toArray⟩, .string ⟨t.s.2.toArray⟩, .int .i64 t.k, .slice A t.b.length c] 28)) = W at HX HG ⊢
  refine Reg.region_begin 8 rfl (by kernel_rfl) ?_
  have hb : Below W.heap.size W W.drew := below_drewN (Below.refl _ _) 1
  replace HX := Lib.hid (HX.out.below hb); replace HG := Lib.hid (HG.out.trans (hb.mono HG.out.size)); clear hb
  refine Reg.take_op 0 (v := ?vt0) rfl (by kernel_rfl) (by kernel_rfl) (by kernel_rfl) (fun _ _ _ h => h) (by rfl) (fun w' hS => ?ht0) ?rt0
  case ht0 => go_simp; rfl
  simp only [Act.put, List.setIfInBounds_toArray, List.set_cons_zero, List.set_cons_succ]
  refine Reg.take_op 1 (v := ?vt1) rfl (by kernel_rfl) (by kernel_rfl) (by kernel_rfl) (fun _ _ _ h => h) (by rfl) (fun w' hS => ?ht1) ?rt1
  case ht1 => obtain ⟨q0, q1, q3⟩ := CF.out _ (HX.out.below hS); go_simp; rfl
  simp only [Act.put, List.setIfInBounds_toArray, List.set_cons_zero, List.set_cons_succ]
  refine Reg.take_op 3 (v := ?vt3) rfl (by kernel_rfl) (by kernel_rfl) (by kernel_rfl) (fun _ _ _ h => h) (by rfl) (fun w' hS => ?ht3) ?rt3
  case ht3 => go_simp; rfl
  simp only [Act.put, List.setIfInBounds_toArray, List.set_cons_zero, List.set_cons_succ]
  refine Reg.take_op 4 (v := ?vt4) rfl (by kernel_rfl) (by kernel_rfl) (by kernel_rfl) (fun _ _ _ h => h) (by rfl) (fun w' hS => ?ht4) ?rt4
  case ht4 => obtain ⟨q0, q1, q3⟩ := CF.out _ (HX.out.below hS); go_simp; rfl
  simp only [Act.put, List.setIfInBounds_toArray, List.set_cons_zero, List.set_cons_succ]
  refine Reg.take_op 5 (v := ?vt5) rfl (by kernel_rfl) (by kernel_rfl) (by kernel_rfl) (fun _ _ _ h => h) (by rfl) (fun w' hS => ?ht5) ?rt5
  case ht5 => go_simp; rfl
  simp only [Act.put, List.setIfInBounds_toArray, List.set_cons_zero, List.set_cons_succ]
  refine Reg.call_op 2 rfl (by kernel_rfl) (by rfl) 16 #[.agg #[.string ⟨t.s.1.toArray⟩, .string ⟨t.s.2.toArray⟩]] (by go_simp) ?_
  refine Calls.mono (N1.out _) ?_
  rintro e wn1 ⟨rfl, hb⟩
  refine ⟨_, rfl, hb, ?_⟩
  replace HX := Lib.hid (HX.out.below hb); replace HG := Lib.hid (HG.out.trans (hb.mono HG.out.size)); clear hb
  simp only [Act.put, List.setIfInBounds_toArray, List.set_cons_zero, List.set_cons_succ]
  refine Reg.take_op 6 (v := .int .i64 (n1 + (t.b.length : Int))) rfl (by kernel_rfl) (by kernel_rfl) (by kernel_rfl) (fun _ _ _ h => h) (by rfl) (fun w' hS => ?ht6) ?rt6
  case ht6 => go_simp; exact wi8 (by omega) (by omega)
  simp only [Act.put, List.setIfInBounds_toArray, List.set_cons_zero, List.set_cons_succ]
  refine Reg.take_op 7 (v := ?vt7) rfl (by kernel_rfl) (by kernel_rfl) (by kernel_rfl) (fun _ _ _ h => h) (by rfl) (fun w' hS => ?ht7) ?rt7
  case ht7 => go_simp; rfl
  simp only [Act.put, List.setIfInBounds_toArray, List.set_cons_zero, List.set_cons_succ]
  refine wpAnyH_done (by kernel_rfl) ?_ _
  go_wp2
  go_ret
  exact ⟨rfl, HG.out⟩
def sizeI (m : Mg) : Int := ((((((((((m.aq.c.1.length : Int) + (m.aq.c.2.length : Int)) + ((m.aq.s.1.length : Int) + (m.aq.s.2.length : Int))) + ((m.tg.t.s.1.length : Int) + (m.tg.t.s.2.length : Int) + (m.tg.t.b.length : Int))) + (m.tg.a.length : Int)) + ((m.tg.s.1.length : Int) + (m.tg.s.2.length : Int))) + ((m.re.c.1.length : Int) + (m.re.c.2.length : Int))) + ((m.re.t.s.1.length : Int) + (m.re.t.s.2.length : Int) + (m.re.t.b.length : Int))) + (m.re.b.length : Int)) + ((m.ap.t.s.1.length : Int) + (m.ap.t.s.2.length : Int) + (m.ap.t.b.length : Int))) + (m.ap.a.length : Int)
def SzM (m : Mg) : Prop := m.aq.c.1.length ≤ 281474976710656 ∧ m.aq.c.2.length ≤ 281474976710656 ∧ m.aq.s.1.length ≤ 281474976710656 ∧ m.aq.s.2.length ≤ 281474976710656 ∧ m.tg.t.s.1.length ≤ 281474976710656 ∧ m.tg.t.s.2.length ≤ 281474976710656 ∧ m.tg.t.b.length ≤ 281474976710656 ∧ m.tg.a.length ≤ 281474976710656 ∧ m.tg.s.1.length ≤ 281474976710656 ∧ m.tg.s.2.length ≤ 281474976710656 ∧ m.re.c.1.length ≤ 281474976710656 ∧ m.re.c.2.length ≤ 281474976710656 ∧ m.re.t.s.1.length ≤ 281474976710656 ∧ m.re.t.s.2.length ≤ 281474976710656 ∧ m.re.t.b.length ≤ 281474976710656 ∧ m.re.b.length ≤ 281474976710656 ∧ m.ap.t.s.1.length ≤ 281474976710656 ∧ m.ap.t.s.2.length ≤ 281474976710656 ∧ m.ap.t.b.length ≤ 281474976710656 ∧ m.ap.a.length ≤ 281474976710656
set_option maxHeartbeats 12800000 in
set_option maxRecDepth 10000 in
theorem size_lit (m : Mg) (A1 A2 A3 A4 A5 A6 : Option Addr) (c1 c2 c3 c4 c5 c6 : Nat) (w : World) (hz : SzM m) : Calls Tryz.prog 8 #[.agg #[.int .i64 m.k, .string ⟨m.aq.c.1.toArray⟩, .string ⟨m.aq.c.2.toArray⟩, .string ⟨m.aq.s.1.toArray⟩, .string ⟨m.aq.s.2.toArray⟩, .int .i64 m.aq.t, .int .i64 m.aq.no, .string ⟨m.tg.t.s.1.toArray⟩, .string ⟨m.tg.t.s.2.toArray⟩, .int .i64 m.tg.t.k, .slice A1 m.tg.t.b.length c1, .slice A2 m.tg.a.length c2, .string ⟨m.tg.s.1.toArray⟩, .string ⟨m.tg.s.2.toArray⟩, .int .i64 m.tg.u, .int .i64 m.tg.no, .string ⟨m.re.c.1.toArray⟩, .string ⟨m.re.c.2.toArray⟩, .string ⟨m.re.t.s.1.toArray⟩, .string ⟨m.re.t.s.2.toArray⟩, .int .i64 m.re.t.k, .slice A3 m.re.t.b.length c3, .slice A4 m.re.b.length c4, .string ⟨m.ap.t.s.1.toArray⟩, .string ⟨m.ap.t.s.2.toArray⟩, .int .i64 m.ap.t.k, .slice A5 m.ap.t.b.length c5, .slice A6 m.ap.a.length c6, .int .i64 m.fa.e, .int .i64 m.fa.no]] w fun e w' => e = .returned (.int .i64 (sizeI m)) ∧ Below w.heap.size w w' := by
  obtain ⟨z0, z1, z2, z3, z4, z5, z6, z7, z8, z9, z10, z11, z12, z13, z14, z15, z16, z17, z18, z19⟩ := hz
  have HG := Lib.hid ((Below.refl w.heap.size w).alloc (Nat.le_refl _) (.cells #[.int .i64 m.k, .string ⟨m.aq.c.1.toArray⟩, .string ⟨m.aq.c.2.toArray⟩, .string ⟨m.aq.s.1.toArray⟩, .string ⟨m.aq.s.2.toArray⟩, .int .i64 m.aq.t, .int .i64 m.aq.no, .string ⟨m.tg.t.s.1.toArray⟩, .string ⟨m.tg.t.s.2.toArray⟩, .int .i64 m.tg.t.k, .slice A1 m.tg.t.b.length c1, .slice A2 m.tg.a.length c2, .string ⟨m.tg.s.1.toArray⟩, .string ⟨m.tg.s.2.toArray⟩, .int .i64 m.tg.u, .int .i64 m.tg.no, .string ⟨m.re.c.1.toArray⟩, .string ⟨m.re.c.2.toArray⟩, .string ⟨m.re.t.s.1.toArray⟩, .string ⟨m.re.t.s.2.toArray⟩, .int .i64 m.re.t.k, .slice A3 m.re.t.b.length c3, .slice A4 m.re.b.length c4, .string ⟨m.ap.t.s.1.toArray⟩, .string ⟨m.ap.t.s.2.toArray⟩, .int .i64 m.ap.t.k, .slice A5 m.ap.t.b.length c5, .slice A6 m.ap.a.length c6, .int .i64 m.fa.e, .int .i64 m.fa.no] 39))
  have HX := Lib.hid (Blk.new w 39 #[.int .i64 m.k, .string ⟨m.aq.c.1.toArray⟩, .string ⟨m.aq.c.2.toArray⟩, .string ⟨m.aq.s.1.toArray⟩, .string ⟨m.aq.s.2.toArray⟩, .int .i64 m.aq.t, .int .i64 m.aq.no, .string ⟨m.tg.t.s.1.toArray⟩, .string ⟨m.tg.t.s.2.toArray⟩, .int .i64 m.tg.t.k, .slice A1 m.tg.t.b.length c1, .slice A2 m.tg.a.length c2, .string ⟨m.tg.s.1.toArray⟩, .string ⟨m.tg.s.2.toArray⟩, .int .i64 m.tg.u, .int .i64 m.tg.no, .string ⟨m.re.c.1.toArray⟩, .string ⟨m.re.c.2.toArray⟩, .string ⟨m.re.t.s.1.toArray⟩, .string ⟨m.re.t.s.2.toArray⟩, .int .i64 m.re.t.k, .slice A3 m.re.t.b.length c3, .slice A4 m.re.b.length c4, .string ⟨m.ap.t.s.1.toArray⟩, .string ⟨m.ap.t.s.2.toArray⟩, .int .i64 m.ap.t.k, .slice A5 m.ap.t.b.length c5, .slice A6 m.ap.a.length c6, .int .i64 m.fa.e, .int .i64 m.fa.no])
  have CF := Lib.hid (fun (w' : World) (h : Blk w' w.heap.size 39 #[.int .i64 m.k, .string ⟨m.aq.c.1.toArray⟩, .string ⟨m.aq.c.2.toArray⟩, .string ⟨m.aq.s.1.toArray⟩, .string ⟨m.aq.s.2.toArray⟩, .int .i64 m.aq.t, .int .i64 m.aq.no, .string ⟨m.tg.t.s.1.toArray⟩, .string ⟨m.tg.t.s.2.toArray⟩, .int .i64 m.tg.t.k, .slice A1 m.tg.t.b.length c1, .slice A2 m.tg.a.length c2, .string ⟨m.tg.s.1.toArray⟩, .string ⟨m.tg.s.2.toArray⟩, .int .i64 m.tg.u, .int .i64 m.tg.no, .string ⟨m.re.c.1.toArray⟩, .string ⟨m.re.c.2.toArray⟩, .string ⟨m.re.t.s.1.toArray⟩, .string ⟨m.re.t.s.2.toArray⟩, .int .i64 m.re.t.k, .slice A3 m.re.t.b.length c3, .slice A4 m.re.b.length c4, .string ⟨m.ap.t.s.1.toArray⟩, .string ⟨m.ap.t.s.2.toArray⟩, .int .i64 m.ap.t.k, .slice A5 m.ap.t.b.length c5, .slice A6 m.ap.a.length c6, .int .i64 m.fa.e, .int .i64 m.fa.no]) => (show w'.cell? ⟨w.heap.size, 1, none⟩ = some (.string ⟨m.aq.c.1.toArray⟩) ∧ w'.cell? ⟨w.heap.size, 2, none⟩ = some (.string ⟨m.aq.c.2.toArray⟩) ∧ w'.cell? ⟨w.heap.size, 3, none⟩ = some (.string ⟨m.aq.s.1.toArray⟩) ∧ w'.cell? ⟨w.heap.size, 4, none⟩ = some (.string ⟨m.aq.s.2.toArray⟩) ∧ w'.cell? ⟨w.heap.size, 7, none⟩ = some (.string ⟨m.tg.t.s.1.toArray⟩) ∧ w'.cell? ⟨w.heap.size, 8, none⟩ = some (.string ⟨m.tg.t.s.2.toArray⟩) ∧ w'.cell? ⟨w.heap.size, 9, none⟩ = some (.int .i64 m.tg.t.k) ∧ w'.cell? ⟨w.heap.size, 10, none⟩ = some (.slice A1 m.tg.t.b.length c1) ∧ w'.cell? ⟨w.heap.size, 11, none⟩ = some (.slice A2 m.tg.a.length c2) ∧ w'.cell? ⟨w.heap.size, 12, none⟩ = some (.string ⟨m.tg.s.1.toArray⟩) ∧ w'.cell? ⟨w.heap.size, 13, none⟩ = some (.string ⟨m.tg.s.2.toArray⟩) ∧ w'.cell? ⟨w.heap.size, 16, none⟩ = some (.string ⟨m.re.c.1.toArray⟩) ∧ w'.cell? ⟨w.heap.size, 17, none⟩ = some (.string ⟨m.re.c.2.toArray⟩) ∧ w'.cell? ⟨w.heap.size, 18, none⟩ = some (.string ⟨m.re.t.s.1.toArray⟩) ∧ w'.cell? ⟨w.heap.size, 19, none⟩ = some (.string ⟨m.re.t.s.2.toArray⟩) ∧ w'.cell? ⟨w.heap.size, 20, none⟩ = some (.int .i64 m.re.t.k) ∧ w'.cell? ⟨w.heap.size, 21, none⟩ = some (.slice A3 m.re.t.b.length c3) ∧ w'.cell? ⟨w.heap.size, 22, none⟩ = some (.slice A4 m.re.b.length c4) ∧ w'.cell? ⟨w.heap.size, 23, none⟩ = some (.string ⟨m.ap.t.s.1.toArray⟩) ∧ w'.cell? ⟨w.heap.size, 24, none⟩ = some (.string ⟨m.ap.t.s.2.toArray⟩) ∧ w'.cell? ⟨w.heap.size, 25, none⟩ = some (.int .i64 m.ap.t.k) ∧ w'.cell? ⟨w.heap.size, 26, none⟩ = some (.slice A5 m.ap.t.b.length c5) ∧ w'.cell? ⟨w.heap.size, 27, none⟩ = some (.slice A6 m.ap.a.length c6) from ⟨h.cell 1, h.cell 2, h.cell 3, h.cell 4, h.cell 7, h.cell 8, h.cell 9, h.cell 10, h.cell 11, h.cell 12, h.cell 13, h.cell 16, h.cell 17, h.cell 18, h.cell 19, h.cell 20, h.cell 21, h.cell 22, h.cell 23, h.cell 24, h.cell 25, h.cell 26, h.cell 27⟩))
  have N0 := Lib.hid (fun w1 => lpr_any m.aq.c w1 z0 z1)
  obtain ⟨n0, en0⟩ : ∃ n : Int, n = (m.aq.c.1.length : Int) + (m.aq.c.2.length : Int) := ⟨_, rfl⟩
  rw [← en0] at N0
  have u0 : 0 ≤ n0 := by omega
  have v0 : n0 ≤ 1125899906842624 := by omega
  have N1 := Lib.hid (fun w1 => lpr_any m.aq.s w1 z2 z3)
  obtain ⟨n1, en1⟩ : ∃ n : Int, n = (m.aq.s.1.length : Int) + (m.aq.s.2.length : Int) := ⟨_, rfl⟩
  rw [← en1] at N1
  have u1 : 0 ≤ n1 := by omega
  have v1 : n1 ≤ 1125899906842624 := by omega
  have N2 := Lib.hid (fun w1 => lticket_any m.tg.t A1 c1 w1 z4 z5 z6)
  obtain ⟨n2, en2⟩ : ∃ n : Int, n = (m.tg.t.s.1.length : Int) + (m.tg.t.s.2.length : Int) + (m.tg.t.b.length : Int) := ⟨_, rfl⟩
  rw [← en2] at N2
  have u2 : 0 ≤ n2 := by omega
  have v2 : n2 ≤ 1125899906842624 := by omega
  obtain ⟨n3, en3⟩ : ∃ n : Int, n = (m.tg.a.length : Int) := ⟨_, rfl⟩
  have u3 : 0 ≤ n3 := by omega
  have v3 : n3 ≤ 1125899906842624 := by omega
  have N4 := Lib.hid (fun w1 => lpr_any m.tg.s w1 z8 z9)
  obtain ⟨n4, en4⟩ : ∃ n : Int, n = (m.tg.s.1.length : Int) + (m.tg.s.2.length : Int) := ⟨_, rfl⟩
  rw [← en4] at N4
  have u4 : 0 ≤ n4 := by omega
  have v4 : n4 ≤ 1125899906842624 := by omega
  have N5 := Lib.hid (fun w1 => lpr_any m.re.c w1 z10 z11)
  obtain ⟨n5, en5⟩ : ∃ n : Int, n = (m.re.c.1.length : Int) + (m.re.c.2.length : Int) := ⟨_, rfl⟩
  rw [← en5] at N5
  have u5 : 0 ≤ n5 := by omega
  have v5 : n5 ≤ 1125899906842624 := by omega
  have N6 := Lib.hid (fun w1 => lticket_any m.re.t A3 c3 w1 z12 z13 z14)
  obtain ⟨n6, en6⟩ : ∃ n : Int, n = (m.re.t.s.1.length : Int) + (m.re.t.s.2.length : Int) + (m.re.t.b.length : Int) := ⟨_, rfl⟩
  rw [← en6] at N6
  have u6 : 0 ≤ n6 := by omega
  have v6 : n6 ≤ 1125899906842624 := by omega
  obtain ⟨n7, en7⟩ : ∃ n : Int, n = (m.re.b.length : Int) := ⟨_, rfl⟩
  have u7 : 0 ≤ n7 := by omega
  have v7 : n7 ≤ 1125899906842624 := by omega
  have N8 := Lib.hid (fun w1 => lticket_any m.ap.t A5 c5 w1 z16 z17 z18)
  obtain ⟨n8, en8⟩ : ∃ n : Int, n = (m.ap.t.s.1.length : Int) + (m.ap.t.s.2.length : Int) + (m.ap.t.b.length : Int) := ⟨_, rfl⟩
  rw [← en8] at N8
  have u8 : 0 ≤ n8 := by omega
  have v8 : n8 ≤ 1125899906842624 := by omega
  obtain ⟨n9, en9⟩ : ∃ n : Int, n = (m.ap.a.length : Int) := ⟨_, rfl⟩
  have u9 : 0 ≤ n9 := by omega
  have v9 : n9 ≤ 1125899906842624 := by omega
  have ET := Lib.hid (show sizeI m = n0 + n1 + n2 + n3 + n4 + n5 + n6 + n7 + n8 + n9 by rw [sizeI, en0, en1, en2, en3, en4, en5, en6, en7, en8, en9])
  clear z0 z1 z2 z3 z4 z5 z6 z7 z8 z9 z10 z11 z12 z13 z14 z15 z16 z17 z18 z19
  have EB1 := Lib.hid en3; have EB2 := Lib.hid en7; have EB3 := Lib.hid en9
  clear en0 en1 en2 en3 en4 en5 en6 en7 en8 en9
  rw [ET.out]
  go_enter Tryz.func8, Tryz.ntmps8
  go_upto_region 1 with fail
  generalize (w.alloc (.cells #[.int .i64 m.k, .string ⟨m.aq.c.1.toArray⟩, .string ⟨m.aq.c.2.toArray⟩, .string ⟨m.aq.s.1.toArray⟩, .string ⟨m.aq.s.2.toArray⟩, .int .i64 m.aq.t, .int .i64 m.aq.no, .string ⟨m.tg.t.s.1.toArray⟩, .string ⟨m.tg.t.s.2.toArray⟩, .int .i64 m.tg.t.k, .slice A1 m.tg.t.b.length c1, .slice A2 m.tg.a.length c2, .string ⟨m.tg.s.1.toArray⟩, .string ⟨m.tg.s.2.toArray⟩, .int .i64 m.tg.u, .int .i64 m.tg.no, .string ⟨m.re.c.1.toArray⟩, .string ⟨m.re.c.2.toArray⟩, .string ⟨m.re.t.s.1.toArray⟩, .string ⟨m.re.t.s.2.toArray⟩, .int .i64 m.re.t.k, .slice A3 m.re.t.b.length c3, .slice A4 m.re.b.length c4, .string ⟨m.ap.t.s.1.toArray⟩, .string ⟨m.ap.t.s.2.toArray⟩, .int .i64 m.ap.t.k, .slice A5 m.ap.t.b.length c5, .slice A6 m.ap.a.length c6, .int .i64 m.fa.e, .int .i64 m.fa.no] 39)) = W at HX HG ⊢
  refine Reg.region_begin 50 rfl (by kernel_rfl) ?_
  have hb : Below W.heap.size W W.drew := below_drewN (Below.refl _ _) 1
  replace HX := Lib.hid (HX.out.below hb); replace HG := Lib.hid (HG.out.trans (hb.mono HG.out.size)); clear hb
  refine Reg.take_op 0 (v := ?vz0) rfl (by kernel_rfl) (by kernel_rfl) (by kernel_rfl) (fun _ _ _ h => h) (by rfl) (fun w' hS => ?hz0) ?rz0
  case hz0 => go_simp; rfl
  simp only [Act.put, List.setIfInBounds_toArray, List.set_cons_zero, List.set_cons_succ]
  refine Reg.take_op 1 (v := ?vz1) rfl (by kernel_rfl) (by kernel_rfl) (by kernel_rfl) (fun _ _ _ h => h) (by rfl) (fun w' hS => ?hz1) ?rz1
  case hz1 => go_simp; rfl
  simp only [Act.put, List.setIfInBounds_toArray, List.set_cons_zero, List.set_cons_succ]
  refine Reg.take_op 2 (v := ?vz2) rfl (by kernel_rfl) (by kernel_rfl) (by kernel_rfl) (fun _ _ _ h => h) (by rfl) (fun w' hS => ?hz2) ?rz2
  case hz2 => obtain ⟨q1, q2, q3, q4, q7, q8, q9, q10, q11, q12, q13, q16, q17, q18, q19, q20, q21, q22, q23, q24, q25, q26, q27⟩ := CF.out _ (HX.out.below hS); go_simp; rfl
  simp only [Act.put, List.setIfInBounds_toArray, List.set_cons_zero, List.set_cons_succ]
  refine Reg.take_op 4 (v := ?vz4) rfl (by kernel_rfl) (by kernel_rfl) (by kernel_rfl) (fun _ _ _ h => h) (by rfl) (fun w' hS => ?hz4) ?rz4
  case hz4 => go_simp; rfl
  simp only [Act.put, List.setIfInBounds_toArray, List.set_cons_zero, List.set_cons_succ]
  refine Reg.take_op 5 (v := ?vz5) rfl (by kernel_rfl) (by kernel_rfl) (by kernel_rfl) (fun _ _ _ h => h) (by rfl) (fun w' hS => ?hz5) ?rz5
  case hz5 => go_simp; rfl
  simp only [Act.put, List.setIfInBounds_toArray, List.set_cons_zero, List.set_cons_succ]
  refine Reg.take_op 6 (v := ?vz6) rfl (by kernel_rfl) (by kernel_rfl) (by kernel_rfl) (fun _ _ _ h => h) (by rfl) (fun w' hS => ?hz6) ?rz6
  case hz6 => obtain ⟨q1, q2, q3, q4, q7, q8, q9, q10, q11, q12, q13, q16, q17, q18, q19, q20, q21, q22, q23, q24, q25, q26, q27⟩ := CF.out _ (HX.out.below hS); go_simp; rfl
  simp only [Act.put, List.setIfInBounds_toArray, List.set_cons_zero, List.set_cons_succ]
  refine Reg.take_op 9 (v := ?vz9) rfl (by kernel_rfl) (by kernel_rfl) (by kernel_rfl) (fun _ _ _ h => h) (by rfl) (fun w' hS => ?hz9) ?rz9
  case hz9 => go_simp; rfl
  simp only [Act.put, List.setIfInBounds_toArray, List.set_cons_zero, List.set_cons_succ]
  refine Reg.take_op 10 (v := ?vz10) rfl (by kernel_rfl) (by kernel_rfl) (by kernel_rfl) (fun _ _ _ h => h) (by rfl) (fun w' hS => ?hz10) ?rz10
  case hz10 => go_simp; rfl
  simp only [Act.put, List.setIfInBounds_toArray, List.set_cons_zero, List.set_cons_succ]
  refine Reg.take_op 11 (v := ?vz11) rfl (by kernel_rfl) (by kernel_rfl) (by kernel_rfl) (fun _ _ _ h => h) (by rfl) (fun w' hS => ?hz11) ?rz11
  case hz11 => obtain ⟨q1, q2, q3, q4, q7, q8, q9, q10, q11, q12, q13, q16, q17, q18, q19, q20, q21, q22, q23, q24, q25, q26, q27⟩ := CF.out _ (HX.out.below hS); go_simp; rfl
  simp only [Act.put, List.setIfInBounds_toArray, List.set_cons_zero, List.set_cons_succ]
  refine Reg.take_op 14 (v := ?vz14) rfl (by kernel_rfl) (by kernel_rfl) (by kernel_rfl) (fun _ _ _ h => h) (by rfl) (fun w' hS => ?hz14) ?rz14
  case hz14 => go_simp; rfl
  simp only [Act.put, List.setIfInBounds_toArray, List.set_cons_zero, List.set_cons_succ]
  refine Reg.take_op 15 (v := ?vz15) rfl (by kernel_rfl) (by kernel_rfl) (by kernel_rfl) (fun _ _ _ h => h) (by rfl) (fun w' hS => ?hz15) ?rz15
  case hz15 => go_simp; rfl
  simp only [Act.put, List.setIfInBounds_toArray, List.set_cons_zero, List.set_cons_succ]
  refine Reg.take_op 16 (v := ?vz16) rfl (by kernel_rfl) (by kernel_rfl) (by kernel_rfl) (fun _ _ _ h => h) (by rfl) (fun w' hS => ?hz16) ?rz16
  case hz16 => obtain ⟨q1, q2, q3, q4, q7, q8, q9, q10, q11, q12, q13, q16, q17, q18, q19, q20, q21, q22, q23, q24, q25, q26, q27⟩ := CF.out _ (HX.out.below hS); go_simp; rfl
  simp only [Act.put, List.setIfInBounds_toArray, List.set_cons_zero, List.set_cons_succ]
  refine Reg.take_op 17 (v := .int .i64 n3) rfl (by kernel_rfl) (by kernel_rfl) (by kernel_rfl) (fun _ _ _ h => h) (by rfl) (fun w' hS => ?hz17) ?rz17
  case hz17 => rw [EB1.out]; go_simp
  simp only [Act.put, List.setIfInBounds_toArray, List.set_cons_zero, List.set_cons_succ]
  refine Reg.take_op 19 (v := ?vz19) rfl (by kernel_rfl) (by kernel_rfl) (by kernel_rfl) (fun _ _ _ h => h) (by rfl) (fun w' hS => ?hz19) ?rz19
  case hz19 => go_simp; rfl
  simp only [Act.put, List.setIfInBounds_toArray, List.set_cons_zero, List.set_cons_succ]
  refine Reg.take_op 20 (v := ?vz20) rfl (by kernel_rfl) (by kernel_rfl) (by kernel_rfl) (fun _ _ _ h => h) (by rfl) (fun w' hS => ?hz20) ?rz20
  case hz20 => go_simp; rfl
  simp only [Act.put, List.setIfInBounds_toArray, List.set_cons_zero, List.set_cons_succ]
  refine Reg.take_op 21 (v := ?vz21) rfl (by kernel_rfl) (by kernel_rfl) (by kernel_rfl) (fun _ _ _ h => h) (by rfl) (fun w' hS => ?hz21) ?rz21
  case hz21 => obtain ⟨q1, q2, q3, q4, q7, q8, q9, q10, q11, q12, q13, q16, q17, q18, q19, q20, q21, q22, q23, q24, q25, q26, q27⟩ := CF.out _ (HX.out.below hS); go_simp; rfl
  simp only [Act.put, List.setIfInBounds_toArray, List.set_cons_zero, List.set_cons_succ]
  refine Reg.take_op 24 (v := ?vz24) rfl (by kernel_rfl) (by kernel_rfl) (by kernel_rfl) (fun _ _ _ h => h) (by rfl) (fun w' hS => ?hz24) ?rz24
  case hz24 => go_simp; rfl
  simp only [Act.put, List.setIfInBounds_toArray, List.set_cons_zero, List.set_cons_succ]
  refine Reg.take_op 25 (v := ?vz25) rfl (by kernel_rfl) (by kernel_rfl) (by kernel_rfl) (fun _ _ _ h => h) (by rfl) (fun w' hS => ?hz25) ?rz25
  case hz25 => go_simp; rfl
  simp only [Act.put, List.setIfInBounds_toArray, List.set_cons_zero, List.set_cons_succ]
  refine Reg.take_op 26 (v := ?vz26) rfl (by kernel_rfl) (by kernel_rfl) (by kernel_rfl) (fun _ _ _ h => h) (by rfl) (fun w' hS => ?hz26) ?rz26
  case hz26 => obtain ⟨q1, q2, q3, q4, q7, q8, q9, q10, q11, q12, q13, q16, q17, q18, q19, q20, q21, q22, q23, q24, q25, q26, q27⟩ := CF.out _ (HX.out.below hS); go_simp; rfl
  simp only [Act.put, List.setIfInBounds_toArray, List.set_cons_zero, List.set_cons_succ]
  refine Reg.take_op 29 (v := ?vz29) rfl (by kernel_rfl) (by kernel_rfl) (by kernel_rfl) (fun _ _ _ h => h) (by rfl) (fun w' hS => ?hz29) ?rz29
  case hz29 => go_simp; rfl
  simp only [Act.put, List.setIfInBounds_toArray, List.set_cons_zero, List.set_cons_succ]
  refine Reg.take_op 30 (v := ?vz30) rfl (by kernel_rfl) (by kernel_rfl) (by kernel_rfl) (fun _ _ _ h => h) (by rfl) (fun w' hS => ?hz30) ?rz30
  case hz30 => go_simp; rfl
  simp only [Act.put, List.setIfInBounds_toArray, List.set_cons_zero, List.set_cons_succ]
  refine Reg.take_op 31 (v := ?vz31) rfl (by kernel_rfl) (by kernel_rfl) (by kernel_rfl) (fun _ _ _ h => h) (by rfl) (fun w' hS => ?hz31) ?rz31
  case hz31 => obtain ⟨q1, q2, q3, q4, q7, q8, q9, q10, q11, q12, q13, q16, q17, q18, q19, q20, q21, q22, q23, q24, q25, q26, q27⟩ := CF.out _ (HX.out.below hS); go_simp; rfl
  simp only [Act.put, List.setIfInBounds_toArray, List.set_cons_zero, List.set_cons_succ]
  refine Reg.take_op 34 (v := ?vz34) rfl (by kernel_rfl) (by kernel_rfl) (by kernel_rfl) (fun _ _ _ h => h) (by rfl) (fun w' hS => ?hz34) ?rz34
  case hz34 => go_simp; rfl
  simp only [Act.put, List.setIfInBounds_toArray, List.set_cons_zero, List.set_cons_succ]
  refine Reg.take_op 35 (v := ?vz35) rfl (by kernel_rfl) (by kernel_rfl) (by kernel_rfl) (fun _ _ _ h => h) (by rfl) (fun w' hS => ?hz35) ?rz35
  case hz35 => go_simp; rfl
  simp only [Act.put, List.setIfInBounds_toArray, List.set_cons_zero, List.set_cons_succ]
  refine Reg.take_op 36 (v := ?vz36) rfl (by kernel_rfl) (by kernel_rfl) (by kernel_rfl) (fun _ _ _ h => h) (by rfl) (fun w' hS => ?hz36) ?rz36
  case hz36 => obtain ⟨q1, q2, q3, q4, q7, q8, q9, q10, q11, q12, q13, q16, q17, q18, q19, q20, q21, q22, q23, q24, q25, q26, q27⟩ := CF.out _ (HX.out.below hS); go_simp; rfl
  simp only [Act.put, List.setIfInBounds_toArray, List.set_cons_zero, List.set_cons_succ]
  refine Reg.take_op 37 (v := .int .i64 n7) rfl (by kernel_rfl) (by kernel_rfl) (by kernel_rfl) (fun _ _ _ h => h) (by rfl) (fun w' hS => ?hz37) ?rz37
  case hz37 => rw [EB2.out]; go_simp
  simp only [Act.put, List.setIfInBounds_toArray, List.set_cons_zero, List.set_cons_succ]
  refine Reg.take_op 39 (v := ?vz39) rfl (by kernel_rfl) (by kernel_rfl) (by kernel_rfl) (fun _ _ _ h => h) (by rfl) (fun w' hS => ?hz39) ?rz39
  case hz39 => go_simp; rfl
  simp only [Act.put, List.setIfInBounds_toArray, List.set_cons_zero, List.set_cons_succ]
  refine Reg.take_op 40 (v := ?vz40) rfl (by kernel_rfl) (by kernel_rfl) (by kernel_rfl) (fun _ _ _ h => h) (by rfl) (fun w' hS => ?hz40) ?rz40
  case hz40 => go_simp; rfl
  simp only [Act.put, List.setIfInBounds_toArray, List.set_cons_zero, List.set_cons_succ]
  refine Reg.take_op 41 (v := ?vz41) rfl (by kernel_rfl) (by kernel_rfl) (by kernel_rfl) (fun _ _ _ h => h) (by rfl) (fun w' hS => ?hz41) ?rz41
  case hz41 => obtain ⟨q1, q2, q3, q4, q7, q8, q9, q10, q11, q12, q13, q16, q17, q18, q19, q20, q21, q22, q23, q24, q25, q26, q27⟩ := CF.out _ (HX.out.below hS); go_simp; rfl
  simp only [Act.put, List.setIfInBounds_toArray, List.set_cons_zero, List.set_cons_succ]
  refine Reg.take_op 44 (v := ?vz44) rfl (by kernel_rfl) (by kernel_rfl) (by kernel_rfl) (fun _ _ _ h => h) (by rfl) (fun w' hS => ?hz44) ?rz44
  case hz44 => go_simp; rfl
  simp only [Act.put, List.setIfInBounds_toArray, List.set_cons_zero, List.set_cons_succ]
  refine Reg.take_op 45 (v := ?vz45) rfl (by kernel_rfl) (by kernel_rfl) (by kernel_rfl) (fun _ _ _ h => h) (by rfl) (fun w' hS => ?hz45) ?rz45
  case hz45 => go_simp; rfl
  simp only [Act.put, List.setIfInBounds_toArray, List.set_cons_zero, List.set_cons_succ]
  refine Reg.take_op 46 (v := ?vz46) rfl (by kernel_rfl) (by kernel_rfl) (by kernel_rfl) (fun _ _ _ h => h) (by rfl) (fun w' hS => ?hz46) ?rz46
  case hz46 => obtain ⟨q1, q2, q3, q4, q7, q8, q9, q10, q11, q12, q13, q16, q17, q18, q19, q20, q21, q22, q23, q24, q25, q26, q27⟩ := CF.out _ (HX.out.below hS); go_simp; rfl
  simp only [Act.put, List.setIfInBounds_toArray, List.set_cons_zero, List.set_cons_succ]
  refine Reg.take_op 47 (v := .int .i64 n9) rfl (by kernel_rfl) (by kernel_rfl) (by kernel_rfl) (fun _ _ _ h => h) (by rfl) (fun w' hS => ?hz47) ?rz47
  case hz47 => rw [EB3.out]; go_simp
  simp only [Act.put, List.setIfInBounds_toArray, List.set_cons_zero, List.set_cons_succ]
  refine Reg.call_op 3 rfl (by kernel_rfl) (by rfl) 16 #[.agg #[.string ⟨m.aq.c.1.toArray⟩, .string ⟨m.aq.c.2.toArray⟩]] (by go_simp) ?_
  refine Calls.mono (N0.out _) ?_
  rintro e wn0 ⟨rfl, hb⟩
  refine ⟨_, rfl, hb, ?_⟩
  replace HX := Lib.hid (HX.out.below hb); replace HG := Lib.hid (HG.out.trans (hb.mono HG.out.size)); clear hb
  simp only [Act.put, List.setIfInBounds_toArray, List.set_cons_zero, List.set_cons_succ]
  refine Reg.call_op 7 rfl (by kernel_rfl) (by rfl) 16 #[.agg #[.string ⟨m.aq.s.1.toArray⟩, .string ⟨m.aq.s.2.toArray⟩]] (by go_simp) ?_
  refine Calls.mono (N1.out _) ?_
  rintro e wn1 ⟨rfl, hb⟩
  refine ⟨_, rfl, hb, ?_⟩
  replace HX := Lib.hid (HX.out.below hb); replace HG := Lib.hid (HG.out.trans (hb.mono HG.out.size)); clear hb
  simp only [Act.put, List.setIfInBounds_toArray, List.set_cons_zero, List.set_cons_succ]
  refine Reg.take_op 8 (v := .int .i64 (n0 + n1)) rfl (by kernel_rfl) (by kernel_rfl) (by kernel_rfl) (fun _ _ _ h => h) (by rfl) (fun w' hS => ?hz8) ?rz8
  case hz8 => go_simp; exact wi8 (by omega) (by omega)
  simp only [Act.put, List.setIfInBounds_toArray, List.set_cons_zero, List.set_cons_succ]
  refine Reg.call_op 12 rfl (by kernel_rfl) (by rfl) 32 #[.agg #[.string ⟨m.tg.t.s.1.toArray⟩, .string ⟨m.tg.t.s.2.toArray⟩, .int .i64 m.tg.t.k, .slice A1 m.tg.t.b.length c1]] (by go_simp) ?_
  refine Calls.mono (N2.out _) ?_
  rintro e wn2 ⟨rfl, hb⟩
  refine ⟨_, rfl, hb, ?_⟩
  replace HX := Lib.hid (HX.out.below hb); replace HG := Lib.hid (HG.out.trans (hb.mono HG.out.size)); clear hb
  simp only [Act.put, List.setIfInBounds_toArray, List.set_cons_zero, List.set_cons_succ]
  refine Reg.take_op 13 (v := .int .i64 (n0 + n1 + n2)) rfl (by kernel_rfl) (by kernel_rfl) (by kernel_rfl) (fun _ _ _ h => h) (by rfl) (fun w' hS => ?hz13) ?rz13
  case hz13 => go_simp; exact wi8 (by omega) (by omega)
  simp only [Act.put, List.setIfInBounds_toArray, List.set_cons_zero, List.set_cons_succ]
  refine Reg.take_op 18 (v := .int .i64 (n0 + n1 + n2 + n3)) rfl (by kernel_rfl) (by kernel_rfl) (by kernel_rfl) (fun _ _ _ h => h) (by rfl) (fun w' hS => ?hz18) ?rz18
  case hz18 => go_simp; exact wi8 (by omega) (by omega)
  simp only [Act.put, List.setIfInBounds_toArray, List.set_cons_zero, List.set_cons_succ]
  refine Reg.call_op 22 rfl (by kernel_rfl) (by rfl) 16 #[.agg #[.string ⟨m.tg.s.1.toArray⟩, .string ⟨m.tg.s.2.toArray⟩]] (by go_simp) ?_
  refine Calls.mono (N4.out _) ?_
  rintro e wn4 ⟨rfl, hb⟩
  refine ⟨_, rfl, hb, ?_⟩
  replace HX := Lib.hid (HX.out.below hb); replace HG := Lib.hid (HG.out.trans (hb.mono HG.out.size)); clear hb
  simp only [Act.put, List.setIfInBounds_toArray, List.set_cons_zero, List.set_cons_succ]
  refine Reg.take_op 23 (v := .int .i64 (n0 + n1 + n2 + n3 + n4)) rfl (by kernel_rfl) (by kernel_rfl) (by kernel_rfl) (fun _ _ _ h => h) (by rfl) (fun w' hS => ?hz23) ?rz23
  case hz23 => go_simp; exact wi8 (by omega) (by omega)
  simp only [Act.put, List.setIfInBounds_toArray, List.set_cons_zero, List.set_cons_succ]
  refine Reg.call_op 27 rfl (by kernel_rfl) (by rfl) 16 #[.agg #[.string ⟨m.re.c.1.toArray⟩, .string ⟨m.re.c.2.toArray⟩]] (by go_simp) ?_
  refine Calls.mono (N5.out _) ?_
  rintro e wn5 ⟨rfl, hb⟩
  refine ⟨_, rfl, hb, ?_⟩
  replace HX := Lib.hid (HX.out.below hb); replace HG := Lib.hid (HG.out.trans (hb.mono HG.out.size)); clear hb
  simp only [Act.put, List.setIfInBounds_toArray, List.set_cons_zero, List.set_cons_succ]
  refine Reg.take_op 28 (v := .int .i64 (n0 + n1 + n2 + n3 + n4 + n5)) rfl (by kernel_rfl) (by kernel_rfl) (by kernel_rfl) (fun _ _ _ h => h) (by rfl) (fun w' hS => ?hz28) ?rz28
  case hz28 => go_simp; exact wi8 (by omega) (by omega)
  simp only [Act.put, List.setIfInBounds_toArray, List.set_cons_zero, List.set_cons_succ]
  refine Reg.call_op 32 rfl (by kernel_rfl) (by rfl) 32 #[.agg #[.string ⟨m.re.t.s.1.toArray⟩, .string ⟨m.re.t.s.2.toArray⟩, .int .i64 m.re.t.k, .slice A3 m.re.t.b.length c3]] (by go_simp) ?_
  refine Calls.mono (N6.out _) ?_
  rintro e wn6 ⟨rfl, hb⟩
  refine ⟨_, rfl, hb, ?_⟩
  replace HX := Lib.hid (HX.out.below hb); replace HG := Lib.hid (HG.out.trans (hb.mono HG.out.size)); clear hb
  simp only [Act.put, List.setIfInBounds_toArray, List.set_cons_zero, List.set_cons_succ]
  refine Reg.take_op 33 (v := .int .i64 (n0 + n1 + n2 + n3 + n4 + n5 + n6)) rfl (by kernel_rfl) (by kernel_rfl) (by kernel_rfl) (fun _ _ _ h => h) (by rfl) (fun w' hS => ?hz33) ?rz33
  case hz33 => go_simp; exact wi8 (by omega) (by omega)
  simp only [Act.put, List.setIfInBounds_toArray, List.set_cons_zero, List.set_cons_succ]
  refine Reg.take_op 38 (v := .int .i64 (n0 + n1 + n2 + n3 + n4 + n5 + n6 + n7)) rfl (by kernel_rfl) (by kernel_rfl) (by kernel_rfl) (fun _ _ _ h => h) (by rfl) (fun w' hS => ?hz38) ?rz38
  case hz38 => go_simp; exact wi8 (by omega) (by omega)
  simp only [Act.put, List.setIfInBounds_toArray, List.set_cons_zero, List.set_cons_succ]
  refine Reg.call_op 42 rfl (by kernel_rfl) (by rfl) 32 #[.agg #[.string ⟨m.ap.t.s.1.toArray⟩, .string ⟨m.ap.t.s.2.toArray⟩, .int .i64 m.ap.t.k, .slice A5 m.ap.t.b.length c5]] (by go_simp) ?_
  refine Calls.mono (N8.out _) ?_
  rintro e wn8 ⟨rfl, hb⟩
  refine ⟨_, rfl, hb, ?_⟩
  replace HX := Lib.hid (HX.out.below hb); replace HG := Lib.hid (HG.out.trans (hb.mono HG.out.size)); clear hb
  simp only [Act.put, List.setIfInBounds_toArray, List.set_cons_zero, List.set_cons_succ]
  refine Reg.take_op 43 (v := .int .i64 (n0 + n1 + n2 + n3 + n4 + n5 + n6 + n7 + n8)) rfl (by kernel_rfl) (by kernel_rfl) (by kernel_rfl) (fun _ _ _ h => h) (by rfl) (fun w' hS => ?hz43) ?rz43
  case hz43 => go_simp; exact wi8 (by omega) (by omega)
  simp only [Act.put, List.setIfInBounds_toArray, List.set_cons_zero, List.set_cons_succ]
  refine Reg.take_op 48 (v := .int .i64 (n0 + n1 + n2 + n3 + n4 + n5 + n6 + n7 + n8 + n9)) rfl (by kernel_rfl) (by kernel_rfl) (by kernel_rfl) (fun _ _ _ h => h) (by rfl) (fun w' hS => ?hz48) ?rz48
  case hz48 => go_simp; exact wi8 (by omega) (by omega)
  simp only [Act.put, List.setIfInBounds_toArray, List.set_cons_zero, List.set_cons_succ]
  refine Reg.take_op 49 (v := ?vz49) rfl (by kernel_rfl) (by kernel_rfl) (by kernel_rfl) (fun _ _ _ h => h) (by rfl) (fun w' hS => ?hz49) ?rz49
  case hz49 => go_simp; rfl
  simp only [Act.put, List.setIfInBounds_toArray, List.set_cons_zero, List.set_cons_succ]
  refine wpAnyH_done (by kernel_rfl) ?_ _
  go_wp2
  go_ret
  exact ⟨rfl, HG.out⟩
theorem size_any (cs : Array Value) (m : Mg) (w w1 : World) (B : Nat) (h : MgV w1 B cs m) (hz : SzM m) : Calls Tryz.prog 8 #[.agg cs] w fun e w' => e = .returned (.int .i64 (sizeI m)) ∧ Below w.heap.size w w' := by
  obtain ⟨pa, pt, pr, pp, pf, rfl, ha, ⟨b1, a1, rfl, ⟨A1, c1, rfl, _, r1⟩, ⟨A2, c2, rfl, _, r2⟩⟩, ⟨b3, a3, rfl, ⟨A3, c3, rfl, _, r3⟩, ⟨A4, c4, rfl, _, r4⟩⟩, ⟨b5, a5, rfl, ⟨A5, c5, rfl, _, r5⟩, ⟨A6, c6, rfl, _, r6⟩⟩, hf⟩ := h
  obtain rfl := ha; obtain rfl := hf
  exact size_lit m A1 A2 A3 A4 A5 A6 c1 c2 c3 c4 c5 c6 w hz
end Go.Proofs.YteeabfplnaknfaaGreat.Mc
end

section
namespace Go.Proofs.YteeabfplnaknfaaGreat.Mc
open Go.RowKit Go.Proofs.YteeabfplnaknfaaGreat.Ms

theorem sz_of {m : Mg} (h : OpenW.Lm m) : SzM m := by
  obtain ⟨⟨⟨h1, h2⟩, ⟨h3, h4⟩⟩, ⟨⟨⟨h5, h6⟩, h7⟩, h8, ⟨h9, h10⟩⟩, ⟨⟨⟨h11, h12⟩, h13⟩, h14, ⟨h15, h16⟩⟩, ⟨⟨⟨h17, h18⟩, h19⟩, h20⟩⟩ := h
  unfold reachBytes at *
  exact ⟨by omega, by omega, by omega, by omega, by omega, by omega, by omega, by omega, by omega, by omega, by omega, by omega, by omega, by omega, by omega, by omega, by omega, by omega, by omega, by omega⟩
end Go.Proofs.YteeabfplnaknfaaGreat.Mc
end

section
set_option linter.unusedVariables false
set_option linter.unusedSimpArgs false
namespace Go.Proofs.YteeabfplnaknfaaGreat.Mc
open Go.RowKit Go.Proofs.YteeabfplnaknfaaGreat.Mem Go.Proofs.YteeabfplnaknfaaGreat.DerP Go.Proofs.YteeabfplnaknfaaGreat.Ms

theorem sz_sm9 {m : Mg} (h0 : sizeI m ≤ 5000) : mSm m := by
  have h : ((((((((((m.aq.c.1.length : Int) + (m.aq.c.2.length : Int)) + ((m.aq.s.1.length : Int) + (m.aq.s.2.length : Int))) + ((m.tg.t.s.1.length : Int) + (m.tg.t.s.2.length : Int) + (m.tg.t.b.length : Int))) + (m.tg.a.length : Int)) + ((m.tg.s.1.length : Int) + (m.tg.s.2.length : Int))) + ((m.re.c.1.length : Int) + (m.re.c.2.length : Int))) + ((m.re.t.s.1.length : Int) + (m.re.t.s.2.length : Int) + (m.re.t.b.length : Int))) + (m.re.b.length : Int)) + ((m.ap.t.s.1.length : Int) + (m.ap.t.s.2.length : Int) + (m.ap.t.b.length : Int))) + (m.ap.a.length : Int) ≤ 5000 := h0
  exact ⟨⟨⟨by omega, by omega⟩, ⟨by omega, by omega⟩⟩, ⟨⟨by omega, by omega⟩, ⟨by omega, by omega⟩⟩, ⟨⟨by omega, by omega⟩, ⟨by omega, by omega⟩⟩, ⟨by omega, by omega⟩⟩
theorem rsame9_self (cs ds : Array Value) (m : Mg) (w : World) (h : MgV w w.heap.size cs m) (g : MgV w w.heap.size ds m) : Calls Tryz.prog 13 #[.agg cs, .agg ds] w fun e w' => e = .returned (.bool true) ∧ Below w.heap.size w w' := by
  have h2 := rsame8_any cs ds m m w h g
  rwa [decide_eq_true (rfl : nm m = nm m)] at h2
theorem mgv_size9 {w : World} {B : Nat} {cs : Array Value} {m : Mg} (h : MgV w B cs m) : cs.size = 30 := by obtain ⟨pa, pt, pr, pp, pf, h1, h2⟩ := h; rw [h1]; exact h2.size _
theorem blk_at9 (w : World) (g : Nat) (t : TypeId) (cs : Array Value) (hg : w.heap.size = g) : Blk (w.alloc (.cells cs t)) g t cs := hg ▸ Blk.new w t cs
theorem eql_an9 (p : Pr) (t q : Int) (w : World) : (Op.equalIn 10000 57 (.agg #[.string ⟨p.1.toArray⟩, .string ⟨p.2.toArray⟩, .int .i64 t, .int .i64 q]) (.agg #[.string ⟨p.1.toArray⟩, .string ⟨p.2.toArray⟩, .int .i64 t, .int .i64 q])).run Tryz.prog w = .ok true w := by go_simp
set_option maxHeartbeats 25600000 in
set_option maxRecDepth 10000 in
theorem back_ (m : Mg) (cs : Array Value) (p : Pt) (an : An) (r : Rp) (w : World) (hm : MgV w w.heap.size cs m) (z1 : SzM m) (hp : p.ss.length = 32) (hr : r.ss.length = 32) (m1 : pSm p.c) (m2 : pSm an.c) (m3 : pSm r.s) (m4 : p.tr.length ≤ 1000000000) :
    Calls Tryz.prog 5 #[.agg cs, .agg (ptC p).toArray, .agg (anC an).toArray, .agg (rpC r).toArray] w fun e w' => e = .returned (.bool true) ∧ Below w.heap.size w w' := by
  have CI := Lib.hid (show (Tryz.prog.info? 39).map (·.size) = some cs.size by rw [mgv_size9 hm]; exact mg_info)
  have PS := Lib.hid (show (ptC p).toArray.size = 37 from pt_size hp)
  have PI := Lib.hid (show (Tryz.prog.info? 55).map (·.size) = some (ptC p).toArray.size by rw [PS.out]; kernel_rfl)
  have PO := Lib.hid (show (ptC p).toArray.all (·.oneCell') = true from one_ptQ _ _ _ _ _)
  have AS := Lib.hid (show (anC an).toArray.size = 4 from rfl)
  have AI := Lib.hid (show (Tryz.prog.info? 57).map (·.size) = some (anC an).toArray.size by rw [AS.out]; kernel_rfl)
  have AO := Lib.hid (show (anC an).toArray.all (·.oneCell') = true from one_anC _)
  have RS := Lib.hid (show (rpC r).toArray.size = 37 from rp_size hr)
  have RI := Lib.hid (show (Tryz.prog.info? 59).map (·.size) = some (rpC r).toArray.size by rw [RS.out]; kernel_rfl)
  have RO := Lib.hid (show (rpC r).toArray.all (·.oneCell') = true from one_rpQ _ _ _ _ _)
  have S1 := Lib.hid (fun w1 => size_any cs m w1 w _ hm z1)
  have HSM := Lib.hid (fun h => sz_sm9 (m := m) h)
  have R1 := Lib.hid (fun w1 h hs => (renc8_v cs m w1 h hs).mono fun e w' h => enc_str h)
  have TR := Lib.hid (fun (w' : World) (h : Blk w' (w.heap.size + 1) 55 (ptC p).toArray) => (pt_cells hp h).2.2.1)
  have IP := Lib.hid (fun w1 => rispart_any p w1 hp m1 m4)
  have IA := Lib.hid (fun w1 => (show Calls Tryz.prog 30 #[.agg (anC an).toArray] w1 _ from risauthn_any an w1 m2))
  have IR := Lib.hid (fun w1 => risrep_any r w1 hr m3)
  have EP := Lib.hid (fun w1 => encpart_any p w1 hp m1 m4)
  have EA := Lib.hid (fun w1 => (show Calls Tryz.prog 19 #[.agg (anC an).toArray] w1 (EncR w1 (anO an)) from encauthn_any an w1 m2))
  have ER := Lib.hid (fun w1 => encrep_any r w1 hr m3)
  have QP := Lib.hid (fun w1 => eql_pt p hp w1)
  have QR := Lib.hid (fun w1 => eql_rp r hr w1)
  have QA := Lib.hid (fun w1 => show (Op.equalIn 10000 57 (.agg (anC an).toArray) (.agg (anC an).toArray)).run Tryz.prog w1 = .ok true w1 from eql_an9 an.c an.t an.q w1)
  have FP := Lib.hid (show ptB p = true → ptO p = some (ptE p) ∧ ptG (ptE p) = p ∧ ptI (ptE p) = 0 from fun h => by
    have ho : ptO p = some (ptE p) := lim_iff.2 ⟨h, pt_len hp h, rfl⟩
    have hd := (pt_iff hp).2 ho
    exact ⟨ho, by rw [ptG, hd]; rfl, by rw [ptI, hd]; rfl⟩)
  have FA := Lib.hid (show anB an = true → anO an = some (anE an) ∧ anG (anE an) = an ∧ anI (anE an) = 0 from fun h => by
    have ho : anO an = some (anE an) := lim_iff.2 ⟨h, an_len h, rfl⟩
    have hd := an_iff.2 ho
    exact ⟨ho, by rw [anG, hd]; rfl, by rw [anI, hd]; rfl⟩)
  have FR := Lib.hid (show rpB r = true → rpO r = some (rpE r) ∧ rpG (rpE r) = r ∧ rpI (rpE r) = 0 from fun h => by
    have ho : rpO r = some (rpE r) := lim_iff.2 ⟨h, rp_len hr h, rfl⟩
    have hd := (rp_iff hr).2 ho
    exact ⟨ho, by rw [rpG, hd]; rfl, by rw [rpI, hd]; rfl⟩)
  have D0 := Lib.hid (fun (b : L) A c w1 (h : Rd w1 w1.heap.size A (bvs b)) => dec_any A b c w1 h)
  have DP := Lib.hid (fun (b : L) A c w1 (h : Rd w1 w1.heap.size A (bvs b)) => decpart_any A b c w1 h)
  have DA := Lib.hid (fun (b : L) A c w1 (h : Rd w1 w1.heap.size A (bvs b)) => decauthn_any A b c w1 h)
  have DR := Lib.hid (fun (b : L) A c w1 (h : Rd w1 w1.heap.size A (bvs b)) => decrep_any A b c w1 h)
  have hb4 : Below w.heap.size w ((((w.alloc (.cells cs 39)).alloc (.cells (ptC p).toArray 55)).alloc (.cells (anC an).toArray 57)).alloc (.cells (rpC r).toArray 59)) := ((((Below.refl w.heap.size w).alloc (Nat.le_refl _) _).alloc (by simp) _).alloc (by simp <;> omega) _).alloc (by simp <;> omega) _
  have HX := Lib.hid (show Blk ((((w.alloc (.cells cs 39)).alloc (.cells (ptC p).toArray 55)).alloc (.cells (anC an).toArray 57)).alloc (.cells (rpC r).toArray 59)) w.heap.size 39 cs from (((blk_at9 _ _ _ _ rfl).alloc _).alloc _).alloc _)
  have HP := Lib.hid (show Blk ((((w.alloc (.cells cs 39)).alloc (.cells (ptC p).toArray 55)).alloc (.cells (anC an).toArray 57)).alloc (.cells (rpC r).toArray 59)) (w.heap.size + 1) 55 (ptC p).toArray from ((blk_at9 _ _ _ _ (by simp)).alloc _).alloc _)
  have HA := Lib.hid (show Blk ((((w.alloc (.cells cs 39)).alloc (.cells (ptC p).toArray 55)).alloc (.cells (anC an).toArray 57)).alloc (.cells (rpC r).toArray 59)) (w.heap.size + 1 + 1) 57 (anC an).toArray from (blk_at9 _ _ _ _ (by simp)).alloc _)
  have HR := Lib.hid (show Blk ((((w.alloc (.cells cs 39)).alloc (.cells (ptC p).toArray 55)).alloc (.cells (anC an).toArray 57)).alloc (.cells (rpC r).toArray 59)) (w.heap.size + 1 + 1 + 1) 59 (rpC r).toArray from blk_at9 _ _ _ _ (by simp))
  have VM := Lib.hid ((hm.keep hb4).more hb4.size); have HG := Lib.hid hb4
  obtain ⟨cp, ecp⟩ : ∃ c : Array Value, c = (ptC p).toArray := ⟨_, rfl⟩
  obtain ⟨ca, eca⟩ : ∃ c : Array Value, c = (anC an).toArray := ⟨_, rfl⟩
  obtain ⟨cr, ecr⟩ : ∃ c : Array Value, c = (rpC r).toArray := ⟨_, rfl⟩
  have XP := Lib.hid ecp; have XA := Lib.hid eca; have XR := Lib.hid ecr
  rw [← ecp] at PS PI PO TR IP EP QP HX HP HA HR VM HG ⊢
  rw [← eca] at AS AI AO IA EA QA HX HP HA HR VM HG ⊢
  rw [← ecr] at RS RI RO IR ER QR HX HP HA HR VM HG ⊢
  clear ecp eca ecr hm z1 hp hr m1 m2 m3 m4 hb4
  obtain ⟨s, es⟩ : ∃ s, s = p.tr := ⟨_, rfl⟩
  rw [← es] at TR; clear es
  obtain ⟨s1, es1⟩ : ∃ s : Int, s = sizeI m := ⟨_, rfl⟩
  rw [← es1] at S1 HSM; clear es1
  obtain ⟨bp, ebp⟩ : ∃ b, b = ptB p := ⟨_, rfl⟩
  rw [← ebp] at IP FP; clear ebp
  obtain ⟨ba, eba⟩ : ∃ b, b = anB an := ⟨_, rfl⟩
  rw [← eba] at IA FA; clear eba
  obtain ⟨br, ebr⟩ : ∃ b, b = rpB r := ⟨_, rfl⟩
  rw [← ebr] at IR FR; clear ebr
  obtain ⟨op, eop⟩ : ∃ b, b = ptO p := ⟨_, rfl⟩
  rw [← eop] at EP FP; clear eop
  obtain ⟨oa, eoa⟩ : ∃ b, b = anO an := ⟨_, rfl⟩
  rw [← eoa] at EA FA; clear eoa
  obtain ⟨or, eor⟩ : ∃ b, b = rpO r := ⟨_, rfl⟩
  rw [← eor] at ER FR; clear eor
  go_enter Tryz.func5, Tryz.ntmps5
  go_upto_region 1 with fail
  generalize ((((w.alloc (.cells cs 39)).alloc (.cells cp 55)).alloc (.cells ca 57)).alloc (.cells cr 59)) = W at HX HP HA HR VM HG ⊢
  by_cases q1 : 5000 < s1
  · have t1 : decide ((5000 : Int) < s1) = true := decide_eq_true q1
    clear q1 HSM
    go_wp2_with (first
      | (refine load_g (by rfl) 39 (.tmp 4) (by rfl) (w.heap.size) 0 (by rfl) cs _ (range_blk HX.out) Tryz.underlying39 (by rfl) CI.out ?_)
      | (go_at_call 8; refine Calls.mono (S1.out _) ?_; rintro e ws1 ⟨rfl, hb⟩; clear S1; replace HX := Lib.hid (HX.out.below hb); replace HP := Lib.hid (HP.out.below hb); replace HA := Lib.hid (HA.out.below hb); replace HR := Lib.hid (HR.out.below hb); replace VM := Lib.hid ((VM.out.keep hb).more hb.size); replace HG := Lib.hid (HG.out.trans (hb.mono HG.out.size)); clear hb; have ktr := TR.out _ HP.out; clear TR)
      | fail)
    go_ret
    exact ⟨rfl, HG.out⟩
  have t1 : decide ((5000 : Int) < s1) = false := decide_eq_false q1
  have HM := Lib.hid (HSM.out (by omega)); clear q1 HSM
  by_cases q2 : 300 < s.length
  · have t2 : decide ((300 : Int) < (s.length : Int)) = true := decide_eq_true (by omega)
    clear q2
    go_wp2_with (first
      | (refine load_g (by rfl) 39 (.tmp 4) (by rfl) (w.heap.size) 0 (by rfl) cs _ (range_blk HX.out) Tryz.underlying39 (by rfl) CI.out ?_)
      | (go_at_call 8; refine Calls.mono (S1.out _) ?_; rintro e ws1 ⟨rfl, hb⟩; clear S1; replace HX := Lib.hid (HX.out.below hb); replace HP := Lib.hid (HP.out.below hb); replace HA := Lib.hid (HA.out.below hb); replace HR := Lib.hid (HR.out.below hb); replace VM := Lib.hid ((VM.out.keep hb).more hb.size); replace HG := Lib.hid (HG.out.trans (hb.mono HG.out.size)); clear hb; have ktr := TR.out _ HP.out; clear TR)
      | fail)
    go_ret
    exact ⟨rfl, HG.out⟩
  have t2 : decide ((300 : Int) < (s.length : Int)) = false := decide_eq_false (by omega)
  clear q2
  obtain ⟨o, eo⟩ : ∃ o, o = mgO m := ⟨_, rfl⟩
  have FM := Lib.hid (show ∀ b, o = some b → mgG b = m ∧ mgI b = 0 from fun b h => by
    have hd := mg_iff.2 (eo.symm.trans h)
    exact ⟨by rw [mgG, hd]; rfl, by rw [mgI, hd]; rfl⟩)
  rw [← eo] at R1; clear eo
  obtain ⟨y1, ey1⟩ : ∃ l : L, l = o.getD [] := ⟨_, rfl⟩
  obtain ⟨i1, ei1⟩ : ∃ i : Int, i = if o.isSome = true then 0 else 1 := ⟨_, rfl⟩
  have HY1 := Lib.hid ey1; have HI1 := Lib.hid ei1
  rw [← ey1, ← ei1] at R1; clear ey1 ei1
  go_upto_if 40 with (first
    | (refine load_g (by rfl) 39 (.tmp 4) (by rfl) (w.heap.size) 0 (by rfl) cs _ (range_blk HX.out) Tryz.underlying39 (by rfl) CI.out ?_)
    | (go_at_call 8; refine Calls.mono (S1.out _) ?_; rintro e ws1 ⟨rfl, hb⟩; clear S1; replace HX := Lib.hid (HX.out.below hb); replace HP := Lib.hid (HP.out.below hb); replace HA := Lib.hid (HA.out.below hb); replace HR := Lib.hid (HR.out.below hb); replace VM := Lib.hid ((VM.out.keep hb).more hb.size); replace HG := Lib.hid (HG.out.trans (hb.mono HG.out.size)); clear hb; have ktr := TR.out _ HP.out; clear TR)
    | (go_at_call 10; refine Calls.mono (R1.out _ VM.out HM.out) ?_; rintro e we1 ⟨A1, c1, rfl, _, hrx, hb⟩; clear R1; replace HX := Lib.hid (HX.out.below hb); replace HP := Lib.hid (HP.out.below hb); replace HA := Lib.hid (HA.out.below hb); replace HR := Lib.hid (HR.out.below hb); replace VM := Lib.hid ((VM.out.keep hb).more hb.size); replace HG := Lib.hid (HG.out.trans (hb.mono HG.out.size)); clear hb; have RY := Lib.hid hrx; clear hrx; clear ktr)
    | fail)
  go_cut [] from 40 to 53 (fun wx => Blk wx (w.heap.size + 1) 55 cp ∧ Blk wx (w.heap.size + 1 + 1) 57 ca ∧ Blk wx (w.heap.size + 1 + 1 + 1) 59 cr ∧ Below w.heap.size w wx)
  case first =>
    cases o with
    | none =>
      have t : (i1 == 0) = false := by rw [HI1.out]; rfl
      go_wp2_with fail
      go_meet
      exact ⟨HP.out, HA.out, HR.out, HG.out⟩
    | some b =>
      have t : (i1 == 0) = true := by rw [HI1.out]; rfl
      obtain rfl : y1 = b := HY1.out
      have fm := FM.out _ rfl
      have D1 := Lib.hid (fun A c w1 h => D0.out y1 A c w1 h)
      rw [fm.1, fm.2] at D1; clear fm D0 FM
      go_wp2_with (first
        | (go_at_call 11; refine Calls.mono (D1.out _ _ _ RY.out) ?_; rintro e wd1 ⟨d1, rfl, ho, hb⟩; clear D1 RY; have d1S := Lib.hid ho.size; have d1O := Lib.hid ho.one; have d1I := Lib.hid (mg_info.trans (congrArg some d1S.out.symm)); replace HX := Lib.hid (HX.out.below hb); replace HP := Lib.hid (HP.out.below hb); replace HA := Lib.hid (HA.out.below hb); replace HR := Lib.hid (HR.out.below hb); replace VM := Lib.hid ((VM.out.keep hb).more hb.size); replace HG := Lib.hid (HG.out.trans (hb.mono HG.out.size)); clear hb; have V1 := Lib.hid ho.toV; clear ho)
        | (refine store_new (by rfl) 39 (.tmp 11) (.tmp 44) (by rfl) 39 rfl d1 (by rfl) (by rfl) (by rw [d1S.out]; rfl) d1I.out d1O.out ?_; rintro U1 hV hb; replace HX := Lib.hid (HX.out.below hb); replace HP := Lib.hid (HP.out.below hb); replace HA := Lib.hid (HA.out.below hb); replace HR := Lib.hid (HR.out.below hb); replace VM := Lib.hid ((VM.out.keep hb).more hb.size); replace V1 := Lib.hid ((V1.out.keep hb).more hb.size); replace HG := Lib.hid (HG.out.trans (hb.mono HG.out.size)); clear hb; have B1 := Lib.hid hV; clear hV)
        | (refine load_g (by rfl) 39 (.tmp 11) (by rfl) (wd1.heap.size) 0 (by rfl) d1 _ (range_blk B1.out) Tryz.underlying39 (by rfl) d1I.out ?_)
        | (refine load_g (by rfl) 39 (.tmp 4) (by rfl) (w.heap.size) 0 (by rfl) cs _ (range_blk HX.out) Tryz.underlying39 (by rfl) CI.out ?_)
        | (go_at_call 13; refine Calls.mono (rsame9_self _ _ _ _ V1.out VM.out) ?_; rintro e wq1 ⟨rfl, hb⟩; replace HX := Lib.hid (HX.out.below hb); replace HP := Lib.hid (HP.out.below hb); replace HA := Lib.hid (HA.out.below hb); replace HR := Lib.hid (HR.out.below hb); replace VM := Lib.hid ((VM.out.keep hb).more hb.size); replace HG := Lib.hid (HG.out.trans (hb.mono HG.out.size)); clear hb)
        | fail)
      go_meet
      exact ⟨HP.out, HA.out, HR.out, HG.out⟩
  case rest =>
    clear HX HP HA HR HG VM RY D0 FM HY1 HI1 HM
    obtain ⟨hp, ha, hr, hg⟩ := hcut
    have HP := Lib.hid hp; have HA := Lib.hid ha; have HR := Lib.hid hr; have HG := Lib.hid hg; clear hp ha hr hg
    go_upto_if 55 with (first
      | (refine load_g (by rfl) 55 (.tmp 5) (by rfl) (w.heap.size + 1) 0 (by rfl) cp _ (range_blk HP.out) Tryz.underlying55 (by rfl) PI.out ?_)
      | (go_at_call 29; refine Calls.mono (IP.out _) ?_; rintro e wiP ⟨rfl, hb⟩; clear IP; replace HP := Lib.hid (HP.out.below hb); replace HA := Lib.hid (HA.out.below hb); replace HR := Lib.hid (HR.out.below hb); replace HG := Lib.hid (HG.out.trans (hb.mono HG.out.size)); clear hb)
      | fail)
    go_cut [] from 56 to 76 (fun wx => Blk wx (w.heap.size + 1) 55 cp ∧ Blk wx (w.heap.size + 1 + 1) 57 ca ∧ Blk wx (w.heap.size + 1 + 1 + 1) 59 cr ∧ Below w.heap.size w wx)
    case first =>
      cases bp with
      | false =>
        go_wp2_with fail
        go_meet
        exact ⟨HP.out, HA.out, HR.out, HG.out⟩
      | true =>
        obtain ⟨f1, f2, f3⟩ := FP.out rfl
        rw [f1] at EP
        obtain ⟨y, ey⟩ : ∃ l, l = ptE p := ⟨_, rfl⟩
        rw [← ey] at EP f2 f3
        have D1 := Lib.hid (fun A c w1 h => DP.out y A c w1 h)
        rw [f2, f3, ← XP.out] at D1; clear f1 f2 f3 ey FP
        have hq := QP.out
        go_wp2_with (first
          | (refine load_g (by rfl) 55 (.tmp 5) (by rfl) (w.heap.size + 1) 0 (by rfl) cp _ (range_blk HP.out) Tryz.underlying55 (by rfl) PI.out ?_)
          | (go_at_call 17; refine Calls.mono (EP.out _) ?_; rintro e wfP ⟨⟨v, i, rfl, hn, hsm⟩, hb⟩; obtain ⟨rfl, gx, cx, rfl, hgx, hcx, hrx⟩ := hsm y rfl; clear EP hn hsm hgx hcx; replace HP := Lib.hid (HP.out.below hb); replace HA := Lib.hid (HA.out.below hb); replace HR := Lib.hid (HR.out.below hb); replace HG := Lib.hid (HG.out.trans (hb.mono HG.out.size)); clear hb; have RX := Lib.hid hrx; clear hrx)
          | (go_at_call 23; refine Calls.mono (D1.out _ _ _ RX.out) ?_; rintro e wgP ⟨rfl, hb⟩; clear D1 RX; replace HP := Lib.hid (HP.out.below hb); replace HA := Lib.hid (HA.out.below hb); replace HR := Lib.hid (HR.out.below hb); replace HG := Lib.hid (HG.out.trans (hb.mono HG.out.size)); clear hb)
          | (refine store_new (by rfl) 55 (.tmp 15) (.tmp 64) (by rfl) 55 rfl cp (by rfl) (by rfl) (by rw [PS.out]; rfl) PI.out PO.out ?_; rintro U2 hV hb; replace HP := Lib.hid (HP.out.below hb); replace HA := Lib.hid (HA.out.below hb); replace HR := Lib.hid (HR.out.below hb); replace HG := Lib.hid (HG.out.trans (hb.mono HG.out.size)); clear hb; have B1 := Lib.hid hV; clear hV)
          | (refine load_g (by rfl) 55 (.tmp 15) (by rfl) (wgP.heap.size) 0 (by rfl) cp _ (range_blk B1.out) Tryz.underlying55 (by rfl) PI.out ?_)
          | fail)
        go_meet
        exact ⟨HP.out, HA.out, HR.out, HG.out⟩
    case rest =>
      clear HP HA HR HG
      obtain ⟨hp, ha, hr, hg⟩ := hcut
      have HP := Lib.hid hp; have HA := Lib.hid ha; have HR := Lib.hid hr; have HG := Lib.hid hg; clear hp ha hr hg
      go_upto_if 78 with (first
        | (refine load_g (by rfl) 57 (.tmp 6) (by rfl) (w.heap.size + 1 + 1) 0 (by rfl) ca _ (range_blk HA.out) Tryz.underlying57 (by rfl) AI.out ?_)
        | (go_at_call 30; refine Calls.mono (IA.out _) ?_; rintro e wiA ⟨rfl, hb⟩; clear IA; replace HP := Lib.hid (HP.out.below hb); replace HA := Lib.hid (HA.out.below hb); replace HR := Lib.hid (HR.out.below hb); replace HG := Lib.hid (HG.out.trans (hb.mono HG.out.size)); clear hb)
        | fail)
      go_cut [] from 79 to 99 (fun wx => Blk wx (w.heap.size + 1) 55 cp ∧ Blk wx (w.heap.size + 1 + 1) 57 ca ∧ Blk wx (w.heap.size + 1 + 1 + 1) 59 cr ∧ Below w.heap.size w wx)
      case first =>
        cases ba with
        | false =>
          go_wp2_with fail
          go_meet
          exact ⟨HP.out, HA.out, HR.out, HG.out⟩
        | true =>
          obtain ⟨f1, f2, f3⟩ := FA.out rfl
          rw [f1] at EA
          obtain ⟨y, ey⟩ : ∃ l, l = anE an := ⟨_, rfl⟩
          rw [← ey] at EA f2 f3
          have D1 := Lib.hid (fun A c w1 h => DA.out y A c w1 h)
          rw [f2, f3, ← XA.out] at D1; clear f1 f2 f3 ey FA
          have hq := QA.out
          go_wp2_with (first
            | (refine load_g (by rfl) 57 (.tmp 6) (by rfl) (w.heap.size + 1 + 1) 0 (by rfl) ca _ (range_blk HA.out) Tryz.underlying57 (by rfl) AI.out ?_)
            | (go_at_call 19; refine Calls.mono (EA.out _) ?_; rintro e wfA ⟨⟨v, i, rfl, hn, hsm⟩, hb⟩; obtain ⟨rfl, gx, cx, rfl, hgx, hcx, hrx⟩ := hsm y rfl; clear EA hn hsm hgx hcx; replace HP := Lib.hid (HP.out.below hb); replace HA := Lib.hid (HA.out.below hb); replace HR := Lib.hid (HR.out.below hb); replace HG := Lib.hid (HG.out.trans (hb.mono HG.out.size)); clear hb; have RX := Lib.hid hrx; clear hrx)
            | (go_at_call 25; refine Calls.mono (D1.out _ _ _ RX.out) ?_; rintro e wgA ⟨rfl, hb⟩; clear D1 RX; replace HP := Lib.hid (HP.out.below hb); replace HA := Lib.hid (HA.out.below hb); replace HR := Lib.hid (HR.out.below hb); replace HG := Lib.hid (HG.out.trans (hb.mono HG.out.size)); clear hb)
            | (refine store_new (by rfl) 57 (.tmp 19) (.tmp 87) (by rfl) 57 rfl ca (by rfl) (by rfl) (by rw [AS.out]; rfl) AI.out AO.out ?_; rintro U3 hV hb; replace HP := Lib.hid (HP.out.below hb); replace HA := Lib.hid (HA.out.below hb); replace HR := Lib.hid (HR.out.below hb); replace HG := Lib.hid (HG.out.trans (hb.mono HG.out.size)); clear hb; have B1 := Lib.hid hV; clear hV)
            | (refine load_g (by rfl) 57 (.tmp 19) (by rfl) (wgA.heap.size) 0 (by rfl) ca _ (range_blk B1.out) Tryz.underlying57 (by rfl) AI.out ?_)
            | fail)
          go_meet
          exact ⟨HP.out, HA.out, HR.out, HG.out⟩
      case rest =>
        clear HP HA HR HG
        obtain ⟨hp, ha, hr, hg⟩ := hcut
        have HP := Lib.hid hp; have HA := Lib.hid ha; have HR := Lib.hid hr; have HG := Lib.hid hg; clear hp ha hr hg
        go_upto_if 101 with (first
          | (refine load_g (by rfl) 59 (.tmp 7) (by rfl) (w.heap.size + 1 + 1 + 1) 0 (by rfl) cr _ (range_blk HR.out) Tryz.underlying59 (by rfl) RI.out ?_)
          | (go_at_call 31; refine Calls.mono (IR.out _) ?_; rintro e wiR ⟨rfl, hb⟩; clear IR; replace HP := Lib.hid (HP.out.below hb); replace HA := Lib.hid (HA.out.below hb); replace HR := Lib.hid (HR.out.below hb); replace HG := Lib.hid (HG.out.trans (hb.mono HG.out.size)); clear hb)
          | fail)
        go_cut [] from 102 to 122 (fun wx => Blk wx (w.heap.size + 1) 55 cp ∧ Blk wx (w.heap.size + 1 + 1) 57 ca ∧ Blk wx (w.heap.size + 1 + 1 + 1) 59 cr ∧ Below w.heap.size w wx)
        case first =>
          cases br with
          | false =>
            go_wp2_with fail
            go_meet
            exact ⟨HP.out, HA.out, HR.out, HG.out⟩
          | true =>
            obtain ⟨f1, f2, f3⟩ := FR.out rfl
            rw [f1] at ER
            obtain ⟨y, ey⟩ : ∃ l, l = rpE r := ⟨_, rfl⟩
            rw [← ey] at ER f2 f3
            have D1 := Lib.hid (fun A c w1 h => DR.out y A c w1 h)
            rw [f2, f3, ← XR.out] at D1; clear f1 f2 f3 ey FR
            have hq := QR.out
            go_wp2_with (first
              | (refine load_g (by rfl) 59 (.tmp 7) (by rfl) (w.heap.size + 1 + 1 + 1) 0 (by rfl) cr _ (range_blk HR.out) Tryz.underlying59 (by rfl) RI.out ?_)
              | (go_at_call 21; refine Calls.mono (ER.out _) ?_; rintro e wfR ⟨⟨v, i, rfl, hn, hsm⟩, hb⟩; obtain ⟨rfl, gx, cx, rfl, hgx, hcx, hrx⟩ := hsm y rfl; clear ER hn hsm hgx hcx; replace HP := Lib.hid (HP.out.below hb); replace HA := Lib.hid (HA.out.below hb); replace HR := Lib.hid (HR.out.below hb); replace HG := Lib.hid (HG.out.trans (hb.mono HG.out.size)); clear hb; have RX := Lib.hid hrx; clear hrx)
              | (go_at_call 27; refine Calls.mono (D1.out _ _ _ RX.out) ?_; rintro e wgR ⟨rfl, hb⟩; clear D1 RX; replace HP := Lib.hid (HP.out.below hb); replace HA := Lib.hid (HA.out.below hb); replace HR := Lib.hid (HR.out.below hb); replace HG := Lib.hid (HG.out.trans (hb.mono HG.out.size)); clear hb)
              | (refine store_new (by rfl) 59 (.tmp 23) (.tmp 110) (by rfl) 59 rfl cr (by rfl) (by rfl) (by rw [RS.out]; rfl) RI.out RO.out ?_; rintro U4 hV hb; replace HP := Lib.hid (HP.out.below hb); replace HA := Lib.hid (HA.out.below hb); replace HR := Lib.hid (HR.out.below hb); replace HG := Lib.hid (HG.out.trans (hb.mono HG.out.size)); clear hb; have B1 := Lib.hid hV; clear hV)
              | (refine load_g (by rfl) 59 (.tmp 23) (by rfl) (wgR.heap.size) 0 (by rfl) cr _ (range_blk B1.out) Tryz.underlying59 (by rfl) RI.out ?_)
              | fail)
            go_meet
            exact ⟨HP.out, HA.out, HR.out, HG.out⟩
        case rest =>
          clear HP HA HR HG
          obtain ⟨hp, ha, hr, hg⟩ := hcut
          have HP := Lib.hid hp; have HA := Lib.hid ha; have HR := Lib.hid hr; have HG := Lib.hid hg; clear hp ha hr hg
          go_wp2_with (first
            | (go_at_call 15; refine Calls.mono (known_any _) ?_; rintro e wx ⟨rfl, hb⟩; replace HG := Lib.hid (HG.out.trans (hb.mono HG.out.size)); clear hb)
            | fail)
          go_ret
          exact ⟨rfl, HG.out⟩
end Go.Proofs.YteeabfplnaknfaaGreat.Mc
end
