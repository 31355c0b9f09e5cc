import Derived.Deep.LoopGhost
import Derived.Deep.MidRow
import Derived.Lib.MinMax
import Derived.Test.YteeabfplnaknfaaZMsgOthers1
import Derived.Test.YteeabfplnaknfaaZMsgOthers2
import Derived.Test.YteeabfplnaknfaaZMsgOthers3
import Derived.Test.YteeabfplnaknfaaZMsgOthers4
import Derived.Test.YteeabfplnaknfaaZMsgOthers5
import Derived.Test.YteeabfplnaknfaaZMsgOthers6
import Derived.Test.YteeabfplnaknfaaZMsgOthers7
import Derived.Test.YteeabfplnaknfaaZMsgOthers8
import Derived.Test.YteeabfplnaknfaaZMsgOthers9
import Derived.Test.YteeabfplnaknfaaZMsgOthers10
import Derived.Test.YteeabfplnaknfaaZMsgOthers11
import Derived.Test.YteeabfplnaknfaaZMsgOthers12
section
set_option linter.unusedVariables false
set_option linter.unusedSimpArgs false
namespace Go.Proofs.Yteeabfplnaknfaa.Mc
open Go.RowKit Go.Proofs.Yteeabfplnaknfaa.Mem Go.Proofs.Yteeabfplnaknfaa.DerP Go.Proofs.Yteeabfplnaknfaa.Ms

theorem wi8 {x : Int} (h1 : -9223372036854775808 ≤ x) (h2 : x ≤ 9223372036854775807) : IntKind.i64.wrap x = x := by rw [IntKind.wrap_i64]; omega
theorem w64_on {x : Int} (h1 : -9223372036854775808 ≤ x) (h2 : x ≤ 9223372036854775807) : wrap64 x = x := by unfold wrap64; omega
set_option maxHeartbeats 800000 in
theorem lpr_any (p : Pr) (w : World) (h1 : p.1.length ≤ 281474976710656) (h2 : p.2.length ≤ 281474976710656) : Calls Try.prog 12 #[.agg #[.string ⟨p.1.toArray⟩, .string ⟨p.2.toArray⟩]] w fun e w' => e = .returned (.int .i64 ((p.1.length : Int) + (p.2.length : Int))) ∧ Below w.heap.size w w' := by
  have HB := Lib.hid ((Below.refl w.heap.size w).alloc (Nat.le_refl _) (.cells #[.string ⟨p.1.toArray⟩, .string ⟨p.2.toArray⟩] 23))
  have q1 : (p.1.length : Int) ≤ 281474976710656 := by omega
  have q2 : (p.2.length : Int) ≤ 281474976710656 := by omega
  clear h1 h2
  go_enter Try.func12, Try.ntmps12
  go_wp2
  go_ret
  exact ⟨by first | rfl | (rw [w64_on (by omega) (by omega)]), HB.out⟩
set_option maxHeartbeats 3200000 in
set_option maxRecDepth 10000 in
theorem lticket_any (t : Tk) (A : Option Addr) (c : Nat) (w : World) (h1 : t.s.1.length ≤ 281474976710656) (h2 : t.s.2.length ≤ 281474976710656) (h3 : t.b.length ≤ 281474976710656) : Calls Try.prog 13 #[.agg #[.string ⟨t.s.1.toArray⟩, .string ⟨t.s.2.toArray⟩, .int .i64 t.k, .slice A t.b.length c]] w fun e w' => e = .returned (.int .i64 ((t.s.1.length : Int) + (t.s.2.length : Int) + (t.b.length : Int))) ∧ Below w.heap.size w w' := by
  have HG := Lib.hid ((Below.refl w.heap.size w).alloc (Nat.le_refl _) (.cells #[.string ⟨t.s.1.toArray⟩, .string ⟨t.s.2.toArray⟩, .int .i64 t.k, .slice A t.b.length c] 28))
  have HX := Lib.hid (Blk.new w 28 #[.string ⟨t.s.1.toArray⟩, .string ⟨t.s.2.toArray⟩, .int .i64 t.k, .slice A t.b.length c])
  have CF := Lib.hid (fun (w' : World) (h : Blk w' w.heap.size 28 #[.string ⟨t.s.1.toArray⟩, .string ⟨t.s.2.toArray⟩, .int .i64 t.k, .slice A t.b.length c]) => (show w'.cell? ⟨w.heap.size, 0, none⟩ = some (.string ⟨t.s.1.toArray⟩) ∧ w'.cell? ⟨w.heap.size, 1, none⟩ = some (.string ⟨t.s.2.toArray⟩) ∧ w'.cell? ⟨w.heap.size, 3, none⟩ = some (.slice A t.b.length c) from ⟨h.cell 0, h.cell 1, h.cell 3⟩))
  have N1 := Lib.hid (fun w1 => lpr_any t.s w1 h1 h2)
  obtain ⟨n1, en1⟩ : ∃ n : Int, n = (t.s.1.length : Int) + (t.s.2.length : Int) := ⟨_, rfl⟩
  rw [← en1] at N1 ⊢
  have u1 : 0 ≤ n1 := by omega
  have v1 : n1 ≤ 562949953421312 := by omega
  have v2 : (t.b.length : Int) ≤ 281474976710656 := by omega
  clear en1 h1 h2 h3
  go_enter Try.func13, Try.ntmps13
  go_upto_region 1 with fail
  generalize (w.alloc (.cells #[.string ⟨t.s.1.toArray⟩, .string ⟨t.s.2.toArray⟩, .int .i64 t.k, .slice A t.b.length c] 28)) = W at HX HG ⊢
  refine Reg.region_begin 8 rfl (by kernel_rfl) ?_
  have hb : Below W.heap.size W W.drew := below_drewN (Below.refl _ _) 1
  replace HX := Lib.hid (HX.out.below hb); replace HG := Lib.hid (HG.out.trans (hb.mono HG.out.size)); clear hb
  refine Reg.take_op 0 (v := ?vt0) rfl (by kernel_rfl) (by kernel_rfl) (by kernel_rfl) (fun _ _ _ h => h) (by rfl) (fun w' hS => ?ht0) ?rt0
  case ht0 => go_simp; rfl
  simp only [Act.put, List.setIfInBounds_toArray, List.set_cons_zero, List.set_cons_succ]
  refine Reg.take_op 1 (v := ?vt1) rfl (by kernel_rfl) (by kernel_rfl) (by kernel_rfl) (fun _ _ _ h => h) (by rfl) (fun w' hS => ?ht1) ?rt1
  case ht1 => obtain ⟨q0, q1, q3⟩ := CF.out _ (HX.out.below hS); go_simp; rfl
  simp only [Act.put, List.setIfInBounds_toArray, List.set_cons_zero, List.set_cons_succ]
  refine Reg.take_op 3 (v := ?vt3) rfl (by kernel_rfl) (by kernel_rfl) (by kernel_rfl) (fun _ _ _ h => h) (by rfl) (fun w' hS => ?ht3) ?rt3
  case ht3 => go_simp; rfl
  simp only [Act.put, List.setIfInBounds_toArray, List.set_cons_zero, List.set_cons_succ]
  refine Reg.take_op 4 (v := ?vt4) rfl (by kernel_rfl) (by kernel_rfl) (by kernel_rfl) (fun _ _ _ h => h) (by rfl) (fun w' hS => ?ht4) ?rt4
  case ht4 => obtain ⟨q0, q1, q3⟩ := CF.out _ (HX.out.below hS); go_simp; rfl
  simp only [Act.put, List.setIfInBounds_toArray, List.set_cons_zero, List.set_cons_succ]
  refine Reg.take_op 5 (v := ?vt5) rfl (by kernel_rfl) (by kernel_rfl) (by kernel_rfl) (fun _ _ _ h => h) (by rfl) (fun w' hS => ?ht5) ?rt5
  case ht5 => go_simp; rfl
  simp only [Act.put, List.setIfInBounds_toArray, List.set_cons_zero, List.set_cons_succ]
  refine Reg.call_op 2 rfl (by kernel_rfl) (by rfl) 12 #[.agg #[.string ⟨t.s.1.toArray⟩, .string ⟨t.s.2.toArray⟩]] (by go_simp) ?_
  refine Calls.mono (N1.out _) ?_
  rintro e wn1 ⟨rfl, hb⟩
  refine ⟨_, rfl, hb, ?_⟩
  replace HX := Lib.hid (HX.out.below hb); replace HG := Lib.hid (HG.out.trans (hb.mono HG.out.size)); clear hb
  simp only [Act.put, List.setIfInBounds_toArray, List.set_cons_zero, List.set_cons_succ]
  refine Reg.take_op 6 (v := .int .i64 (n1 + (t.b.length : Int))) rfl (by kernel_rfl) (by kernel_rfl) (by kernel_rfl) (fun _ _ _ h => h) (by rfl) (fun w' hS => ?ht6) ?rt6
  case ht6 => go_simp; exact wi8 (by omega) (by omega)
  simp only [Act.put, List.setIfInBounds_toArray, List.set_cons_zero, List.set_cons_succ]
  refine Reg.take_op 7 (v := ?vt7) rfl (by kernel_rfl) (by kernel_rfl) (by kernel_rfl) (fun _ _ _ h => h) (by rfl) (fun w' hS => ?ht7) ?rt7
  case ht7 => go_simp; rfl
  simp only [Act.put, List.setIfInBounds_toArray, List.set_cons_zero, List.set_cons_succ]
  refine wpAnyH_done (by kernel_rfl) ?_ _
  go_wp2
  go_ret
  exact ⟨rfl, HG.out⟩
def sizeI (m : Mg) : Int := ((((((((((m.aq.c.1.length : Int) + (m.aq.c.2.length : Int)) + ((m.aq.s.1.length : Int) + (m.aq.s.2.length : Int))) + ((m.tg.t.s.1.length : Int) + (m.tg.t.s.2.length : Int) + (m.tg.t.b.length : Int))) + (m.tg.a.length : Int)) + ((m.tg.s.1.length : Int) + (m.tg.s.2.length : Int))) + ((m.re.c.1.length : Int) + (m.re.c.2.length : Int))) + ((m.re.t.s.1.length : Int) + (m.re.t.s.2.length : Int) + (m.re.t.b.length : Int))) + (m.re.b.length : Int)) + ((m.ap.t.s.1.length : Int) + (m.ap.t.s.2.length : Int) + (m.ap.t.b.length : Int))) + (m.ap.a.length : Int)
def SzM (m : Mg) : Prop := m.aq.c.1.length ≤ 281474976710656 ∧ m.aq.c.2.length ≤ 281474976710656 ∧ m.aq.s.1.length ≤ 281474976710656 ∧ m.aq.s.2.length ≤ 281474976710656 ∧ m.tg.t.s.1.length ≤ 281474976710656 ∧ m.tg.t.s.2.length ≤ 281474976710656 ∧ m.tg.t.b.length ≤ 281474976710656 ∧ m.tg.a.length ≤ 281474976710656 ∧ m.tg.s.1.length ≤ 281474976710656 ∧ m.tg.s.2.length ≤ 281474976710656 ∧ m.re.c.1.length ≤ 281474976710656 ∧ m.re.c.2.length ≤ 281474976710656 ∧ m.re.t.s.1.length ≤ 281474976710656 ∧ m.re.t.s.2.length ≤ 281474976710656 ∧ m.re.t.b.length ≤ 281474976710656 ∧ m.re.b.length ≤ 281474976710656 ∧ m.ap.t.s.1.length ≤ 281474976710656 ∧ m.ap.t.s.2.length ≤ 281474976710656 ∧ m.ap.t.b.length ≤ 281474976710656 ∧ m.ap.a.length ≤ 281474976710656
set_option maxHeartbeats 12800000 in
set_option maxRecDepth 10000 in
theorem size_lit (m : Mg) (A1 A2 A3 A4 A5 A6 : Option Addr) (c1 c2 c3 c4 c5 c6 : Nat) (w : World) (hz : SzM m) : Calls Try.prog 6 #[.agg #[.int .i64 m.k, .string ⟨m.aq.c.1.toArray⟩, .string ⟨m.aq.c.2.toArray⟩, .string ⟨m.aq.s.1.toArray⟩, .string ⟨m.aq.s.2.toArray⟩, .int .i64 m.aq.t, .int .i64 m.aq.no, .string ⟨m.tg.t.s.1.toArray⟩, .string ⟨m.tg.t.s.2.toArray⟩, .int .i64 m.tg.t.k, .slice A1 m.tg.t.b.length c1, .slice A2 m.tg.a.length c2, .string ⟨m.tg.s.1.toArray⟩, .string ⟨m.tg.s.2.toArray⟩, .int .i64 m.tg.u, .int .i64 m.tg.no, .string ⟨m.re.c.1.toArray⟩, .string ⟨m.re.c.2.toArray⟩, .string ⟨m.re.t.s.1.toArray⟩, .string ⟨m.re.t.s.2.toArray⟩, .int .i64 m.re.t.k, .slice A3 m.re.t.b.length c3, .slice A4 m.re.b.length c4, .string ⟨m.ap.t.s.1.toArray⟩, .string ⟨m.ap.t.s.2.toArray⟩, .int .i64 m.ap.t.k, .slice A5 m.ap.t.b.length c5, .slice A6 m.ap.a.length c6, .int .i64 m.fa.e, .int .i64 m.fa.no]] w fun e w' => e = .returned (.int .i64 (sizeI m)) ∧ Below w.heap.size w w' := by
  obtain ⟨z0, z1, z2, z3, z4, z5, z6, z7, z8, z9, z10, z11, z12, z13, z14, z15, z16, z17, z18, z19⟩ := hz
  have HG := Lib.hid ((Below.refl w.heap.size w).alloc (Nat.le_refl _) (.cells #[.int .i64 m.k, .string ⟨m.aq.c.1.toArray⟩, .string ⟨m.aq.c.2.toArray⟩, .string ⟨m.aq.s.1.toArray⟩, .string ⟨m.aq.s.2.toArray⟩, .int .i64 m.aq.t, .int .i64 m.aq.no, .string ⟨m.tg.t.s.1.toArray⟩, .string ⟨m.tg.t.s.2.toArray⟩, .int .i64 m.tg.t.k, .slice A1 m.tg.t.b.length c1, .slice A2 m.tg.a.length c2, .string ⟨m.tg.s.1.toArray⟩, .string ⟨m.tg.s.2.toArray⟩, .int .i64 m.tg.u, .int .i64 m.tg.no, .string ⟨m.re.c.1.toArray⟩, .string ⟨m.re.c.2.toArray⟩, .string ⟨m.re.t.s.1.toArray⟩, .string ⟨m.re.t.s.2.toArray⟩, .int .i64 m.re.t.k, .slice A3 m.re.t.b.length c3, .slice A4 m.re.b.length c4, .string ⟨m.ap.t.s.1.toArray⟩, .string ⟨m.ap.t.s.2.toArray⟩, .int .i64 m.ap.t.k, .slice A5 m.ap.t.b.length c5, .slice A6 m.ap.a.length c6, .int .i64 m.fa.e, .int .i64 m.fa.no] 39))
  have HX := Lib.hid (Blk.new w 39 #[.int .i64 m.k, .string ⟨m.aq.c.1.toArray⟩, .string ⟨m.aq.c.2.toArray⟩, .string ⟨m.aq.s.1.toArray⟩, .string ⟨m.aq.s.2.toArray⟩, .int .i64 m.aq.t, .int .i64 m.aq.no, .string ⟨m.tg.t.s.1.toArray⟩, .string ⟨m.tg.t.s.2.toArray⟩, .int .i64 m.tg.t.k, .slice A1 m.tg.t.b.length c1, .slice A2 m.tg.a.length c2, .string ⟨m.tg.s.1.toArray⟩, .string ⟨m.tg.s.2.toArray⟩, .int .i64 m.tg.u, .int .i64 m.tg.no, .string ⟨m.re.c.1.toArray⟩, .string ⟨m.re.c.2.toArray⟩, .string ⟨m.re.t.s.1.toArray⟩, .string ⟨m.re.t.s.2.toArray⟩, .int .i64 m.re.t.k, .slice A3 m.re.t.b.length c3, .slice A4 m.re.b.length c4, .string ⟨m.ap.t.s.1.toArray⟩, .string ⟨m.ap.t.s.2.toArray⟩, .int .i64 m.ap.t.k, .slice A5 m.ap.t.b.length c5, .slice A6 m.ap.a.length c6, .int .i64 m.fa.e, .int .i64 m.fa.no])
  have CF := Lib.hid (fun (w' : World) (h : Blk w' w.heap.size 39 #[.int .i64 m.k, .string ⟨m.aq.c.1.toArray⟩, .string ⟨m.aq.c.2.toArray⟩, .string ⟨m.aq.s.1.toArray⟩, .string ⟨m.aq.s.2.toArray⟩, .int .i64 m.aq.t, .int .i64 m.aq.no, .string ⟨m.tg.t.s.1.toArray⟩, .string ⟨m.tg.t.s.2.toArray⟩, .int .i64 m.tg.t.k, .slice A1 m.tg.t.b.length c1, .slice A2 m.tg.a.length c2, .string ⟨m.tg.s.1.toArray⟩, .string ⟨m.tg.s.2.toArray⟩, .int .i64 m.tg.u, .int .i64 m.tg.no, .string ⟨m.re.c.1.toArray⟩, .string ⟨m.re.c.2.toArray⟩, .string ⟨m.re.t.s.1.toArray⟩, .string ⟨m.re.t.s.2.toArray⟩, .int .i64 m.re.t.k, .slice A3 m.re.t.b.length c3, .slice A4 m.re.b.length c4, .string ⟨m.ap.t.s.1.toArray⟩, .string ⟨m.ap.t.s.2.toArray⟩, .int .i64 m.ap.t.k, .slice A5 m.ap.t.b.length c5, .slice A6 m.ap.a.length c6, .int .i64 m.fa.e, .int .i64 m.fa.no]) => (show w'.cell? ⟨w.heap.size, 1, none⟩ = some (.string ⟨m.aq.c.1.toArray⟩) ∧ w'.cell? ⟨w.heap.size, 2, none⟩ = some (.string ⟨m.aq.c.2.toArray⟩) ∧ w'.cell? ⟨w.heap.size, 3, none⟩ = some (.string ⟨m.aq.s.1.toArray⟩) ∧ w'.cell? ⟨w.heap.size, 4, none⟩ = some (.string ⟨m.aq.s.2.toArray⟩) ∧ w'.cell? ⟨w.heap.size, 7, none⟩ = some (.string ⟨m.tg.t.s.1.toArray⟩) ∧ w'.cell? ⟨w.heap.size, 8, none⟩ = some (.string ⟨m.tg.t.s.2.toArray⟩) ∧ w'.cell? ⟨w.heap.size, 9, none⟩ = some (.int .i64 m.tg.t.k) ∧ w'.cell? ⟨w.heap.size, 10, none⟩ = some (.slice A1 m.tg.t.b.length c1) ∧ w'.cell? ⟨w.heap.size, 11, none⟩ = some (.slice A2 m.tg.a.length c2) ∧ w'.cell? ⟨w.heap.size, 12, none⟩ = some (.string ⟨m.tg.s.1.toArray⟩) ∧ w'.cell? ⟨w.heap.size, 13, none⟩ = some (.string ⟨m.tg.s.2.toArray⟩) ∧ w'.cell? ⟨w.heap.size, 16, none⟩ = some (.string ⟨m.re.c.1.toArray⟩) ∧ w'.cell? ⟨w.heap.size, 17, none⟩ = some (.string ⟨m.re.c.2.toArray⟩) ∧ w'.cell? ⟨w.heap.size, 18, none⟩ = some (.string ⟨m.re.t.s.1.toArray⟩) ∧ w'.cell? ⟨w.heap.size, 19, none⟩ = some (.string ⟨m.re.t.s.2.toArray⟩) ∧ w'.cell? ⟨w.heap.size, 20, none⟩ = some (.int .i64 m.re.t.k) ∧ w'.cell? ⟨w.heap.size, 21, none⟩ = some (.slice A3 m.re.t.b.length c3) ∧ w'.cell? ⟨w.heap.size, 22, none⟩ = some (.slice A4 m.re.b.length c4) ∧ w'.cell? ⟨w.heap.size, 23, none⟩ = some (.string ⟨m.ap.t.s.1.toArray⟩) ∧ w'.cell? ⟨w.heap.size, 24, none⟩ = some (.string ⟨m.ap.t.s.2.toArray⟩) ∧ w'.cell? ⟨w.heap.size, 25, none⟩ = some (.int .i64 m.ap.t.k) ∧ w'.cell? ⟨w.heap.size, 26, none⟩ = some (.slice A5 m.ap.t.b.length c5) ∧ w'.cell? ⟨w.heap.size, 27, none⟩ = some (.slice A6 m.ap.a.length c6) from ⟨h.cell 1, h.cell 2, h.cell 3, h.cell 4, h.cell 7, h.cell 8, h.cell 9, h.cell 10, h.cell 11, h.cell 12, h.cell 13, h.cell 16, h.cell 17, h.cell 18, h.cell 19, h.cell 20, h.cell 21, h.cell 22, h.cell 23, h.cell 24, h.cell 25, h.cell 26, h.cell 27⟩))
  have N0 := Lib.hid (fun w1 => lpr_any m.aq.c w1 z0 z1)
  obtain ⟨n0, en0⟩ : ∃ n : Int, n = (m.aq.c.1.length : Int) + (m.aq.c.2.length : Int) := ⟨_, rfl⟩
  rw [← en0] at N0
  have u0 : 0 ≤ n0 := by omega
  have v0 : n0 ≤ 1125899906842624 := by omega
  have N1 := Lib.hid (fun w1 => lpr_any m.aq.s w1 z2 z3)
  obtain ⟨n1, en1⟩ : ∃ n : Int, n = (m.aq.s.1.length : Int) + (m.aq.s.2.length : Int) := ⟨_, rfl⟩
  rw [← en1] at N1
  have u1 : 0 ≤ n1 := by omega
  have v1 : n1 ≤ 1125899906842624 := by omega
  have N2 := Lib.hid (fun w1 => lticket_any m.tg.t A1 c1 w1 z4 z5 z6)
  obtain ⟨n2, en2⟩ : ∃ n : Int, n = (m.tg.t.s.1.length : Int) + (m.tg.t.s.2.length : Int) + (m.tg.t.b.length : Int) := ⟨_, rfl⟩
  rw [← en2] at N2
  have u2 : 0 ≤ n2 := by omega
  have v2 : n2 ≤ 1125899906842624 := by omega
  obtain ⟨n3, en3⟩ : ∃ n : Int, n = (m.tg.a.length : Int) := ⟨_, rfl⟩
  have u3 : 0 ≤ n3 := by omega
  have v3 : n3 ≤ 1125899906842624 := by omega
  have N4 := Lib.hid (fun w1 => lpr_any m.tg.s w1 z8 z9)
  obtain ⟨n4, en4⟩ : ∃ n : Int, n = (m.tg.s.1.length : Int) + (m.tg.s.2.length : Int) := ⟨_, rfl⟩
  rw [← en4] at N4
  have u4 : 0 ≤ n4 := by omega
  have v4 : n4 ≤ 1125899906842624 := by omega
  have N5 := Lib.hid (fun w1 => lpr_any m.re.c w1 z10 z11)
  obtain ⟨n5, en5⟩ : ∃ n : Int, n = (m.re.c.1.length : Int) + (m.re.c.2.length : Int) := ⟨_, rfl⟩
  rw [← en5] at N5
  have u5 : 0 ≤ n5 := by omega
  have v5 : n5 ≤ 1125899906842624 := by omega
  have N6 := Lib.hid (fun w1 => lticket_any m.re.t A3 c3 w1 z12 z13 z14)
  obtain ⟨n6, en6⟩ : ∃ n : Int, n = (m.re.t.s.1.length : Int) + (m.re.t.s.2.length : Int) + (m.re.t.b.length : Int) := ⟨_, rfl⟩
  rw [← en6] at N6
  have u6 : 0 ≤ n6 := by omega
  have v6 : n6 ≤ 1125899906842624 := by omega
  obtain ⟨n7, en7⟩ : ∃ n : Int, n = (m.re.b.length : Int) := ⟨_, rfl⟩
  have u7 : 0 ≤ n7 := by omega
  have v7 : n7 ≤ 1125899906842624 := by omega
  have N8 := Lib.hid (fun w1 => lticket_any m.ap.t A5 c5 w1 z16 z17 z18)
  obtain ⟨n8, en8⟩ : ∃ n : Int, n = (m.ap.t.s.1.length : Int) + (m.ap.t.s.2.length : Int) + (m.ap.t.b.length : Int) := ⟨_, rfl⟩
  rw [← en8] at N8
  have u8 : 0 ≤ n8 := by omega
  have v8 : n8 ≤ 1125899906842624 := by omega
  obtain ⟨n9, en9⟩ : ∃ n : Int, n = (m.ap.a.length : Int) := ⟨_, rfl⟩
  have u9 : 0 ≤ n9 := by omega
  have v9 : n9 ≤ 1125899906842624 := by omega
  have ET := Lib.hid (show sizeI m = n0 + n1 + n2 + n3 + n4 + n5 + n6 + n7 + n8 + n9 by rw [sizeI, en0, en1, en2, en3, en4, en5, en6, en7, en8, en9])
  clear z0 z1 z2 z3 z4 z5 z6 z7 z8 z9 z10 z11 z12 z13 z14 z15 z16 z17 z18 z19
  have EB1 := Lib.hid en3; have EB2 := Lib.hid en7; have EB3 := Lib.hid en9
  clear en0 en1 en2 en3 en4 en5 en6 en7 en8 en9
  rw [ET.out]
  go_enter Try.func6, Try.ntmps6
  go_upto_region 1 with fail
  generalize (w.alloc (.cells #[.int .i64 m.k, .string ⟨m.aq.c.1.toArray⟩, .string ⟨m.aq.c.2.toArray⟩, .string ⟨m.aq.s.1.toArray⟩, .string ⟨m.aq.s.2.toArray⟩, .int .i64 m.aq.t, .int .i64 m.aq.no, .string ⟨m.tg.t.s.1.toArray⟩, .string ⟨m.tg.t.s.2.toArray⟩, .int .i64 m.tg.t.k, .slice A1 m.tg.t.b.length c1, .slice A2 m.tg.a.length c2, .string ⟨m.tg.s.1.toArray⟩, .string ⟨m.tg.s.2.toArray⟩, .int .i64 m.tg.u, .int .i64 m.tg.no, .string ⟨m.re.c.1.toArray⟩, .string ⟨m.re.c.2.toArray⟩, .string ⟨m.re.t.s.1.toArray⟩, .string ⟨m.re.t.s.2.toArray⟩, .int .i64 m.re.t.k, .slice A3 m.re.t.b.length c3, .slice A4 m.re.b.length c4, .string ⟨m.ap.t.s.1.toArray⟩, .string ⟨m.ap.t.s.2.toArray⟩, .int .i64 m.ap.t.k, .slice A5 m.ap.t.b.length c5, .slice A6 m.ap.a.length c6, .int .i64 m.fa.e, .int .i64 m.fa.no] 39)) = W at HX HG ⊢
  refine Reg.region_begin 50 rfl (by kernel_rfl) ?_
  have hb : Below W.heap.size W W.drew := below_drewN (Below.refl _ _) 1
  replace HX := Lib.hid (HX.out.below hb); replace HG := Lib.hid (HG.out.trans (hb.mono HG.out.size)); clear hb
  refine Reg.take_op 0 (v := ?vz0) rfl (by kernel_rfl) (by kernel_rfl) (by kernel_rfl) (fun _ _ _ h => h) (by rfl) (fun w' hS => ?hz0) ?rz0
  case hz0 => go_simp; rfl
  simp only [Act.put, List.setIfInBounds_toArray, List.set_cons_zero, List.set_cons_succ]
  refine Reg.take_op 1 (v := ?vz1) rfl (by kernel_rfl) (by kernel_rfl) (by kernel_rfl) (fun _ _ _ h => h) (by rfl) (fun w' hS => ?hz1) ?rz1
  case hz1 => go_simp; rfl
  simp only [Act.put, List.setIfInBounds_toArray, List.set_cons_zero, List.set_cons_succ]
  refine Reg.take_op 2 (v := ?vz2) rfl (by kernel_rfl) (by kernel_rfl) (by kernel_rfl) (fun _ _ _ h => h) (by rfl) (fun w' hS => ?hz2) ?rz2
  case hz2 => obtain ⟨q1, q2, q3, q4, q7, q8, q9, q10, q11, q12, q13, q16, q17, q18, q19, q20, q21, q22, q23, q24, q25, q26, q27⟩ := CF.out _ (HX.out.below hS); go_simp; rfl
  simp only [Act.put, List.setIfInBounds_toArray, List.set_cons_zero, List.set_cons_succ]
  refine Reg.take_op 4 (v := ?vz4) rfl (by kernel_rfl) (by kernel_rfl) (by kernel_rfl) (fun _ _ _ h => h) (by rfl) (fun w' hS => ?hz4) ?rz4
  case hz4 => go_simp; rfl
  simp only [Act.put, List.setIfInBounds_toArray, List.set_cons_zero, List.set_cons_succ]
  refine Reg.take_op 5 (v := ?vz5) rfl (by kernel_rfl) (by kernel_rfl) (by kernel_rfl) (fun _ _ _ h => h) (by rfl) (fun w' hS => ?hz5) ?rz5
  case hz5 => go_simp; rfl
  simp only [Act.put, List.setIfInBounds_toArray, List.set_cons_zero, List.set_cons_succ]
  refine Reg.take_op 6 (v := ?vz6) rfl (by kernel_rfl) (by kernel_rfl) (by kernel_rfl) (fun _ _ _ h => h) (by rfl) (fun w' hS => ?hz6) ?rz6
  case hz6 => obtain ⟨q1, q2, q3, q4, q7, q8, q9, q10, q11, q12, q13, q16, q17, q18, q19, q20, q21, q22, q23, q24, q25, q26, q27⟩ := CF.out _ (HX.out.below hS); go_simp; rfl
  simp only [Act.put, List.setIfInBounds_toArray, List.set_cons_zero, List.set_cons_succ]
  refine Reg.take_op 9 (v := ?vz9) rfl (by kernel_rfl) (by kernel_rfl) (by kernel_rfl) (fun _ _ _ h => h) (by rfl) (fun w' hS => ?hz9) ?rz9
  case hz9 => go_simp; rfl
  simp only [Act.put, List.setIfInBounds_toArray, List.set_cons_zero, List.set_cons_succ]
  refine Reg.take_op 10 (v := ?vz10) rfl (by kernel_rfl) (by kernel_rfl) (by kernel_rfl) (fun _ _ _ h => h) (by rfl) (fun w' hS => ?hz10) ?rz10
  case hz10 => go_simp; rfl
  simp only [Act.put, List.setIfInBounds_toArray, List.set_cons_zero, List.set_cons_succ]
  refine Reg.take_op 11 (v := ?vz11) rfl (by kernel_rfl) (by kernel_rfl) (by kernel_rfl) (fun _ _ _ h => h) (by rfl) (fun w' hS => ?hz11) ?rz11
  case hz11 => obtain ⟨q1, q2, q3, q4, q7, q8, q9, q10, q11, q12, q13, q16, q17, q18, q19, q20, q21, q22, q23, q24, q25, q26, q27⟩ := CF.out _ (HX.out.below hS); go_simp; rfl
  simp only [Act.put, List.setIfInBounds_toArray, List.set_cons_zero, List.set_cons_succ]
  refine Reg.take_op 14 (v := ?vz14) rfl (by kernel_rfl) (by kernel_rfl) (by kernel_rfl) (fun _ _ _ h => h) (by rfl) (fun w' hS => ?hz14) ?rz14
  case hz14 => go_simp; rfl
  simp only [Act.put, List.setIfInBounds_toArray, List.set_cons_zero, List.set_cons_succ]
  refine Reg.take_op 15 (v := ?vz15) rfl (by kernel_rfl) (by kernel_rfl) (by kernel_rfl) (fun _ _ _ h => h) (by rfl) (fun w' hS => ?hz15) ?rz15
  case hz15 => go_simp; rfl
  simp only [Act.put, List.setIfInBounds_toArray, List.set_cons_zero, List.set_cons_succ]
  refine Reg.take_op 16 (v := ?vz16) rfl (by kernel_rfl) (by kernel_rfl) (by kernel_rfl) (fun _ _ _ h => h) (by rfl) (fun w' hS => ?hz16) ?rz16
  case hz16 => obtain ⟨q1, q2, q3, q4, q7, q8, q9, q10, q11, q12, q13, q16, q17, q18, q19, q20, q21, q22, q23, q24, q25, q26, q27⟩ := CF.out _ (HX.out.below hS); go_simp; rfl
  simp only [Act.put, List.setIfInBounds_toArray, List.set_cons_zero, List.set_cons_succ]
  refine Reg.take_op 17 (v := .int .i64 n3) rfl (by kernel_rfl) (by kernel_rfl) (by kernel_rfl) (fun _ _ _ h => h) (by rfl) (fun w' hS => ?hz17) ?rz17
  case hz17 => rw [EB1.out]; go_simp
  simp only [Act.put, List.setIfInBounds_toArray, List.set_cons_zero, List.set_cons_succ]
  refine Reg.take_op 19 (v := ?vz19) rfl (by kernel_rfl) (by kernel_rfl) (by kernel_rfl) (fun _ _ _ h => h) (by rfl) (fun w' hS => ?hz19) ?rz19
  case hz19 => go_simp; rfl
  simp only [Act.put, List.setIfInBounds_toArray, List.set_cons_zero, List.set_cons_succ]
  refine Reg.take_op 20 (v := ?vz20) rfl (by kernel_rfl) (by kernel_rfl) (by kernel_rfl) (fun _ _ _ h => h) (by rfl) (fun w' hS => ?hz20) ?rz20
  case hz20 => go_simp; rfl
  simp only [Act.put, List.setIfInBounds_toArray, List.set_cons_zero, List.set_cons_succ]
  refine Reg.take_op 21 (v := ?vz21) rfl (by kernel_rfl) (by kernel_rfl) (by kernel_rfl) (fun _ _ _ h => h) (by rfl) (fun w' hS => ?hz21) ?rz21
  case hz21 => obtain ⟨q1, q2, q3, q4, q7, q8, q9, q10, q11, q12, q13, q16, q17, q18, q19, q20, q21, q22, q23, q24, q25, q26, q27⟩ := CF.out _ (HX.out.below hS); go_simp; rfl
  simp only [Act.put, List.setIfInBounds_toArray, List.set_cons_zero, List.set_cons_succ]
  refine Reg.take_op 24 (v := ?vz24) rfl (by kernel_rfl) (by kernel_rfl) (by kernel_rfl) (fun _ _ _ h => h) (by rfl) (fun w' hS => ?hz24) ?rz24
  case hz24 => go_simp; rfl
  simp only [Act.put, List.setIfInBounds_toArray, List.set_cons_zero, List.set_cons_succ]
  refine Reg.take_op 25 (v := ?vz25) rfl (by kernel_rfl) (by kernel_rfl) (by kernel_rfl) (fun _ _ _ h => h) (by rfl) (fun w' hS => ?hz25) ?rz25
  case hz25 => go_simp; rfl
  simp only [Act.put, List.setIfInBounds_toArray, List.set_cons_zero, List.set_cons_succ]
  refine Reg.take_op 26 (v := ?vz26) rfl (by kernel_rfl) (by kernel_rfl) (by kernel_rfl) (fun _ _ _ h => h) (by rfl) (fun w' hS => ?hz26) ?rz26
  case hz26 => obtain ⟨q1, q2, q3, q4, q7, q8, q9, q10, q11, q12, q13, q16, q17, q18, q19, q20, q21, q22, q23, q24, q25, q26, q27⟩ := CF.out _ (HX.out.below hS); go_simp; rfl
  simp only [Act.put, List.setIfInBounds_toArray, List.set_cons_zero, List.set_cons_succ]
  refine Reg.take_op 29 (v := ?vz29) rfl (by kernel_rfl) (by kernel_rfl) (by kernel_rfl) (fun _ _ _ h => h) (by rfl) (fun w' hS => ?hz29) ?rz29
  case hz29 => go_simp; rfl
  simp only [Act.put, List.setIfInBounds_toArray, List.set_cons_zero, List.set_cons_succ]
  refine Reg.take_op 30 (v := ?vz30) rfl (by kernel_rfl) (by kernel_rfl) (by kernel_rfl) (fun _ _ _ h => h) (by rfl) (fun w' hS => ?hz30) ?rz30
  case hz30 => go_simp; rfl
  simp only [Act.put, List.setIfInBounds_toArray, List.set_cons_zero, List.set_cons_succ]
  refine Reg.take_op 31 (v := ?vz31) rfl (by kernel_rfl) (by kernel_rfl) (by kernel_rfl) (fun _ _ _ h => h) (by rfl) (fun w' hS => ?hz31) ?rz31
  case hz31 => obtain ⟨q1, q2, q3, q4, q7, q8, q9, q10, q11, q12, q13, q16, q17, q18, q19, q20, q21, q22, q23, q24, q25, q26, q27⟩ := CF.out _ (HX.out.below hS); go_simp; rfl
  simp only [Act.put, List.setIfInBounds_toArray, List.set_cons_zero, List.set_cons_succ]
  refine Reg.take_op 34 (v := ?vz34) rfl (by kernel_rfl) (by kernel_rfl) (by kernel_rfl) (fun _ _ _ h => h) (by rfl) (fun w' hS => ?hz34) ?rz34
  case hz34 => go_simp; rfl
  simp only [Act.put, List.setIfInBounds_toArray, List.set_cons_zero, List.set_cons_succ]
  refine Reg.take_op 35 (v := ?vz35) rfl (by kernel_rfl) (by kernel_rfl) (by kernel_rfl) (fun _ _ _ h => h) (by rfl) (fun w' hS => ?hz35) ?rz35
  case hz35 => go_simp; rfl
  simp only [Act.put, List.setIfInBounds_toArray, List.set_cons_zero, List.set_cons_succ]
  refine Reg.take_op 36 (v := ?vz36) rfl (by kernel_rfl) (by kernel_rfl) (by kernel_rfl) (fun _ _ _ h => h) (by rfl) (fun w' hS => ?hz36) ?rz36
  case hz36 => obtain ⟨q1, q2, q3, q4, q7, q8, q9, q10, q11, q12, q13, q16, q17, q18, q19, q20, q21, q22, q23, q24, q25, q26, q27⟩ := CF.out _ (HX.out.below hS); go_simp; rfl
  simp only [Act.put, List.setIfInBounds_toArray, List.set_cons_zero, List.set_cons_succ]
  refine Reg.take_op 37 (v := .int .i64 n7) rfl (by kernel_rfl) (by kernel_rfl) (by kernel_rfl) (fun _ _ _ h => h) (by rfl) (fun w' hS => ?hz37) ?rz37
  case hz37 => rw [EB2.out]; go_simp
  simp only [Act.put, List.setIfInBounds_toArray, List.set_cons_zero, List.set_cons_succ]
  refine Reg.take_op 39 (v := ?vz39) rfl (by kernel_rfl) (by kernel_rfl) (by kernel_rfl) (fun _ _ _ h => h) (by rfl) (fun w' hS => ?hz39) ?rz39
  case hz39 => go_simp; rfl
  simp only [Act.put, List.setIfInBounds_toArray, List.set_cons_zero, List.set_cons_succ]
  refine Reg.take_op 40 (v := ?vz40) rfl (by kernel_rfl) (by kernel_rfl) (by kernel_rfl) (fun _ _ _ h => h) (by rfl) (fun w' hS => ?hz40) ?rz40
  case hz40 => go_simp; rfl
  simp only [Act.put, List.setIfInBounds_toArray, List.set_cons_zero, List.set_cons_succ]
  refine Reg.take_op 41 (v := ?vz41) rfl (by kernel_rfl) (by kernel_rfl) (by kernel_rfl) (fun _ _ _ h => h) (by rfl) (fun w' hS => ?hz41) ?rz41
  case hz41 => obtain ⟨q1, q2, q3, q4, q7, q8, q9, q10, q11, q12, q13, q16, q17, q18, q19, q20, q21, q22, q23, q24, q25, q26, q27⟩ := CF.out _ (HX.out.below hS); go_simp; rfl
  simp only [Act.put, List.setIfInBounds_toArray, List.set_cons_zero, List.set_cons_succ]
  refine Reg.take_op 44 (v := ?vz44) rfl (by kernel_rfl) (by kernel_rfl) (by kernel_rfl) (fun _ _ _ h => h) (by rfl) (fun w' hS => ?hz44) ?rz44
  case hz44 => go_simp; rfl
  simp only [Act.put, List.setIfInBounds_toArray, List.set_cons_zero, List.set_cons_succ]
  refine Reg.take_op 45 (v := ?vz45) rfl (by kernel_rfl) (by kernel_rfl) (by kernel_rfl) (fun _ _ _ h => h) (by rfl) (fun w' hS => ?hz45) ?rz45
  case hz45 => go_simp; rfl
  simp only [Act.put, List.setIfInBounds_toArray, List.set_cons_zero, List.set_cons_succ]
  refine Reg.take_op 46 (v := ?vz46) rfl (by kernel_rfl) (by kernel_rfl) (by kernel_rfl) (fun _ _ _ h => h) (by rfl) (fun w' hS => ?hz46) ?rz46
  case hz46 => obtain ⟨q1, q2, q3, q4, q7, q8, q9, q10, q11, q12, q13, q16, q17, q18, q19, q20, q21, q22, q23, q24, q25, q26, q27⟩ := CF.out _ (HX.out.below hS); go_simp; rfl
  simp only [Act.put, List.setIfInBounds_toArray, List.set_cons_zero, List.set_cons_succ]
  refine Reg.take_op 47 (v := .int .i64 n9) rfl (by kernel_rfl) (by kernel_rfl) (by kernel_rfl) (fun _ _ _ h => h) (by rfl) (fun w' hS => ?hz47) ?rz47
  case hz47 => rw [EB3.out]; go_simp
  simp only [Act.put, List.setIfInBounds_toArray, List.set_cons_zero, List.set_cons_succ]
  refine Reg.call_op 3 rfl (by kernel_rfl) (by rfl) 12 #[.agg #[.string ⟨m.aq.c.1.toArray⟩, .string ⟨m.aq.c.2.toArray⟩]] (by go_simp) ?_
  refine Calls.mono (N0.out _) ?_
  rintro e wn0 ⟨rfl, hb⟩
  refine ⟨_, rfl, hb, ?_⟩
  replace HX := Lib.hid (HX.out.below hb); replace HG := Lib.hid (HG.out.trans (hb.mono HG.out.size)); clear hb
  simp only [Act.put, List.setIfInBounds_toArray, List.set_cons_zero, List.set_cons_succ]
  refine Reg.call_op 7 rfl (by kernel_rfl) (by rfl) 12 #[.agg #[.string ⟨m.aq.s.1.toArray⟩, .string ⟨m.aq.s.2.toArray⟩]] (by go_simp) ?_
  refine Calls.mono (N1.out _) ?_
  rintro e wn1 ⟨rfl, hb⟩
  refine ⟨_, rfl, hb, ?_⟩
  replace HX := Lib.hid (HX.out.below hb); replace HG := Lib.hid (HG.out.trans (hb.mono HG.out.size)); clear hb
  simp only [Act.put, List.setIfInBounds_toArray, List.set_cons_zero, List.set_cons_succ]
  refine Reg.take_op 8 (v := .int .i64 (n0 + n1)) rfl (by kernel_rfl) (by kernel_rfl) (by kernel_rfl) (fun _ _ _ h => h) (by rfl) (fun w' hS => ?hz8) ?rz8
  case hz8 => go_simp; exact wi8 (by omega) (by omega)
  simp only [Act.put, List.setIfInBounds_toArray, List.set_cons_zero, List.set_cons_succ]
  refine Reg.call_op 12 rfl (by kernel_rfl) (by rfl) 13 #[.agg #[.string ⟨m.tg.t.s.1.toArray⟩, .string ⟨m.tg.t.s.2.toArray⟩, .int .i64 m.tg.t.k, .slice A1 m.tg.t.b.length c1]] (by go_simp) ?_
  refine Calls.mono (N2.out _) ?_
  rintro e wn2 ⟨rfl, hb⟩
  refine ⟨_, rfl, hb, ?_⟩
  replace HX := Lib.hid (HX.out.below hb); replace HG := Lib.hid (HG.out.trans (hb.mono HG.out.size)); clear hb
  simp only [Act.put, List.setIfInBounds_toArray, List.set_cons_zero, List.set_cons_succ]
  refine Reg.take_op 13 (v := .int .i64 (n0 + n1 + n2)) rfl (by kernel_rfl) (by kernel_rfl) (by kernel_rfl) (fun _ _ _ h => h) (by rfl) (fun w' hS => ?hz13) ?rz13
  case hz13 => go_simp; exact wi8 (by omega) (by omega)
  simp only [Act.put, List.setIfInBounds_toArray, List.set_cons_zero, List.set_cons_succ]
  refine Reg.take_op 18 (v := .int .i64 (n0 + n1 + n2 + n3)) rfl (by kernel_rfl) (by kernel_rfl) (by kernel_rfl) (fun _ _ _ h => h) (by rfl) (fun w' hS => ?hz18) ?rz18
  case hz18 => go_simp; exact wi8 (by omega) (by omega)
  simp only [Act.put, List.setIfInBounds_toArray, List.set_cons_zero, List.set_cons_succ]
  refine Reg.call_op 22 rfl (by kernel_rfl) (by rfl) 12 #[.agg #[.string ⟨m.tg.s.1.toArray⟩, .string ⟨m.tg.s.2.toArray⟩]] (by go_simp) ?_
  refine Calls.mono (N4.out _) ?_
  rintro e wn4 ⟨rfl, hb⟩
  refine ⟨_, rfl, hb, ?_⟩
  replace HX := Lib.hid (HX.out.below hb); replace HG := Lib.hid (HG.out.trans (hb.mono HG.out.size)); clear hb
  simp only [Act.put, List.setIfInBounds_toArray, List.set_cons_zero, List.set_cons_succ]
  refine Reg.take_op 23 (v := .int .i64 (n0 + n1 + n2 + n3 + n4)) rfl (by kernel_rfl) (by kernel_rfl) (by kernel_rfl) (fun _ _ _ h => h) (by rfl) (fun w' hS => ?hz23) ?rz23
  case hz23 => go_simp; exact wi8 (by omega) (by omega)
  simp only [Act.put, List.setIfInBounds_toArray, List.set_cons_zero, List.set_cons_succ]
  refine Reg.call_op 27 rfl (by kernel_rfl) (by rfl) 12 #[.agg #[.string ⟨m.re.c.1.toArray⟩, .string ⟨m.re.c.2.toArray⟩]] (by go_simp) ?_
  refine Calls.mono (N5.out _) ?_
  rintro e wn5 ⟨rfl, hb⟩
  refine ⟨_, rfl, hb, ?_⟩
  replace HX := Lib.hid (HX.out.below hb); replace HG := Lib.hid (HG.out.trans (hb.mono HG.out.size)); clear hb
  simp only [Act.put, List.setIfInBounds_toArray, List.set_cons_zero, List.set_cons_succ]
  refine Reg.take_op 28 (v := .int .i64 (n0 + n1 + n2 + n3 + n4 + n5)) rfl (by kernel_rfl) (by kernel_rfl) (by kernel_rfl) (fun _ _ _ h => h) (by rfl) (fun w' hS => ?hz28) ?rz28
  case hz28 => go_simp; exact wi8 (by omega) (by omega)
  simp only [Act.put, List.setIfInBounds_toArray, List.set_cons_zero, List.set_cons_succ]
  refine Reg.call_op 32 rfl (by kernel_rfl) (by rfl) 13 #[.agg #[.string ⟨m.re.t.s.1.toArray⟩, .string ⟨m.re.t.s.2.toArray⟩, .int .i64 m.re.t.k, .slice A3 m.re.t.b.length c3]] (by go_simp) ?_
  refine Calls.mono (N6.out _) ?_
  rintro e wn6 ⟨rfl, hb⟩
  refine ⟨_, rfl, hb, ?_⟩
  replace HX := Lib.hid (HX.out.below hb); replace HG := Lib.hid (HG.out.trans (hb.mono HG.out.size)); clear hb
  simp only [Act.put, List.setIfInBounds_toArray, List.set_cons_zero, List.set_cons_succ]
  refine Reg.take_op 33 (v := .int .i64 (n0 + n1 + n2 + n3 + n4 + n5 + n6)) rfl (by kernel_rfl) (by kernel_rfl) (by kernel_rfl) (fun _ _ _ h => h) (by rfl) (fun w' hS => ?hz33) ?rz33
  case hz33 => go_simp; exact wi8 (by omega) (by omega)
  simp only [Act.put, List.setIfInBounds_toArray, List.set_cons_zero, List.set_cons_succ]
  refine Reg.take_op 38 (v := .int .i64 (n0 + n1 + n2 + n3 + n4 + n5 + n6 + n7)) rfl (by kernel_rfl) (by kernel_rfl) (by kernel_rfl) (fun _ _ _ h => h) (by rfl) (fun w' hS => ?hz38) ?rz38
  case hz38 => go_simp; exact wi8 (by omega) (by omega)
  simp only [Act.put, List.setIfInBounds_toArray, List.set_cons_zero, List.set_cons_succ]
  refine Reg.call_op 42 rfl (by kernel_rfl) (by rfl) 13 #[.agg #[.string ⟨m.ap.t.s.1.toArray⟩, .string ⟨m.ap.t.s.2.toArray⟩, .int .i64 m.ap.t.k, .slice A5 m.ap.t.b.length c5]] (by go_simp) ?_
  refine Calls.mono (N8.out _) ?_
  rintro e wn8 ⟨rfl, hb⟩
  refine ⟨_, rfl, hb, ?_⟩
  replace HX := Lib.hid (HX.out.below hb); replace HG := Lib.hid (HG.out.trans (hb.mono HG.out.size)); clear hb
  simp only [Act.put, List.setIfInBounds_toArray, List.set_cons_zero, List.set_cons_succ]
  refine Reg.take_op 43 (v := .int .i64 (n0 + n1 + n2 + n3 + n4 + n5 + n6 + n7 + n8)) rfl (by kernel_rfl) (by kernel_rfl) (by kernel_rfl) (fun _ _ _ h => h) (by rfl) (fun w' hS => ?hz43) ?rz43
  case hz43 => go_simp; exact wi8 (by omega) (by omega)
  simp only [Act.put, List.setIfInBounds_toArray, List.set_cons_zero, List.set_cons_succ]
  refine Reg.take_op 48 (v := .int .i64 (n0 + n1 + n2 + n3 + n4 + n5 + n6 + n7 + n8 + n9)) rfl (by kernel_rfl) (by kernel_rfl) (by kernel_rfl) (fun _ _ _ h => h) (by rfl) (fun w' hS => ?hz48) ?rz48
  case hz48 => go_simp; exact wi8 (by omega) (by omega)
  simp only [Act.put, List.setIfInBounds_toArray, List.set_cons_zero, List.set_cons_succ]
  refine Reg.take_op 49 (v := ?vz49) rfl (by kernel_rfl) (by kernel_rfl) (by kernel_rfl) (fun _ _ _ h => h) (by rfl) (fun w' hS => ?hz49) ?rz49
  case hz49 => go_simp; rfl
  simp only [Act.put, List.setIfInBounds_toArray, List.set_cons_zero, List.set_cons_succ]
  refine wpAnyH_done (by kernel_rfl) ?_ _
  go_wp2
  go_ret
  exact ⟨rfl, HG.out⟩
theorem size_any (cs : Array Value) (m : Mg) (w w1 : World) (B : Nat) (h : MgV w1 B cs m) (hz : SzM m) : Calls Try.prog 6 #[.agg cs] w fun e w' => e = .returned (.int .i64 (sizeI m)) ∧ Below w.heap.size w w' := by
  obtain ⟨pa, pt, pr, pp, pf, rfl, ha, ⟨b1, a1, rfl, ⟨A1, c1, rfl, _, r1⟩, ⟨A2, c2, rfl, _, r2⟩⟩, ⟨b3, a3, rfl, ⟨A3, c3, rfl, _, r3⟩, ⟨A4, c4, rfl, _, r4⟩⟩, ⟨b5, a5, rfl, ⟨A5, c5, rfl, _, r5⟩, ⟨A6, c6, rfl, _, r6⟩⟩, hf⟩ := h
  obtain rfl := ha; obtain rfl := hf
  exact size_lit m A1 A2 A3 A4 A5 A6 c1 c2 c3 c4 c5 c6 w hz
end Go.Proofs.Yteeabfplnaknfaa.Mc
end

section
set_option linter.unusedVariables false
set_option linter.unusedSimpArgs false
namespace Go.Proofs.Yteeabfplnaknfaa.Mc
open Go.RowKit Go.Proofs.Yteeabfplnaknfaa.Mem Go.Proofs.Yteeabfplnaknfaa.DerP Go.Proofs.Yteeabfplnaknfaa.Ms

theorem sz_smO {m : Mg} (h0 : sizeI m ≤ 5000) : mSm m := by
  have h : ((((((((((m.aq.c.1.length : Int) + (m.aq.c.2.length : Int)) + ((m.aq.s.1.length : Int) + (m.aq.s.2.length : Int))) + ((m.tg.t.s.1.length : Int) + (m.tg.t.s.2.length : Int) + (m.tg.t.b.length : Int))) + (m.tg.a.length : Int)) + ((m.tg.s.1.length : Int) + (m.tg.s.2.length : Int))) + ((m.re.c.1.length : Int) + (m.re.c.2.length : Int))) + ((m.re.t.s.1.length : Int) + (m.re.t.s.2.length : Int) + (m.re.t.b.length : Int))) + (m.re.b.length : Int)) + ((m.ap.t.s.1.length : Int) + (m.ap.t.s.2.length : Int) + (m.ap.t.b.length : Int))) + (m.ap.a.length : Int) ≤ 5000 := h0
  exact ⟨⟨⟨by omega, by omega⟩, ⟨by omega, by omega⟩⟩, ⟨⟨by omega, by omega⟩, ⟨by omega, by omega⟩⟩, ⟨⟨by omega, by omega⟩, ⟨by omega, by omega⟩⟩, ⟨by omega, by omega⟩⟩
theorem mgv_sizeO {w : World} {B : Nat} {cs : Array Value} {m : Mg} (h : MgV w B cs m) : cs.size = 30 := by obtain ⟨pa, pt, pr, pp, pf, h1, h2⟩ := h; rw [h1]; exact h2.size _
theorem mgv_oneO {w : World} {B : Nat} {cs : Array Value} {m : Mg} (h : MgV w B cs m) : cs.all (·.oneCell') = true := by obtain ⟨pa, pt, pr, pp, pf, h1, h2⟩ := h; rw [h1]; exact h2.one _
theorem mgv_kO {w : World} {B : Nat} {cs : Array Value} {m : Mg} (h : MgV w B cs m) : cs[0]? = some (.int .i64 m.k) := by obtain ⟨pa, pt, pr, pp, pf, h1, h2⟩ := h; rw [h1]; simp [mgA]
set_option maxRecDepth 10000 in
theorem ris8_v (cs : Array Value) (m : Mg) (w : World) (h : MgV w w.heap.size cs m) (hs : mSm m) : Calls Try.prog 7 #[.agg cs] w fun e w' => e = .returned (.bool (mgB m)) ∧ Below w.heap.size w w' := by
  obtain ⟨pa, pt, pr, pp, pf, rfl, ha, ⟨b1, a1, rfl, ⟨A1, c1, rfl, _, r1⟩, ⟨A2, c2, rfl, _, r2⟩⟩, ⟨b3, a3, rfl, ⟨A3, c3, rfl, _, r3⟩, ⟨A4, c4, rfl, _, r4⟩⟩, ⟨b5, a5, rfl, ⟨A5, c5, rfl, _, r5⟩, ⟨A6, c6, rfl, _, r6⟩⟩, hf⟩ := h
  obtain rfl := ha; obtain rfl := hf
  exact ris8_any m A1 A2 A3 A4 A5 A6 c1 c2 c3 c4 c5 c6 w hs
set_option maxRecDepth 10000 in
theorem mgv_set6 {w : World} {B : Nat} {cs : Array Value} {m : Mg} (h : MgV w B cs m) (n : Int) : MgV w B (cs.setIfInBounds 6 (.int .i64 n)) ⟨m.k, ⟨m.aq.c, m.aq.s, m.aq.t, n⟩, m.tg, m.re, m.ap, m.fa⟩ := by
  obtain ⟨pa, pt, pr, pp, pf, rfl, ha, ht, hr, hp, hf⟩ := h
  obtain rfl := ha
  refine ⟨(asC ⟨m.aq.c, m.aq.s, m.aq.t, n⟩).toArray, pt, pr, pp, pf, ?_, ⟨rfl, ht, hr, hp, hf⟩⟩
  apply Array.toList_inj.1
  rw [Array.toList_setIfInBounds]
  rfl
set_option maxRecDepth 10000 in
theorem mgv_set29 {w : World} {B : Nat} {cs : Array Value} {m : Mg} (h : MgV w B cs m) (n : Int) : MgV w B (cs.setIfInBounds 29 (.int .i64 n)) ⟨m.k, m.aq, m.tg, m.re, m.ap, ⟨m.fa.e, n⟩⟩ := by
  obtain ⟨pa, pt, pr, pp, pf, rfl, ha, ⟨b1, a1, rfl, s1, s2⟩, ⟨b3, a3, rfl, s3, s4⟩, ⟨b5, a5, rfl, s5, s6⟩, hf⟩ := h
  obtain rfl := ha; obtain rfl := hf
  refine ⟨_, _, _, _, (faC ⟨m.fa.e, n⟩).toArray, ?_, ⟨rfl, ⟨b1, a1, rfl, s1, s2⟩, ⟨b3, a3, rfl, s3, s4⟩, ⟨b5, a5, rfl, s5, s6⟩, rfl⟩⟩
  apply Array.toList_inj.1
  rw [Array.toList_setIfInBounds]
  rfl
theorem not_29 {m : Mg} {n : Int} (hk : m.k ≠ 5) (hn : 1 ≤ n) : mgO ⟨m.k, m.aq, m.tg, m.re, m.ap, ⟨m.fa.e, n⟩⟩ = none := by
  cases h : mgO ⟨m.k, m.aq, m.tg, m.re, m.ap, ⟨m.fa.e, n⟩⟩ with
  | none => rfl
  | some b =>
    exfalso
    rcases mg_cases (lim_iff.1 h).1 with ⟨_, e⟩ | ⟨_, e⟩ | ⟨_, e⟩ | ⟨_, e⟩ | ⟨_, e⟩
    · have h2 : (⟨m.fa.e, n⟩ : Fa) = fa0 := congrArg Mg.fa e
      have h3 : n = 0 := congrArg Fa.no h2
      omega
    · have h2 : (⟨m.fa.e, n⟩ : Fa) = fa0 := congrArg Mg.fa e
      have h3 : n = 0 := congrArg Fa.no h2
      omega
    · have h2 : (⟨m.fa.e, n⟩ : Fa) = fa0 := congrArg Mg.fa e
      have h3 : n = 0 := congrArg Fa.no h2
      omega
    · have h2 : (⟨m.fa.e, n⟩ : Fa) = fa0 := congrArg Mg.fa e
      have h3 : n = 0 := congrArg Fa.no h2
      omega
    · exact hk (congrArg Mg.k e)
theorem not_6 {m : Mg} {n : Int} (hk : m.k = 5) (hn : 1 ≤ n) : mgO ⟨m.k, ⟨m.aq.c, m.aq.s, m.aq.t, n⟩, m.tg, m.re, m.ap, m.fa⟩ = none := by
  cases h : mgO ⟨m.k, ⟨m.aq.c, m.aq.s, m.aq.t, n⟩, m.tg, m.re, m.ap, m.fa⟩ with
  | none => rfl
  | some b =>
    exfalso
    rcases mg_cases (lim_iff.1 h).1 with ⟨_, e⟩ | ⟨_, e⟩ | ⟨_, e⟩ | ⟨_, e⟩ | ⟨_, e⟩
    · have h2 : m.k = 1 := congrArg Mg.k e
      omega
    · have h2 : (⟨m.aq.c, m.aq.s, m.aq.t, n⟩ : As) = as0 := congrArg Mg.aq e
      have h3 : n = 0 := congrArg As.no h2
      omega
    · have h2 : (⟨m.aq.c, m.aq.s, m.aq.t, n⟩ : As) = as0 := congrArg Mg.aq e
      have h3 : n = 0 := congrArg As.no h2
      omega
    · have h2 : (⟨m.aq.c, m.aq.s, m.aq.t, n⟩ : As) = as0 := congrArg Mg.aq e
      have h3 : n = 0 := congrArg As.no h2
      omega
    · have h2 : (⟨m.aq.c, m.aq.s, m.aq.t, n⟩ : As) = as0 := congrArg Mg.aq e
      have h3 : n = 0 := congrArg As.no h2
      omega
set_option maxHeartbeats 12800000 in
set_option maxRecDepth 10000 in
theorem others_ (m : Mg) (cs0 : Array Value) (n : Int) (w : World) (hm : MgV w w.heap.size cs0 m) (z1 : SzM m) :
    Calls Try.prog 3 #[.agg cs0, .int .i64 n] w fun e w' => e = .returned (.bool true) ∧ Below w.heap.size w w' := by
  obtain ⟨cs, ecs⟩ : ∃ c, c = cs0 := ⟨_, rfl⟩
  rw [← ecs] at hm ⊢; clear ecs cs0
  have CI := Lib.hid (show (Try.prog.info? 39).map (·.size) = some cs.size by rw [mgv_sizeO hm]; exact mg_info)
  have CS := Lib.hid (mgv_sizeO hm); have CO := Lib.hid (mgv_oneO hm); have CK := Lib.hid (mgv_kO hm)
  have S1 := Lib.hid (fun w1 => size_any cs m w1 w _ hm z1)
  have IS := Lib.hid (fun w1 h hs => ris8_v cs m w1 h hs)
  have HG := Lib.hid ((Below.refl w.heap.size w).alloc (Nat.le_refl _) (.cells cs 39))
  have HX := Lib.hid (Blk.new w 39 cs)
  have HMV := Lib.hid (fun w1 (h : Below w.heap.size w w1) => (hm.keep h).more h.size)
  have H6 := Lib.hid (fun w1 (h : Below w.heap.size w w1) => ((mgv_set6 hm n).keep h).more h.size)
  have H29 := Lib.hid (fun w1 (h : Below w.heap.size w w1) => ((mgv_set29 hm n).keep h).more h.size)
  have I6 := Lib.hid (show (Try.prog.info? 39).map (·.size) = some (cs.setIfInBounds 6 (.int .i64 n)).size by rw [mgv_sizeO (mgv_set6 hm n)]; exact mg_info)
  have I29 := Lib.hid (show (Try.prog.info? 39).map (·.size) = some (cs.setIfInBounds 29 (.int .i64 n)).size by rw [mgv_sizeO (mgv_set29 hm n)]; exact mg_info)
  have C6 : ∃ u, cs[6]? = some u := ⟨cs[6]'(by rw [CS.out]; decide), Array.getElem?_eq_getElem _⟩
  have C29 : ∃ u, cs[29]? = some u := ⟨cs[29]'(by rw [CS.out]; decide), Array.getElem?_eq_getElem _⟩
  obtain ⟨u6, c6⟩ := C6; obtain ⟨u29, c29⟩ := C29
  have K6 := Lib.hid c6; have K29 := Lib.hid c29; clear c6 c29
  have HSM := Lib.hid (fun h => sz_smO (m := m) h)
  obtain ⟨s1, es1⟩ : ∃ s : Int, s = sizeI m := ⟨_, rfl⟩
  rw [← es1] at S1 HSM; clear es1 hm z1
  by_cases q1 : 5000 < s1
  · have t1 : decide ((5000 : Int) < s1) = true := decide_eq_true q1
    clear q1 HSM IS
    go_enter Try.func3, Try.ntmps3
    go_upto_region 1 with fail
    generalize (w.alloc (.cells cs 39)) = W at HX HG ⊢
    go_wp2_with (first
      | (refine load_g (by rfl) 39 (.tmp 2) (by rfl) (w.heap.size) 0 (by rfl) cs _ (range_blk HX.out) Try.underlying39 (by rfl) CI.out ?_)
      | (go_at_call 6; refine Calls.mono (S1.out _) ?_; rintro e ws1 ⟨rfl, hb⟩; clear S1; replace HX := Lib.hid (HX.out.below hb); replace HG := Lib.hid (HG.out.trans (hb.mono HG.out.size)); clear hb)
      | fail)
    go_ret
    exact ⟨rfl, HG.out⟩
  have t1 : decide ((5000 : Int) < s1) = false := decide_eq_false q1
  have HM := Lib.hid (HSM.out (by omega)); clear q1 HSM
  by_cases q2 : n < 1
  · have t2 : decide (n < 1) = true := decide_eq_true q2
    clear q2 IS
    go_enter Try.func3, Try.ntmps3
    go_upto_region 1 with fail
    generalize (w.alloc (.cells cs 39)) = W at HX HG ⊢
    go_wp2_with (first
      | (refine load_g (by rfl) 39 (.tmp 2) (by rfl) (w.heap.size) 0 (by rfl) cs _ (range_blk HX.out) Try.underlying39 (by rfl) CI.out ?_)
      | (go_at_call 6; refine Calls.mono (S1.out _) ?_; rintro e ws1 ⟨rfl, hb⟩; clear S1; replace HX := Lib.hid (HX.out.below hb); replace HG := Lib.hid (HG.out.trans (hb.mono HG.out.size)); clear hb)
      | fail)
    go_ret
    exact ⟨rfl, HG.out⟩
  have t2 : decide (n < 1) = false := decide_eq_false q2
  by_cases q3 : 1000 < n
  · have t3 : decide (1000 < n) = true := decide_eq_true q3
    clear q3 IS
    go_enter Try.func3, Try.ntmps3
    go_upto_region 1 with fail
    generalize (w.alloc (.cells cs 39)) = W at HX HG ⊢
    go_wp2_with (first
      | (refine load_g (by rfl) 39 (.tmp 2) (by rfl) (w.heap.size) 0 (by rfl) cs _ (range_blk HX.out) Try.underlying39 (by rfl) CI.out ?_)
      | (go_at_call 6; refine Calls.mono (S1.out _) ?_; rintro e ws1 ⟨rfl, hb⟩; clear S1; replace HX := Lib.hid (HX.out.below hb); replace HG := Lib.hid (HG.out.trans (hb.mono HG.out.size)); clear hb)
      | fail)
    go_ret
    exact ⟨rfl, HG.out⟩
  have t3 : decide (1000 < n) = false := decide_eq_false q3
  cases qb : mgB m with
  | false =>
    rw [qb] at IS; clear qb q2 q3
    go_enter Try.func3, Try.ntmps3
    go_upto_region 1 with fail
    generalize (w.alloc (.cells cs 39)) = W at HX HG ⊢
    go_wp2_with (first
      | (refine load_g (by rfl) 39 (.tmp 2) (by rfl) (w.heap.size) 0 (by rfl) cs _ (range_blk HX.out) Try.underlying39 (by rfl) CI.out ?_)
      | (go_at_call 6; refine Calls.mono (S1.out _) ?_; rintro e ws1 ⟨rfl, hb⟩; clear S1; replace HX := Lib.hid (HX.out.below hb); replace HG := Lib.hid (HG.out.trans (hb.mono HG.out.size)); clear hb)
      | (go_at_call 7; refine Calls.mono (IS.out _ (HMV.out _ HG.out) HM.out) ?_; rintro e wi ⟨rfl, hb⟩; clear IS; replace HX := Lib.hid (HX.out.below hb); replace HG := Lib.hid (HG.out.trans (hb.mono HG.out.size)); clear hb)
      | fail)
    go_ret
    exact ⟨rfl, HG.out⟩
  | true =>
    rw [qb] at IS; clear qb q3
    by_cases q5 : m.k = 5
    · have t5 : (m.k == 5) = true := by simpa using q5
      have EE := Lib.hid (fun w1 h => enc_any (cs.setIfInBounds 6 (.int .i64 n)) ⟨m.k, ⟨m.aq.c, m.aq.s, m.aq.t, n⟩, m.tg, m.re, m.ap, m.fa⟩ w1 h HM.out)
      rw [show mgO ⟨m.k, ⟨m.aq.c, m.aq.s, m.aq.t, n⟩, m.tg, m.re, m.ap, m.fa⟩ = none from not_6 q5 (by omega)] at EE
      obtain ⟨xs, exs⟩ : ∃ c, c = cs.setIfInBounds 6 (.int .i64 n) := ⟨_, rfl⟩
      rw [← exs] at EE H6 I6
      have XE := Lib.hid exs; clear exs q2
      go_enter Try.func3, Try.ntmps3
      go_upto_region 1 with fail
      generalize (w.alloc (.cells cs 39)) = W at HX HG ⊢
      go_wp2_with (first
        | (refine load_g (by rfl) 39 (.tmp 2) (by rfl) (w.heap.size) 0 (by rfl) cs _ (range_blk HX.out) Try.underlying39 (by rfl) CI.out ?_)
        | (go_at_call 6; refine Calls.mono (S1.out _) ?_; rintro e ws1 ⟨rfl, hb⟩; clear S1; replace HX := Lib.hid (HX.out.below hb); replace HG := Lib.hid (HG.out.trans (hb.mono HG.out.size)); clear hb)
        | (go_at_call 7; refine Calls.mono (IS.out _ (HMV.out _ HG.out) HM.out) ?_; rintro e wi ⟨rfl, hb⟩; clear IS; replace HX := Lib.hid (HX.out.below hb); replace HG := Lib.hid (HG.out.trans (hb.mono HG.out.size)); clear hb)
        | (refine store_new (by rfl) 39 (.tmp 5) (.tmp 24) (by rfl) 39 rfl cs (by rfl) (by rfl) (by rw [CS.out]; rfl) CI.out CO.out ?_; rintro V hV hb; have HWI := HG.out.size; replace HX := Lib.hid (HX.out.below hb); replace HG := Lib.hid (HG.out.trans (hb.mono HG.out.size)); clear hb; have k0 := (HX.out.cell 0).trans CK.out; have kc := (hV.cell 6).trans K6.out; have kf := hV.frozen 6; have HB := Lib.hid (show Blk (V.setCell ⟨wi.heap.size, 6, none⟩ (.int .i64 n)) wi.heap.size 39 xs by rw [XE.out]; exact hV.set 6 _); replace HG := Lib.hid (below_put (j := 6) (u := .int .i64 n) HG.out HWI); clear hV)
        | (refine load_g (by rfl) 39 (.tmp 5) (by rfl) (wi.heap.size) 0 (by rfl) xs _ (range_blk HB.out) Try.underlying39 (by rfl) I6.out ?_)
        | (go_at_call 8; refine Calls.mono (EE.out _ (H6.out _ HG.out)) ?_; rintro e we ⟨⟨v, i, rfl, hn, hsm⟩, hb⟩; obtain ⟨rfl, rfl⟩ := hn rfl; clear EE hn hsm k0 kc kf HB; replace HG := Lib.hid (HG.out.trans (hb.mono HG.out.size)); clear hb)
        | (go_at_call 9; refine Calls.mono (known_any _) ?_; rintro e wx ⟨rfl, hb⟩; replace HG := Lib.hid (HG.out.trans (hb.mono HG.out.size)); clear hb)
        | fail)
      go_ret
      exact ⟨rfl, HG.out⟩
    · have t5 : (m.k == 5) = false := by simpa using q5
      have EE := Lib.hid (fun w1 h => enc_any (cs.setIfInBounds 29 (.int .i64 n)) ⟨m.k, m.aq, m.tg, m.re, m.ap, ⟨m.fa.e, n⟩⟩ w1 h HM.out)
      rw [show mgO ⟨m.k, m.aq, m.tg, m.re, m.ap, ⟨m.fa.e, n⟩⟩ = none from not_29 q5 (by omega)] at EE
      obtain ⟨xs, exs⟩ : ∃ c, c = cs.setIfInBounds 29 (.int .i64 n) := ⟨_, rfl⟩
      rw [← exs] at EE H29 I29
      have XE := Lib.hid exs; clear exs q2
      go_enter Try.func3, Try.ntmps3
      go_upto_region 1 with fail
      generalize (w.alloc (.cells cs 39)) = W at HX HG ⊢
      go_wp2_with (first
        | (refine load_g (by rfl) 39 (.tmp 2) (by rfl) (w.heap.size) 0 (by rfl) cs _ (range_blk HX.out) Try.underlying39 (by rfl) CI.out ?_)
        | (go_at_call 6; refine Calls.mono (S1.out _) ?_; rintro e ws1 ⟨rfl, hb⟩; clear S1; replace HX := Lib.hid (HX.out.below hb); replace HG := Lib.hid (HG.out.trans (hb.mono HG.out.size)); clear hb)
        | (go_at_call 7; refine Calls.mono (IS.out _ (HMV.out _ HG.out) HM.out) ?_; rintro e wi ⟨rfl, hb⟩; clear IS; replace HX := Lib.hid (HX.out.below hb); replace HG := Lib.hid (HG.out.trans (hb.mono HG.out.size)); clear hb)
        | (refine store_new (by rfl) 39 (.tmp 5) (.tmp 24) (by rfl) 39 rfl cs (by rfl) (by rfl) (by rw [CS.out]; rfl) CI.out CO.out ?_; rintro V hV hb; have HWI := HG.out.size; replace HX := Lib.hid (HX.out.below hb); replace HG := Lib.hid (HG.out.trans (hb.mono HG.out.size)); clear hb; have k0 := (HX.out.cell 0).trans CK.out; have kc := (hV.cell 29).trans K29.out; have kf := hV.frozen 29; have HB := Lib.hid (show Blk (V.setCell ⟨wi.heap.size, 29, none⟩ (.int .i64 n)) wi.heap.size 39 xs by rw [XE.out]; exact hV.set 29 _); replace HG := Lib.hid (below_put (j := 29) (u := .int .i64 n) HG.out HWI); clear hV)
        | (refine load_g (by rfl) 39 (.tmp 5) (by rfl) (wi.heap.size) 0 (by rfl) xs _ (range_blk HB.out) Try.underlying39 (by rfl) I29.out ?_)
        | (go_at_call 8; refine Calls.mono (EE.out _ (H29.out _ HG.out)) ?_; rintro e we ⟨⟨v, i, rfl, hn, hsm⟩, hb⟩; obtain ⟨rfl, rfl⟩ := hn rfl; clear EE hn hsm k0 kc kf HB; replace HG := Lib.hid (HG.out.trans (hb.mono HG.out.size)); clear hb)
        | (go_at_call 9; refine Calls.mono (known_any _) ?_; rintro e wx ⟨rfl, hb⟩; replace HG := Lib.hid (HG.out.trans (hb.mono HG.out.size)); clear hb)
        | fail)
      go_ret
      exact ⟨rfl, HG.out⟩
end Go.Proofs.Yteeabfplnaknfaa.Mc
end
