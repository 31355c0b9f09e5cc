import Derived.Deep.LoopGhost
import Derived.Deep.MidRow
import Derived.Lib.MinMax
import Derived.DeepKeys
import Derived.Laws.StructEq
import Derived.ProofKit
import Derived.OpenShut
import Derived.ShutString
import Derived.ChangeOld
import Derived.Deep.Matrix
import Derived.Deep.Slices
import Derived.Test.YteeabfplnaknfaaZMsgOthers1
import Derived.Test.YteeabfplnaknfaaZMsgOthers2
import Derived.Test.YteeabfplnaknfaaZMsgOthers3
import Derived.Test.YteeabfplnaknfaaZMsgOthers4
import Derived.Test.YteeabfplnaknfaaZMsgOthers5
import Derived.Test.YteeabfplnaknfaaZMsgOthers7
import Derived.Test.YteeabfplnaknfaaZMsgOthers8
import Derived.Test.YteeabfplnaknfaaZMsgOthers9
import Derived.Test.YteeabfplnaknfaaZMsgOthers10
import Derived.Test.YteeabfplnaknfaaZMsgOthers11
section
set_option linter.unusedVariables false
set_option linter.unusedSimpArgs false
namespace Go.Proofs.Yteeabfplnaknfaa.Mc
open Go.RowKit Go.Proofs.Yteeabfplnaknfaa.Mem Go.Proofs.Yteeabfplnaknfaa.DerP Go.Proofs.Yteeabfplnaknfaa.DerC Go.Proofs.Yteeabfplnaknfaa.DerR Go.Proofs.Yteeabfplnaknfaa.Ms

theorem isas_v {pa : Array Value} {x : As} (w : World) (h : AsV pa x) (s : pSm x.c ∧ pSm x.s) : Calls Try.prog 32 #[.agg pa] w fun e w' => e = .returned (.bool (asB x)) ∧ Below w.heap.size w w' := by rw [h]; exact isas_any x w s.1 s.2
theorem istg_v {pa : Array Value} {x : Tg} {w0 : World} {B : Nat} (w : World) (h : TgV w0 B pa x) (s : pSm x.t.s ∧ pSm x.s) : Calls Try.prog 33 #[.agg pa] w fun e w' => e = .returned (.bool (tgB x)) ∧ Below w.heap.size w w' := by
  obtain ⟨b, a, rfl, ⟨A1, c1, rfl, _, h1⟩, ⟨A2, c2, rfl, _, h2⟩⟩ := h
  exact istgs_any x A1 A2 c1 c2 w s.1 s.2
theorem isre_v {pa : Array Value} {x : Re} {w0 : World} {B : Nat} (w : World) (h : ReV w0 B pa x) (s : pSm x.c ∧ pSm x.t.s) : Calls Try.prog 34 #[.agg pa] w fun e w' => e = .returned (.bool (reB x)) ∧ Below w.heap.size w w' := by
  obtain ⟨b, a, rfl, ⟨A1, c1, rfl, _, h1⟩, ⟨A2, c2, rfl, _, h2⟩⟩ := h
  exact isre_any x A1 A2 c1 c2 w s.2 s.1
theorem isap_v {pa : Array Value} {x : Ap} {w0 : World} {B : Nat} (w : World) (h : ApV w0 B pa x) (s : pSm x.t.s) : Calls Try.prog 35 #[.agg pa] w fun e w' => e = .returned (.bool (apB x)) ∧ Below w.heap.size w w' := by
  obtain ⟨b, a, rfl, ⟨A1, c1, rfl, _, h1⟩, ⟨A2, c2, rfl, _, h2⟩⟩ := h
  exact isap_any x A1 A2 c1 c2 w s
theorem isfa_v {pa : Array Value} {x : Fa} (w : World) (h : FaV pa x) : Calls Try.prog 36 #[.agg pa] w fun e w' => e = .returned (.bool (faB x)) ∧ Below w.heap.size w w' := by rw [h]; exact isfa_any x w
theorem layas_v {pa : Array Value} {x : As} (w : World) (h : AsV pa x) (s : asB x = true) : Calls Try.prog 37 #[.agg pa] w (Gives w (asE x)) := by rw [h]; exact layas_any x w s
theorem laytg_v {pa : Array Value} {x : Tg} (w : World) (h : TgV w w.heap.size pa x) (s : tgB x = true) : Calls Try.prog 38 #[.agg pa] w (Gives w (tgE x)) := by
  obtain ⟨b, a, rfl, ⟨A1, c1, rfl, _, h1⟩, ⟨A2, c2, rfl, _, h2⟩⟩ := h
  exact laytg_any x A1 A2 c1 c2 w s h1 h2
theorem layre_v {pa : Array Value} {x : Re} (w : World) (h : ReV w w.heap.size pa x) (s : reB x = true) : Calls Try.prog 39 #[.agg pa] w (Gives w (reE x)) := by
  obtain ⟨b, a, rfl, ⟨A1, c1, rfl, _, h1⟩, ⟨A2, c2, rfl, _, h2⟩⟩ := h
  exact layre_any x A1 A2 c1 c2 w s h1 h2
theorem layap_v {pa : Array Value} {x : Ap} (w : World) (h : ApV w w.heap.size pa x) (s : apB x = true) : Calls Try.prog 40 #[.agg pa] w (Gives w (apE x)) := by
  obtain ⟨b, a, rfl, ⟨A1, c1, rfl, _, h1⟩, ⟨A2, c2, rfl, _, h2⟩⟩ := h
  exact layap_any x A1 A2 c1 c2 w s h1 h2
theorem layfa_v {pa : Array Value} {x : Fa} (w : World) (h : FaV pa x) : Calls Try.prog 41 #[.agg pa] w (Gives w (faE x)) := by rw [h]; exact layfa_any x w

def kdB (m : Mg) : Bool := if m.k = 1 then asB m.aq else if m.k = 2 then tgB m.tg else if m.k = 3 then reB m.re else if m.k = 4 then apB m.ap else if m.k = 5 then faB m.fa else false
theorem mgB_nm (m : Mg) : mgB m = (decide (m = nm m) && kdB m) := by
  unfold mgB kdB nm
  by_cases h1 : m.k = 1
  · simp only [if_pos h1]; rw [Bool.and_comm]
  · simp only [if_neg h1]
    by_cases h2 : m.k = 2
    · simp only [if_pos h2]; rw [Bool.and_comm]
    · simp only [if_neg h2]
      by_cases h3 : m.k = 3
      · simp only [if_pos h3]; rw [Bool.and_comm]
      · simp only [if_neg h3]
        by_cases h4 : m.k = 4
        · simp only [if_pos h4]; rw [Bool.and_comm]
        · simp only [if_neg h4]
          by_cases h5 : m.k = 5
          · simp only [if_pos h5]; rw [Bool.and_comm]
          · simp only [if_neg h5]; rw [Bool.and_false]
section
variable {P : Program} {w : World} {o : Oper} {a : Act}
theorem exec_load {w' : World} {g : Nat} {t ty : TypeId} {cs : Array Value} {d : TypeDesc} (x : Operand) (ho : o.op = .load ty x) (hx : a.eval x = .pointer (some ⟨g, 0, none⟩)) (h : Blk w' g t cs) (hu : P.underlying ty = some d) (hd : d.isRow = true) (hi : (P.info? ty).map (·.size) = some cs.size) :
    (execOp a.eval o).run P w' = .ok (.value (.agg cs)) w' := by
  unfold execOp
  simp only [ho, hx, Instr.loadAt, Instr.sureAddr, Sem.run_bind, Sem.run_pure, Result.andThen_ok, load_blk h hu hd hi]
end
set_option maxHeartbeats 6400000 in
theorem ismsg_any (cs : Array Value) (m : Mg) (w : World) (h : MgV w w.heap.size cs m) (hs : mSm m) : Calls Try.prog 21 #[.agg cs] w fun e w' => e = .returned (.bool (mgB m)) ∧ Below w.heap.size w w' := by
  have hV := h
  obtain ⟨pa, pt, pr, pp, pf, hc, hp⟩ := h
  have hcs : cs.size = 30 := by rw [hc]; exact hp.size m.k
  have HI := Lib.hid (show (Try.prog.info? 39).map (·.size) = some cs.size by rw [hcs]; exact mg_info)
  obtain ⟨W, eW⟩ : ∃ W, W = w.alloc (.cells cs 39) := ⟨_, rfl⟩
  have HK := Lib.hid (show Blk W w.heap.size 39 cs by rw [eW]; exact Blk.new _ _ _)
  have HB := Lib.hid (show Below w.heap.size w W by rw [eW]; exact (Below.refl _ _).alloc (Nat.le_refl _) _)
  have EC := Lib.hid hc
  have HP := Lib.hid hp
  have TN := Lib.hid (fun w1 (h : Below w.heap.size w w1) => named_any cs m w1 ((hV.keep h).more h.size))
  have TE := Lib.hid (fun w1 ds (h : Below w.heap.size w w1) (g : MgV w1 w1.heap.size ds (nm m)) => equal_any cs ds m (nm m) w1 ((hV.keep h).more h.size) g)
  have T1 := Lib.hid (fun w1 => isas_v w1 hp.a hs.1)
  have T2 := Lib.hid (fun w1 => istg_v w1 hp.t hs.2.1)
  have T3 := Lib.hid (fun w1 => isre_v w1 hp.r hs.2.2.1)
  have T4 := Lib.hid (fun w1 => isap_v w1 hp.p hs.2.2.2)
  have T5 := Lib.hid (fun w1 => isfa_v w1 hp.f)
  have MB := Lib.hid (mgB_nm m)
  clear hc hp hV hcs hs
  cases en : decide (m = nm m) with
  | false =>
    rw [en] at TE
    have E := Lib.hid (show mgB m = false by rw [MB.out, en]; rfl)
    clear en
    go_enter Try.func21, Try.ntmps21
    go_upto_region 1 with fail
    rw [← eW]
    clear eW
    replace HK := Lib.hid (show Blk W.drew _ _ _ from HK.out.drewN 1)
    replace HB := Lib.hid (show Below _ _ W.drew from below_drewN HB.out 1)
    refine Reg.region_begin 5 rfl (by kernel_rfl) ?_
    refine Reg.take_op 0 (v := .agg cs) rfl (by kernel_rfl) (by kernel_rfl) (by kernel_rfl) (fun _ _ _ h => h) (by rfl) (fun w' hS => exec_load (.tmp 1) rfl rfl (HK.out.below hS) Try.underlying39 rfl HI.out) ?_
    simp only [Act.put, List.setIfInBounds_toArray, List.set_cons_zero, List.set_cons_succ]
    refine Reg.take_op 1 (v := .agg cs) rfl (by kernel_rfl) (by kernel_rfl) (by kernel_rfl) (fun _ _ _ h => h) (by rfl) (fun w' hS => exec_load (.tmp 1) rfl rfl (HK.out.below hS) Try.underlying39 rfl HI.out) ?_
    simp only [Act.put, List.setIfInBounds_toArray, List.set_cons_zero, List.set_cons_succ]
    refine Reg.call_op 2 rfl (by kernel_rfl) (by rfl) 31 #[.agg cs] (by go_simp) ?_
    refine Calls.mono (TN.out _ HB.out) ?_
    rintro e w1 ⟨ds, rfl, hds, hb⟩
    refine ⟨_, rfl, hb, ?_⟩
    replace HK := Lib.hid (HK.out.below hb); replace HB := Lib.hid (HB.out.trans (hb.mono HB.out.size)); have HD := Lib.hid hds; clear hb hds TN
    simp only [Act.put, List.setIfInBounds_toArray, List.set_cons_zero, List.set_cons_succ]
    refine Reg.call_op 3 rfl (by kernel_rfl) (by rfl) 30 #[.agg cs, .agg ds] (by go_simp) ?_
    refine Calls.mono (TE.out _ ds HB.out HD.out) ?_
    rintro e w2 ⟨rfl, hb⟩
    refine ⟨_, rfl, hb, ?_⟩
    replace HK := Lib.hid (HK.out.below hb); replace HB := Lib.hid (HB.out.trans (hb.mono HB.out.size)); clear hb TE HD
    simp only [Act.put, List.setIfInBounds_toArray, List.set_cons_zero, List.set_cons_succ]
    refine Reg.take_op 4 (v := .bool true) rfl (by kernel_rfl) (by kernel_rfl) (by kernel_rfl) (fun _ _ _ h => h) (by rfl) (fun w' hS => by go_simp) ?_
    simp only [Act.put, List.setIfInBounds_toArray, List.set_cons_zero, List.set_cons_succ]
    refine wpAnyH_done (by kernel_rfl) ?_ _
    go_wp2
    go_ret
    exact ⟨by rw [E.out]; rfl, HB.out⟩
  | true =>
    rw [en] at TE
    have MK := Lib.hid (show mgB m = kdB m by rw [MB.out, en]; rfl)
    clear en
    go_enter Try.func21, Try.ntmps21
    go_upto_region 1 with fail
    rw [← eW]
    clear eW
    replace HK := Lib.hid (show Blk W.drew _ _ _ from HK.out.drewN 1)
    replace HB := Lib.hid (show Below _ _ W.drew from below_drewN HB.out 1)
    refine Reg.region_begin 5 rfl (by kernel_rfl) ?_
    refine Reg.take_op 0 (v := .agg cs) rfl (by kernel_rfl) (by kernel_rfl) (by kernel_rfl) (fun _ _ _ h => h) (by rfl) (fun w' hS => exec_load (.tmp 1) rfl rfl (HK.out.below hS) Try.underlying39 rfl HI.out) ?_
    simp only [Act.put, List.setIfInBounds_toArray, List.set_cons_zero, List.set_cons_succ]
    refine Reg.take_op 1 (v := .agg cs) rfl (by kernel_rfl) (by kernel_rfl) (by kernel_rfl) (fun _ _ _ h => h) (by rfl) (fun w' hS => exec_load (.tmp 1) rfl rfl (HK.out.below hS) Try.underlying39 rfl HI.out) ?_
    simp only [Act.put, List.setIfInBounds_toArray, List.set_cons_zero, List.set_cons_succ]
    refine Reg.call_op 2 rfl (by kernel_rfl) (by rfl) 31 #[.agg cs] (by go_simp) ?_
    refine Calls.mono (TN.out _ HB.out) ?_
    rintro e w1 ⟨ds, rfl, hds, hb⟩
    refine ⟨_, rfl, hb, ?_⟩
    replace HK := Lib.hid (HK.out.below hb); replace HB := Lib.hid (HB.out.trans (hb.mono HB.out.size)); have HD := Lib.hid hds; clear hb hds TN
    simp only [Act.put, List.setIfInBounds_toArray, List.set_cons_zero, List.set_cons_succ]
    refine Reg.call_op 3 rfl (by kernel_rfl) (by rfl) 30 #[.agg cs, .agg ds] (by go_simp) ?_
    refine Calls.mono (TE.out _ ds HB.out HD.out) ?_
    rintro e w2 ⟨rfl, hb⟩
    refine ⟨_, rfl, hb, ?_⟩
    replace HK := Lib.hid (HK.out.below hb); replace HB := Lib.hid (HB.out.trans (hb.mono HB.out.size)); clear hb TE HD
    simp only [Act.put, List.setIfInBounds_toArray, List.set_cons_zero, List.set_cons_succ]
    refine Reg.take_op 4 (v := .bool false) rfl (by kernel_rfl) (by kernel_rfl) (by kernel_rfl) (fun _ _ _ h => h) (by rfl) (fun w' hS => by go_simp) ?_
    simp only [Act.put, List.setIfInBounds_toArray, List.set_cons_zero, List.set_cons_succ]
    refine wpAnyH_done (by kernel_rfl) ?_ _
    replace HK := Lib.hid (EC.out ▸ HK.out)
    have HA := Lib.hid (HP.out.at_ HK.out)
    have k0 := HA.out.k
    by_cases m1 : m.k = 1
    · have y1 : (m.k == 1) = true := by simpa using m1
      have y2 : (m.k == 2) = false := by simp; omega
      have y3 : (m.k == 3) = false := by simp; omega
      have y4 : (m.k == 4) = false := by simp; omega
      have y5 : (m.k == 5) = false := by simp; omega
      have E := Lib.hid (show mgB m = asB m.aq by rw [MK.out, kdB, if_pos m1])
      clear m1
      go_wp2_with (first
        | (refine load_g (by rfl) 25 (.tmp 12) (by rfl) w.heap.size 1 (by rfl) pa _ HA.out.a Try.underlying25 (by rfl) (by rw [HP.out.a.size]; exact as_info) ?_)
        | (go_at_call 32; refine Calls.mono (T1.out _) ?_; rintro e w3 ⟨rfl, hb⟩; replace HB := Lib.hid (HB.out.trans (hb.mono HB.out.size)); clear hb T1)
        | fail)
      go_ret
      exact ⟨by rw [E.out]; rfl, HB.out⟩
    · have nm1 := m1
      by_cases m2 : m.k = 2
      · have y1 : (m.k == 1) = false := by simp; omega
        have y2 : (m.k == 2) = true := by simpa using m2
        have y3 : (m.k == 3) = false := by simp; omega
        have y4 : (m.k == 4) = false := by simp; omega
        have y5 : (m.k == 5) = false := by simp; omega
        have E := Lib.hid (show mgB m = tgB m.tg by rw [MK.out, kdB, if_neg m1, if_pos m2])
        clear m1 m2
        go_wp2_with (first
          | (refine load_g (by rfl) 30 (.tmp 17) (by rfl) w.heap.size 7 (by rfl) pt _ HA.out.t Try.underlying30 (by rfl) (by rw [HP.out.t.size]; exact tg_info) ?_)
          | (go_at_call 33; refine Calls.mono (T2.out _) ?_; rintro e w3 ⟨rfl, hb⟩; replace HB := Lib.hid (HB.out.trans (hb.mono HB.out.size)); clear hb T2)
          | fail)
        go_ret
        exact ⟨by rw [E.out]; rfl, HB.out⟩
      · have nm2 := m2
        by_cases m3 : m.k = 3
        · have y1 : (m.k == 1) = false := by simp; omega
          have y2 : (m.k == 2) = false := by simp; omega
          have y3 : (m.k == 3) = true := by simpa using m3
          have y4 : (m.k == 4) = false := by simp; omega
          have y5 : (m.k == 5) = false := by simp; omega
          have E := Lib.hid (show mgB m = reB m.re by rw [MK.out, kdB, if_neg m1, if_neg m2, if_pos m3])
          clear m1 m2 m3
          go_wp2_with (first
            | (refine load_g (by rfl) 32 (.tmp 22) (by rfl) w.heap.size 16 (by rfl) pr _ HA.out.r Try.underlying32 (by rfl) (by rw [HP.out.r.size]; exact re_info) ?_)
            | (go_at_call 34; refine Calls.mono (T3.out _) ?_; rintro e w3 ⟨rfl, hb⟩; replace HB := Lib.hid (HB.out.trans (hb.mono HB.out.size)); clear hb T3)
            | fail)
          go_ret
          exact ⟨by rw [E.out]; rfl, HB.out⟩
        · have nm3 := m3
          by_cases m4 : m.k = 4
          · have y1 : (m.k == 1) = false := by simp; omega
            have y2 : (m.k == 2) = false := by simp; omega
            have y3 : (m.k == 3) = false := by simp; omega
            have y4 : (m.k == 4) = true := by simpa using m4
            have y5 : (m.k == 5) = false := by simp; omega
            have E := Lib.hid (show mgB m = apB m.ap by rw [MK.out, kdB, if_neg m1, if_neg m2, if_neg m3, if_pos m4])
            clear m1 m2 m3 m4
            go_wp2_with (first
              | (refine load_g (by rfl) 34 (.tmp 27) (by rfl) w.heap.size 23 (by rfl) pp _ HA.out.p Try.underlying34 (by rfl) (by rw [HP.out.p.size]; exact ap_info) ?_)
              | (go_at_call 35; refine Calls.mono (T4.out _) ?_; rintro e w3 ⟨rfl, hb⟩; replace HB := Lib.hid (HB.out.trans (hb.mono HB.out.size)); clear hb T4)
              | fail)
            go_ret
            exact ⟨by rw [E.out]; rfl, HB.out⟩
          · have nm4 := m4
            by_cases m5 : m.k = 5
            · have y1 : (m.k == 1) = false := by simp; omega
              have y2 : (m.k == 2) = false := by simp; omega
              have y3 : (m.k == 3) = false := by simp; omega
              have y4 : (m.k == 4) = false := by simp; omega
              have y5 : (m.k == 5) = true := by simpa using m5
              have E := Lib.hid (show mgB m = faB m.fa by rw [MK.out, kdB, if_neg m1, if_neg m2, if_neg m3, if_neg m4, if_pos m5])
              clear m1 m2 m3 m4 m5
              go_wp2_with (first
                | (refine load_g (by rfl) 37 (.tmp 32) (by rfl) w.heap.size 28 (by rfl) pf _ HA.out.f Try.underlying37 (by rfl) (by rw [HP.out.f.size]; exact fa_info) ?_)
                | (go_at_call 36; refine Calls.mono (T5.out _) ?_; rintro e w3 ⟨rfl, hb⟩; replace HB := Lib.hid (HB.out.trans (hb.mono HB.out.size)); clear hb T5)
                | fail)
              go_ret
              exact ⟨by rw [E.out]; rfl, HB.out⟩
            · have nm5 := m5
              have y1 : (m.k == 1) = false := by simp; omega
              have y2 : (m.k == 2) = false := by simp; omega
              have y3 : (m.k == 3) = false := by simp; omega
              have y4 : (m.k == 4) = false := by simp; omega
              have y5 : (m.k == 5) = false := by simp; omega
              have E := Lib.hid (show mgB m = false by rw [MK.out, kdB, if_neg m1, if_neg m2, if_neg m3, if_neg m4, if_neg m5])
              clear m1 m2 m3 m4 m5
              go_wp2
              go_ret
              exact ⟨by rw [E.out]; rfl, HB.out⟩
set_option maxHeartbeats 6400000 in
theorem laymsg_any (cs : Array Value) (m : Mg) (w : World) (h : MgV w w.heap.size cs m) (hx : mgB m = true) : Calls Try.prog 23 #[.agg cs] w (Gives w (mgE m)) := by
  obtain ⟨pa, pt, pr, pp, pf, hc, hp⟩ := h
  obtain ⟨W, eW⟩ : ∃ W, W = w.alloc (.cells cs 39) := ⟨_, rfl⟩
  have HK := Lib.hid (show Blk W w.heap.size 39 (mgA m.k pa pt pr pp pf) by rw [eW, ← hc]; exact Blk.new _ _ _)
  have HB := Lib.hid (show Below w.heap.size w W by rw [eW]; exact (Below.refl _ _).alloc (Nat.le_refl _) _)
  have HA := Lib.hid (hp.at_ HK.out)
  have k0 := HA.out.k
  have HP := Lib.hid hp
  clear hc
  rcases mg_cases hx with ⟨h1, e⟩ | ⟨h1, e⟩ | ⟨h1, e⟩ | ⟨h1, e⟩ | ⟨h1, e⟩
  · have hk : m.k = 1 := by rw [e]
    have y1 : (m.k == 1) = true := by rw [hk]; rfl
    have y2 : (m.k == 2) = false := by rw [hk]; rfl
    have y3 : (m.k == 3) = false := by rw [hk]; rfl
    have y4 : (m.k == 4) = false := by rw [hk]; rfl
    have y5 : (m.k == 5) = false := by rw [hk]; rfl
    have E := Lib.hid (show mgE m = asE m.aq by rw [e]; rfl)
    have T1 := Lib.hid (fun w1 (h : Below w.heap.size w w1) => layas_v w1 hp.a h1)
    rw [E.out]
    clear hx h1 e hk hp E
    go_enter Try.func23, Try.ntmps23
    go_upto_region 1 with fail
    rw [← eW]
    clear eW
    go_wp2_with (first
      | (refine load_g (by rfl) 25 (.tmp 7) (by rfl) w.heap.size 1 (by rfl) pa _ HA.out.a Try.underlying25 (by rfl) (by rw [HP.out.a.size]; exact as_info) ?_)
      | (go_at_call 37; refine Calls.mono (T1.out _ HB.out) ?_; rintro e w3 ⟨⟨g, c, rfl, h2, h3, h4⟩, hb⟩; have HG := Lib.hid (gives_on (l := asE m.aq) ⟨⟨g, c, rfl, h2, h3, h4⟩, hb⟩ HB.out); clear h2 h3 h4 hb T1)
      | fail)
    go_ret
    exact HG.out
  · have hk : m.k = 2 := by rw [e]
    have y1 : (m.k == 1) = false := by rw [hk]; rfl
    have y2 : (m.k == 2) = true := by rw [hk]; rfl
    have y3 : (m.k == 3) = false := by rw [hk]; rfl
    have y4 : (m.k == 4) = false := by rw [hk]; rfl
    have y5 : (m.k == 5) = false := by rw [hk]; rfl
    have E := Lib.hid (show mgE m = tgE m.tg by rw [e]; rfl)
    have T1 := Lib.hid (fun w1 (h : Below w.heap.size w w1) => laytg_v w1 ((hp.t.keep h).more h.size) h1)
    rw [E.out]
    clear hx h1 e hk hp E
    go_enter Try.func23, Try.ntmps23
    go_upto_region 1 with fail
    rw [← eW]
    clear eW
    go_wp2_with (first
      | (refine load_g (by rfl) 30 (.tmp 12) (by rfl) w.heap.size 7 (by rfl) pt _ HA.out.t Try.underlying30 (by rfl) (by rw [HP.out.t.size]; exact tg_info) ?_)
      | (go_at_call 38; refine Calls.mono (T1.out _ HB.out) ?_; rintro e w3 ⟨⟨g, c, rfl, h2, h3, h4⟩, hb⟩; have HG := Lib.hid (gives_on (l := tgE m.tg) ⟨⟨g, c, rfl, h2, h3, h4⟩, hb⟩ HB.out); clear h2 h3 h4 hb T1)
      | fail)
    go_ret
    exact HG.out
  · have hk : m.k = 3 := by rw [e]
    have y1 : (m.k == 1) = false := by rw [hk]; rfl
    have y2 : (m.k == 2) = false := by rw [hk]; rfl
    have y3 : (m.k == 3) = true := by rw [hk]; rfl
    have y4 : (m.k == 4) = false := by rw [hk]; rfl
    have y5 : (m.k == 5) = false := by rw [hk]; rfl
    have E := Lib.hid (show mgE m = reE m.re by rw [e]; rfl)
    have T1 := Lib.hid (fun w1 (h : Below w.heap.size w w1) => layre_v w1 ((hp.r.keep h).more h.size) h1)
    rw [E.out]
    clear hx h1 e hk hp E
    go_enter Try.func23, Try.ntmps23
    go_upto_region 1 with fail
    rw [← eW]
    clear eW
    go_wp2_with (first
      | (refine load_g (by rfl) 32 (.tmp 17) (by rfl) w.heap.size 16 (by rfl) pr _ HA.out.r Try.underlying32 (by rfl) (by rw [HP.out.r.size]; exact re_info) ?_)
      | (go_at_call 39; refine Calls.mono (T1.out _ HB.out) ?_; rintro e w3 ⟨⟨g, c, rfl, h2, h3, h4⟩, hb⟩; have HG := Lib.hid (gives_on (l := reE m.re) ⟨⟨g, c, rfl, h2, h3, h4⟩, hb⟩ HB.out); clear h2 h3 h4 hb T1)
      | fail)
    go_ret
    exact HG.out
  · have hk : m.k = 4 := by rw [e]
    have y1 : (m.k == 1) = false := by rw [hk]; rfl
    have y2 : (m.k == 2) = false := by rw [hk]; rfl
    have y3 : (m.k == 3) = false := by rw [hk]; rfl
    have y4 : (m.k == 4) = true := by rw [hk]; rfl
    have y5 : (m.k == 5) = false := by rw [hk]; rfl
    have E := Lib.hid (show mgE m = apE m.ap by rw [e]; rfl)
    have T1 := Lib.hid (fun w1 (h : Below w.heap.size w w1) => layap_v w1 ((hp.p.keep h).more h.size) h1)
    rw [E.out]
    clear hx h1 e hk hp E
    go_enter Try.func23, Try.ntmps23
    go_upto_region 1 with fail
    rw [← eW]
    clear eW
    go_wp2_with (first
      | (refine load_g (by rfl) 34 (.tmp 22) (by rfl) w.heap.size 23 (by rfl) pp _ HA.out.p Try.underlying34 (by rfl) (by rw [HP.out.p.size]; exact ap_info) ?_)
      | (go_at_call 40; refine Calls.mono (T1.out _ HB.out) ?_; rintro e w3 ⟨⟨g, c, rfl, h2, h3, h4⟩, hb⟩; have HG := Lib.hid (gives_on (l := apE m.ap) ⟨⟨g, c, rfl, h2, h3, h4⟩, hb⟩ HB.out); clear h2 h3 h4 hb T1)
      | fail)
    go_ret
    exact HG.out
  · have hk : m.k = 5 := by rw [e]
    have y1 : (m.k == 1) = false := by rw [hk]; rfl
    have y2 : (m.k == 2) = false := by rw [hk]; rfl
    have y3 : (m.k == 3) = false := by rw [hk]; rfl
    have y4 : (m.k == 4) = false := by rw [hk]; rfl
    have y5 : (m.k == 5) = true := by rw [hk]; rfl
    have E := Lib.hid (show mgE m = faE m.fa by rw [e]; rfl)
    have T1 := Lib.hid (fun w1 (h : Below w.heap.size w w1) => layfa_v w1 hp.f)
    rw [E.out]
    clear hx h1 e hk hp E
    go_enter Try.func23, Try.ntmps23
    go_upto_region 1 with fail
    rw [← eW]
    clear eW
    go_wp2_with (first
      | (refine load_g (by rfl) 37 (.tmp 25) (by rfl) w.heap.size 28 (by rfl) pf _ HA.out.f Try.underlying37 (by rfl) (by rw [HP.out.f.size]; exact fa_info) ?_)
      | (go_at_call 41; refine Calls.mono (T1.out _ HB.out) ?_; rintro e w3 ⟨⟨g, c, rfl, h2, h3, h4⟩, hb⟩; have HG := Lib.hid (gives_on (l := faE m.fa) ⟨⟨g, c, rfl, h2, h3, h4⟩, hb⟩ HB.out); clear h2 h3 h4 hb T1)
      | fail)
    go_ret
    exact HG.out
theorem mg_len {m : Mg} (hx : mgB m = true) : (mgE m).length ≤ 2000 := by
  rcases mg_cases hx with ⟨h1, e⟩ | ⟨h1, e⟩ | ⟨h1, e⟩ | ⟨h1, e⟩ | ⟨h1, e⟩
  · have hE : mgE m = asE m.aq := by rw [e]; rfl
    have hp : prB m.aq.c = true ∧ prB m.aq.s = true ∧ tmB m.aq.t = true ∧ tmB m.aq.no = true := by simpa [asB] using h1
    have b1 := (prE_len hp.1).1; have b2 := (prE_len hp.2.1).1; have b3 := encI_le m.aq.t; have b4 := encI_le m.aq.no
    have := elem_len 106 [prE m.aq.c, prE m.aq.s, encI m.aq.t, encI m.aq.no].flatten
    rw [hE, asE]; rw [flat4] at this ⊢; simp only [List.length_append] at this; omega
  · have hE : mgE m = tgE m.tg := by rw [e]; rfl
    have hp : tkB m.tg.t = true ∧ blobB m.tg.a = true ∧ prB m.tg.s = true ∧ tmB m.tg.u = true ∧ tmB m.tg.no = true := by simpa [tgB] using h1
    have b1 := (tkE_len hp.1).1; have b2 := elem_len 4 m.tg.a; have b3 := (prE_len hp.2.2.1).1; have b4 := encI_le m.tg.u; have b5 := encI_le m.tg.no; have b6 := blob_parts hp.2.1
    have := elem_len 108 [tkE m.tg.t, elem 4 m.tg.a, prE m.tg.s, encI m.tg.u, encI m.tg.no].flatten
    rw [hE, tgE]; rw [flat5] at this ⊢; simp only [List.length_append] at this; omega
  · have hE : mgE m = reE m.re := by rw [e]; rfl
    have hp : prB m.re.c = true ∧ tkB m.re.t = true ∧ blobB m.re.b = true := by simpa [reB] using h1
    have b1 := (prE_len hp.1).1; have b2 := (tkE_len hp.2.1).1; have b3 := elem_len 4 m.re.b; have b6 := blob_parts hp.2.2
    have := elem_len 107 [prE m.re.c, tkE m.re.t, elem 4 m.re.b].flatten
    rw [hE, reE]; rw [flat3] at this ⊢; simp only [List.length_append] at this; omega
  · have hE : mgE m = apE m.ap := by rw [e]; rfl
    have hp : tkB m.ap.t = true ∧ blobB m.ap.a = true := by simpa [apB] using h1
    have b2 := (tkE_len hp.1).1; have b3 := elem_len 4 m.ap.a; have b6 := blob_parts hp.2
    have := elem_len 110 [tkE m.ap.t, elem 4 m.ap.a].flatten
    rw [hE, apE]; rw [flat2] at this ⊢; simp only [List.length_append] at this; omega
  · have hE : mgE m = faE m.fa := by rw [e]; rfl
    have b2 := encI_le m.fa.e; have b3 := encI_le m.fa.no
    have := elem_len 126 [encI m.fa.e, encI m.fa.no].flatten
    rw [hE, faE]; rw [flat2] at this ⊢; simp only [List.length_append] at this; omega
set_option maxHeartbeats 3200000 in
theorem enc_any (cs0 : Array Value) (m : Mg) (w : World) (h : MgV w w.heap.size cs0 m) (hs : mSm m) : Calls Try.prog 8 #[.agg cs0] w (EncR w (mgO m)) := by
  have HI := Lib.hid (show (Try.prog.info? 39).map (·.size) = some cs0.size by obtain ⟨pa, pt, pr, pp, pf, hc, hp⟩ := h; rw [hc, hp.size]; exact mg_info)
  have I1 := Lib.hid (fun w1 (h1 : Below w.heap.size w w1) => ismsg_any cs0 m w1 ((h.keep h1).more h1.size) hs)
  have T0 := Lib.hid (fun (hx : mgB m = true) => fun w1 (h1 : Below w.heap.size w w1) => laymsg_any cs0 m w1 ((h.keep h1).more h1.size) hx)
  have HLEN := Lib.hid (fun (hx : mgB m = true) => mg_len hx)
  obtain ⟨cs, ecs⟩ : ∃ cs : Array Value, cs = cs0 := ⟨_, rfl⟩
  rw [← ecs] at HI I1 T0 ⊢
  clear ecs
  have HB := Lib.hid ((Below.refl w.heap.size w).alloc (Nat.le_refl _) (.cells cs 39))
  have HK := Lib.hid (Blk.new w 39 cs)
  cases hx : mgB m with
  | false =>
    rw [hx] at I1
    have E := Lib.hid (show mgO m = none by unfold mgO limO; rw [hx]; rfl)
    rw [E.out]
    clear hx E T0 HLEN hs h
    go_enter Try.func8, Try.ntmps8
    go_wp2_with (first
      | (refine load_cells (by rfl) 39 (.tmp 1) (by rfl) w.heap.size 0 (by rfl) cs _ (range_blk HK.out) Try.underlying39 (by rfl) HI.out ?_)
      | (go_at_call 21; refine Calls.mono (I1.out _ HB.out) ?_; rintro e w1 ⟨rfl, hb⟩; replace HB := Lib.hid (HB.out.trans (hb.mono HB.out.size)); clear hb I1)
      | fail)
    go_ret2
    exact enc_none HB.out
  | true =>
    rw [hx] at I1
    have T1 := Lib.hid (T0.out hx)
    have hlm := HLEN.out hx
    have E := Lib.hid (show mgO m = some (mgE m) from lim_iff.2 ⟨hx, hlm, rfl⟩)
    rw [E.out]
    obtain ⟨l, el⟩ : ∃ l, l = mgE m := ⟨_, rfl⟩
    rw [← el] at T1 hlm ⊢
    have LM := Lib.hid (fun A c w1 => bounded_ok l A _ c w1 rfl hlm)
    clear hx E el hlm T0 HLEN hs h
    go_enter Try.func8, Try.ntmps8
    go_wp2_with (first
      | (refine load_cells (by rfl) 39 (.tmp 1) (by rfl) w.heap.size 0 (by rfl) cs _ (range_blk HK.out) Try.underlying39 (by rfl) HI.out ?_)
      | (go_at_call 21; refine Calls.mono (I1.out _ HB.out) ?_; rintro e w1 ⟨rfl, hb⟩; replace HK := Lib.hid (HK.out.below hb); replace HB := Lib.hid (HB.out.trans (hb.mono HB.out.size)); clear hb I1)
      | (go_at_call 23; refine Calls.mono (T1.out _ HB.out) ?_; rintro e w2 ⟨⟨g, c, rfl, h2, h3, h4⟩, hb⟩; have HG := Lib.hid (gives_on (l := l) ⟨⟨g, c, rfl, h2, h3, h4⟩, hb⟩ HB.out); clear h2 h3 h4 hb T1)
      | (go_at_call 22; refine Calls.mono (LM.out _ _ _) ?_; rintro e wy ⟨rfl, rfl⟩; clear LM)
      | fail)
    go_ret2
    exact enc_some HG.out
end Go.Proofs.Yteeabfplnaknfaa.Mc
end

section
set_option linter.unusedVariables false
set_option linter.unusedSimpArgs false
namespace Go.Proofs.Yteeabfplnaknfaa.Mc
open Go.RowKit Go.Proofs.Yteeabfplnaknfaa.Mem Go.Proofs.Yteeabfplnaknfaa.DerP Go.Proofs.Yteeabfplnaknfaa.DerC Go.Proofs.Yteeabfplnaknfaa.Ms

def OwnN (w : World) (base : Nat) (v : Value) (l : L) : Prop := (v = .slice none 0 0 ∧ l = []) ∨ OwnB w base v l
section
variable {w w' : World} {base base' g : Nat} {v : Value} {l : L} {cs : Array Value}
theorem OwnN.keep (h : OwnN w base v l) (hg : w.grownBy w' (some g)) (hlt : g < base) : OwnN w' base v l := h.imp id fun h => h.keep hg hlt
theorem OwnN.below (h : OwnN w base v l) (hb : Below w.heap.size w w') : OwnN w' base v l := h.imp id fun h => h.below hb
theorem OwnN.slb (h : OwnN w base v l) : SlB w w.heap.size v l := by
  rcases h with ⟨rfl, rfl⟩ | h
  · exact SlB.nil _ _
  · exact h.slb
def TgO (w : World) (B : Nat) (cs : Array Value) (q : Tg) : Prop := ∃ b a, cs = (tgC q b a).toArray ∧ OwnN w B b q.t.b ∧ OwnN w B a q.a
def ReO (w : World) (B : Nat) (cs : Array Value) (q : Re) : Prop := ∃ b a, cs = (reC q b a).toArray ∧ OwnN w B b q.t.b ∧ OwnN w B a q.b
def ApO (w : World) (B : Nat) (cs : Array Value) (q : Ap) : Prop := ∃ b a, cs = (apC q b a).toArray ∧ OwnN w B b q.t.b ∧ OwnN w B a q.a
theorem TgO.keep {q : Tg} (h : TgO w base cs q) (hg : w.grownBy w' (some g)) (hlt : g < base) : TgO w' base cs q := by obtain ⟨b, a, h1, h2, h3⟩ := h; exact ⟨b, a, h1, h2.keep hg hlt, h3.keep hg hlt⟩
theorem TgO.below {q : Tg} (h : TgO w base cs q) (hb : Below w.heap.size w w') : TgO w' base cs q := by obtain ⟨b, a, h1, h2, h3⟩ := h; exact ⟨b, a, h1, h2.below hb, h3.below hb⟩
theorem TgO.toV {q : Tg} (h : TgO w base cs q) : TgV w w.heap.size cs q := by obtain ⟨b, a, h1, h2, h3⟩ := h; exact ⟨b, a, h1, h2.slb, h3.slb⟩
theorem ReO.keep {q : Re} (h : ReO w base cs q) (hg : w.grownBy w' (some g)) (hlt : g < base) : ReO w' base cs q := by obtain ⟨b, a, h1, h2, h3⟩ := h; exact ⟨b, a, h1, h2.keep hg hlt, h3.keep hg hlt⟩
theorem ReO.below {q : Re} (h : ReO w base cs q) (hb : Below w.heap.size w w') : ReO w' base cs q := by obtain ⟨b, a, h1, h2, h3⟩ := h; exact ⟨b, a, h1, h2.below hb, h3.below hb⟩
theorem ReO.toV {q : Re} (h : ReO w base cs q) : ReV w w.heap.size cs q := by obtain ⟨b, a, h1, h2, h3⟩ := h; exact ⟨b, a, h1, h2.slb, h3.slb⟩
theorem ApO.keep {q : Ap} (h : ApO w base cs q) (hg : w.grownBy w' (some g)) (hlt : g < base) : ApO w' base cs q := by obtain ⟨b, a, h1, h2, h3⟩ := h; exact ⟨b, a, h1, h2.keep hg hlt, h3.keep hg hlt⟩
theorem ApO.below {q : Ap} (h : ApO w base cs q) (hb : Below w.heap.size w w') : ApO w' base cs q := by obtain ⟨b, a, h1, h2, h3⟩ := h; exact ⟨b, a, h1, h2.below hb, h3.below hb⟩
theorem ApO.toV {q : Ap} (h : ApO w base cs q) : ApV w w.heap.size cs q := by obtain ⟨b, a, h1, h2, h3⟩ := h; exact ⟨b, a, h1, h2.slb, h3.slb⟩
structure MpO (w : World) (B : Nat) (pa pt pr pp pf : Array Value) (m : Mg) : Prop where
  a : AsV pa m.aq
  t : TgO w B pt m.tg
  r : ReO w B pr m.re
  p : ApO w B pp m.ap
  f : FaV pf m.fa
def MgO (w : World) (B : Nat) (cs : Array Value) (m : Mg) : Prop := ∃ pa pt pr pp pf, cs = mgA m.k pa pt pr pp pf ∧ MpO w B pa pt pr pp pf m
variable {pa pt pr pp pf : Array Value} {m : Mg}
theorem MpO.toV (h : MpO w base pa pt pr pp pf m) : MgP w w.heap.size pa pt pr pp pf m := ⟨h.a, h.t.toV, h.r.toV, h.p.toV, h.f⟩
theorem MpO.keep (h : MpO w base pa pt pr pp pf m) (hg : w.grownBy w' (some g)) (hlt : g < base) : MpO w' base pa pt pr pp pf m := ⟨h.a, h.t.keep hg hlt, h.r.keep hg hlt, h.p.keep hg hlt, h.f⟩
theorem MpO.below (h : MpO w base pa pt pr pp pf m) (hb : Below w.heap.size w w') : MpO w' base pa pt pr pp pf m := ⟨h.a, h.t.below hb, h.r.below hb, h.p.below hb, h.f⟩
theorem MgO.toV (h : MgO w base cs m) : MgV w w.heap.size cs m := by obtain ⟨pa, pt, pr, pp, pf, h1, h2⟩ := h; exact ⟨pa, pt, pr, pp, pf, h1, h2.toV⟩
theorem MgO.keep (h : MgO w base cs m) (hg : w.grownBy w' (some g)) (hlt : g < base) : MgO w' base cs m := by obtain ⟨pa, pt, pr, pp, pf, h1, h2⟩ := h; exact ⟨pa, pt, pr, pp, pf, h1, h2.keep hg hlt⟩
theorem MgO.below (h : MgO w base cs m) (hb : Below w.heap.size w w') : MgO w' base cs m := by obtain ⟨pa, pt, pr, pp, pf, h1, h2⟩ := h; exact ⟨pa, pt, pr, pp, pf, h1, h2.below hb⟩
theorem MgO.size (h : MgO w base cs m) : cs.size = 30 := by obtain ⟨pa, pt, pr, pp, pf, h1, h2⟩ := h; rw [h1]; exact h2.toV.size m.k
theorem MgO.one (h : MgO w base cs m) : One cs := by obtain ⟨pa, pt, pr, pp, pf, h1, h2⟩ := h; rw [h1]; exact h2.toV.one m.k
end
section
variable (g : Nat) (c : Option L) (w : World) (h : Cur w g c) (hs : (c.getD []).length ≤ 100000)
include h hs
end
theorem built_fa {ps : Array Value} {q : Fa} (h : FaV ps q) : Try.prog.built 39 [(0, .int .i64 5), (5, .agg ps)] = some (mgA 5 zA zT zR zP ps) := by rw [h]; kernel_rfl
end Go.Proofs.Yteeabfplnaknfaa.Mc
end

section
set_option linter.unusedVariables false
set_option linter.unusedSimpArgs false
namespace Go.Proofs.Yteeabfplnaknfaa.Mc
open Go.RowKit Go.Proofs.Yteeabfplnaknfaa.Mem Go.Proofs.Yteeabfplnaknfaa.DerP Go.Proofs.Yteeabfplnaknfaa.Ms

theorem mapM_all {α β : Type} (g : α → Option β) (h : α → β) : ∀ l : List α, (∀ i ∈ l, g i = some (h i)) → l.mapM g = some (l.map h)
  | [], _ => rfl
  | a :: l, hh => by
    rw [List.mapM_cons, hh a (by simp), mapM_all g h l (fun i hi => hh i (by simp [hi]))]
    rfl
theorem flat_one {α β : Type} (g : α → β) : ∀ l : List α, (l.map fun i => [g i]).flatten = l.map g
  | [] => rfl
  | a :: l => by rw [List.map_cons, List.flatten_cons, flat_one g l, List.map_cons]; rfl
def litsK (k : L) : List Lit := (List.range 32).map fun i => Lit.int .u8 ((k.getD i 0).toNat : Int)
theorem lits_key (k : L) (hk : k.length = 32) : Try.prog.keyLits 5 48 (bvs k) = some (litsK k) := by
  have hu26 := Try.underlying48
  have hu5 := Try.underlying5
  have c26 : Try.prog.cellsOf 48 = 32 := by kernel_rfl
  have c5 : Try.prog.cellsOf 5 = 1 := by kernel_rfl
  have one : ∀ b : UInt8, Try.prog.keyLits 4 5 [bv b] = some [Lit.int .u8 (b.toNat : Int)] := fun b => by
    have hw : (Lit.int .u8 (b.toNat : Int)).wf = true := by
      have := b.toNat_lt
      simp [Lit.wf, IntKind.min, IntKind.max, IntKind.signed, IntKind.bits]
      omega
    unfold Program.keyLits bv
    simp only [hu5, hw, and_self, if_true]
  unfold Program.keyLits
  simp only [hu26]
  have hl : (bvs k).length = Try.prog.cellsOf 48 := by rw [c26, bvs_length, hk]
  rw [if_pos hl]
  have hm := mapM_all (fun i => Try.prog.keyLits 4 5 (((bvs k).drop (i * Try.prog.cellsOf 5)).take (Try.prog.cellsOf 5))) (fun i => [Lit.int .u8 ((k.getD i 0).toNat : Int)]) (List.range 32) (fun i hi => by
    have h32 : i < 32 := List.mem_range.1 hi
    have hlt : i < (bvs k).length := by rw [bvs_length, hk]; exact h32
    rw [c5, Nat.mul_one, List.drop_eq_getElem_cons hlt, List.take_succ_cons, List.take_zero]
    have hlk : i < k.length := by omega
    have e : (bvs k)[i] = bv (k.getD i 0) := by simp [bvs, List.getD, hlk]
    rw [e]
    exact one _)
  rw [hm]
  show some ((List.range 32).map fun i => [Lit.int .u8 ((k.getD i 0).toNat : Int)]).flatten = _
  rw [flat_one]; rfl
theorem eql_key (k : L) (hk : k.length = 32) (w : World) : (Op.equalIn 9999 48 (.agg (bvs k).toArray) (.agg (bvs k).toArray)).run Try.prog w = .ok true w := by
  have h := run_equalIn_deep (P := Try.prog) 9997 2 48 (by kernel_rfl)
  have c26 : Try.prog.cellsOf 48 = 32 := by kernel_rfl
  have hf : (Value.agg (bvs k).toArray).formed Try.prog 48 = true := by
    obtain ⟨k0, k1, k2, k3, k4, k5, k6, k7, k8, k9, k10, k11, k12, k13, k14, k15, k16, k17, k18, k19, k20, k21, k22, k23, k24, k25, k26, k27, k28, k29, k30, k31, rfl⟩ := len32 hk
    kernel_rfl
  obtain ⟨r, h1, h2⟩ := h w 5 5 (.agg (bvs k).toArray) (.agg (bvs k).toArray) (litsK k) (litsK k) hf hf (lits_key k hk) (lits_key k hk)
  rw [h2.2 rfl] at h1
  exact h1
set_option maxRecDepth 10000 in
set_option maxHeartbeats 3200000 in
theorem eql_pt (p : Pt) (hk : p.ss.length = 32) (w : World) : (Op.equalIn 10000 50 (.agg (ptC p).toArray) (.agg (ptC p).toArray)).run Try.prog w = .ok true w := by
  obtain ⟨c, k, tr, st, en⟩ := p
  simp only at hk
  have hq := eql_key k hk w
  obtain ⟨k0, k1, k2, k3, k4, k5, k6, k7, k8, k9, k10, k11, k12, k13, k14, k15, k16, k17, k18, k19, k20, k21, k22, k23, k24, k25, k26, k27, k28, k29, k30, k31, rfl⟩ := len32 hk
  replace hq : (Op.equalIn 9999 48 (.agg #[.int .u8 (k0.toNat : Int), .int .u8 (k1.toNat : Int), .int .u8 (k2.toNat : Int), .int .u8 (k3.toNat : Int), .int .u8 (k4.toNat : Int), .int .u8 (k5.toNat : Int), .int .u8 (k6.toNat : Int), .int .u8 (k7.toNat : Int), .int .u8 (k8.toNat : Int), .int .u8 (k9.toNat : Int), .int .u8 (k10.toNat : Int), .int .u8 (k11.toNat : Int), .int .u8 (k12.toNat : Int), .int .u8 (k13.toNat : Int), .int .u8 (k14.toNat : Int), .int .u8 (k15.toNat : Int), .int .u8 (k16.toNat : Int), .int .u8 (k17.toNat : Int), .int .u8 (k18.toNat : Int), .int .u8 (k19.toNat : Int), .int .u8 (k20.toNat : Int), .int .u8 (k21.toNat : Int), .int .u8 (k22.toNat : Int), .int .u8 (k23.toNat : Int), .int .u8 (k24.toNat : Int), .int .u8 (k25.toNat : Int), .int .u8 (k26.toNat : Int), .int .u8 (k27.toNat : Int), .int .u8 (k28.toNat : Int), .int .u8 (k29.toNat : Int), .int .u8 (k30.toNat : Int), .int .u8 (k31.toNat : Int)]) (.agg #[.int .u8 (k0.toNat : Int), .int .u8 (k1.toNat : Int), .int .u8 (k2.toNat : Int), .int .u8 (k3.toNat : Int), .int .u8 (k4.toNat : Int), .int .u8 (k5.toNat : Int), .int .u8 (k6.toNat : Int), .int .u8 (k7.toNat : Int), .int .u8 (k8.toNat : Int), .int .u8 (k9.toNat : Int), .int .u8 (k10.toNat : Int), .int .u8 (k11.toNat : Int), .int .u8 (k12.toNat : Int), .int .u8 (k13.toNat : Int), .int .u8 (k14.toNat : Int), .int .u8 (k15.toNat : Int), .int .u8 (k16.toNat : Int), .int .u8 (k17.toNat : Int), .int .u8 (k18.toNat : Int), .int .u8 (k19.toNat : Int), .int .u8 (k20.toNat : Int), .int .u8 (k21.toNat : Int), .int .u8 (k22.toNat : Int), .int .u8 (k23.toNat : Int), .int .u8 (k24.toNat : Int), .int .u8 (k25.toNat : Int), .int .u8 (k26.toNat : Int), .int .u8 (k27.toNat : Int), .int .u8 (k28.toNat : Int), .int .u8 (k29.toNat : Int), .int .u8 (k30.toNat : Int), .int .u8 (k31.toNat : Int)])).run Try.prog w = .ok true w := hq
  show (Op.equalIn 10000 50 (.agg #[.string ⟨c.1.toArray⟩, .string ⟨c.2.toArray⟩, .int .u8 (k0.toNat : Int), .int .u8 (k1.toNat : Int), .int .u8 (k2.toNat : Int), .int .u8 (k3.toNat : Int), .int .u8 (k4.toNat : Int), .int .u8 (k5.toNat : Int), .int .u8 (k6.toNat : Int), .int .u8 (k7.toNat : Int), .int .u8 (k8.toNat : Int), .int .u8 (k9.toNat : Int), .int .u8 (k10.toNat : Int), .int .u8 (k11.toNat : Int), .int .u8 (k12.toNat : Int), .int .u8 (k13.toNat : Int), .int .u8 (k14.toNat : Int), .int .u8 (k15.toNat : Int), .int .u8 (k16.toNat : Int), .int .u8 (k17.toNat : Int), .int .u8 (k18.toNat : Int), .int .u8 (k19.toNat : Int), .int .u8 (k20.toNat : Int), .int .u8 (k21.toNat : Int), .int .u8 (k22.toNat : Int), .int .u8 (k23.toNat : Int), .int .u8 (k24.toNat : Int), .int .u8 (k25.toNat : Int), .int .u8 (k26.toNat : Int), .int .u8 (k27.toNat : Int), .int .u8 (k28.toNat : Int), .int .u8 (k29.toNat : Int), .int .u8 (k30.toNat : Int), .int .u8 (k31.toNat : Int), .string ⟨tr.toArray⟩, .int .i64 st, .int .i64 en]) (.agg #[.string ⟨c.1.toArray⟩, .string ⟨c.2.toArray⟩, .int .u8 (k0.toNat : Int), .int .u8 (k1.toNat : Int), .int .u8 (k2.toNat : Int), .int .u8 (k3.toNat : Int), .int .u8 (k4.toNat : Int), .int .u8 (k5.toNat : Int), .int .u8 (k6.toNat : Int), .int .u8 (k7.toNat : Int), .int .u8 (k8.toNat : Int), .int .u8 (k9.toNat : Int), .int .u8 (k10.toNat : Int), .int .u8 (k11.toNat : Int), .int .u8 (k12.toNat : Int), .int .u8 (k13.toNat : Int), .int .u8 (k14.toNat : Int), .int .u8 (k15.toNat : Int), .int .u8 (k16.toNat : Int), .int .u8 (k17.toNat : Int), .int .u8 (k18.toNat : Int), .int .u8 (k19.toNat : Int), .int .u8 (k20.toNat : Int), .int .u8 (k21.toNat : Int), .int .u8 (k22.toNat : Int), .int .u8 (k23.toNat : Int), .int .u8 (k24.toNat : Int), .int .u8 (k25.toNat : Int), .int .u8 (k26.toNat : Int), .int .u8 (k27.toNat : Int), .int .u8 (k28.toNat : Int), .int .u8 (k29.toNat : Int), .int .u8 (k30.toNat : Int), .int .u8 (k31.toNat : Int), .string ⟨tr.toArray⟩, .int .i64 st, .int .i64 en])).run Try.prog w = .ok true w
  go_simp
end Go.Proofs.Yteeabfplnaknfaa.Mc
end

section
set_option linter.unusedVariables false
set_option linter.unusedSimpArgs false
namespace Go.Proofs.Yteeabfplnaknfaa.Mc
open Go.RowKit Go.Proofs.Yteeabfplnaknfaa.Mem Go.Proofs.Yteeabfplnaknfaa.DerP Go.Proofs.Yteeabfplnaknfaa.Ms

theorem kn_form : mgO ⟨5, as0, tg0, re0, ap0, ⟨3, 1⟩⟩ = some [126, 6, 2, 1, 3, 2, 1, 1] := by decide +kernel
theorem kn_sm : mSm ⟨5, as0, tg0, re0, ap0, ⟨3, 1⟩⟩ := ⟨⟨⟨by decide, by decide⟩, ⟨by decide, by decide⟩⟩, ⟨⟨by decide, by decide⟩, ⟨by decide, by decide⟩⟩, ⟨⟨by decide, by decide⟩, ⟨by decide, by decide⟩⟩, ⟨by decide, by decide⟩⟩
set_option maxHeartbeats 3200000 in
set_option maxRecDepth 10000 in
theorem known_any (w : World) : Calls Try.prog 9 #[] w fun e w' => e = .returned (.bool true) ∧ Below w.heap.size w w' := by
  have HF : FaV #[.int .i64 3, .int .i64 1] ⟨3, 1⟩ := rfl
  have HB := Lib.hid (built_fa HF)
  have HV : MgV w w.heap.size (mgA 5 zA zT zR zP #[.int .i64 3, .int .i64 1]) ⟨5, as0, tg0, re0, ap0, ⟨3, 1⟩⟩ := ⟨_, _, _, _, _, rfl, ⟨zA_v, zT_v w _, zR_v w _, zP_v w _, HF⟩⟩
  have EN := enc_any _ _ w HV kn_sm
  rw [kn_form] at EN
  clear HF HV
  obtain ⟨ds, eds⟩ : ∃ ds, ds = mgA 5 zA zT zR zP #[.int .i64 3, .int .i64 1] := ⟨_, rfl⟩
  rw [← eds] at HB EN
  clear eds
  go_enter Try.func9, Try.ntmps9
  go_wp2_with (first
    | (refine wpList_built (by rfl) 39 #[(0, .const (.int .i64 5)), (5, .tmp 4)] (by rfl) ds (by simp only [List.map_toArray, List.map_cons, List.map_nil]; exact HB.out) ?_)
    | (go_at_call 8; refine Calls.mono EN ?_; rintro e we ⟨⟨v, i, rfl, hn, hsm⟩, hb⟩; obtain ⟨rfl, gx, cx, rfl, hgx, hcx, hrx⟩ := hsm _ rfl; have H := Lib.hid hb; clear EN hb hn hsm; have hcv1 := run_bytes_str (P := Try.prog) we 26 5 Try.underlying26 Try.underlying5 hrx 8 cx rfl 9 Try.underlying9)
    | fail)
  go_ret
  exact ⟨rfl, H.out⟩
end Go.Proofs.Yteeabfplnaknfaa.Mc
end

section
set_option linter.unusedVariables false
set_option linter.unusedSimpArgs false
namespace Go.Proofs.Yteeabfplnaknfaa.Mc
open Go.RowKit Go.Proofs.Yteeabfplnaknfaa.Mem Go.Proofs.Yteeabfplnaknfaa.DerP Go.Proofs.Yteeabfplnaknfaa.Ms

theorem stored_at (w : World) (t : TypeId) (lit cs : Array Value) (hs : lit.size = cs.size) : Blk ((w.alloc (.cells lit t)).setCells w.heap.size 0 cs.toList) w.heap.size t cs ∧ Below w.heap.size w ((w.alloc (.cells lit t)).setCells w.heap.size 0 cs.toList) :=
  ⟨blk_cells (Blk.new w t lit) hs, below_g ((Below.refl w.heap.size w).alloc (Nat.le_refl _) _) (put_cells _ _ _) (by simp) (Nat.le_refl _)⟩
theorem store_new {P : Program} {ops : Array Oper} {rest : List Oper} {op : Oper} {a : Act} {w w0 : World} {Q : Exit → Act → World → Prop} {lit : Array Value} (hgd : op.guard = none) (ty : TypeId) (x y : Operand) (ho : op.op = .store ty x y) (t : TypeId) (hw : w = w0.alloc (.cells lit t))
    (cells : Array Value) (hx : a.eval x = .pointer (some ⟨w0.heap.size, 0, none⟩)) (hy : a.eval y = .agg cells) (hs : lit.size = cells.size)
    (hi : (P.info? ty).map (·.size) = some cells.size) (h1 : cells.all (·.oneCell') = true)
    (h : ∀ V, Blk V w0.heap.size t cells → Below w0.heap.size w0 V → wpList P ops Q rest (a.put op.dst undef) V) : wpList P ops Q (op :: rest) a w := by
  subst hw
  have hV := stored_at w0 t lit cells hs
  exact wpList_store_mid hgd ty x y ho w0.heap.size 0 cells hx hy (there_blk (Blk.new w0 t lit) _ (by omega)) hi h1 (h _ hV.1 hV.2)
theorem enc_str {w w' : World} {o : Option L} {e : Ending} (h : EncR w o e w') : ∃ A c, e = .returned (.tuple #[.slice A (o.getD []).length c, .int .i64 (if o.isSome then 0 else 1)]) ∧ (o.getD []).length ≤ c ∧ Rd w' w'.heap.size A (bvs (o.getD [])) ∧ Below w.heap.size w w' := by
  obtain ⟨⟨v, i, rfl, hn, hs⟩, hb⟩ := h
  cases o with
  | none => obtain ⟨rfl, rfl⟩ := hn rfl; exact ⟨none, 0, rfl, Nat.le_refl _, .inl rfl, hb⟩
  | some l => obtain ⟨rfl, g, c, rfl, _, hc, hr⟩ := hs l rfl; exact ⟨_, c, rfl, hc, hr, hb⟩
end Go.Proofs.Yteeabfplnaknfaa.Mc
end

section
namespace Go.Proofs.Yteeabfplnaknfaa.Open
open Go.ChangeShapes Go.WideShapes Go.ChangeAt Go.RowKit Go.Deep Go.Proofs.Yteeabfplnaknfaa.Mem

theorem u8_of_wf {n : Int} (h : (Lit.int .u8 n).wf = true) : ∃ b : UInt8, n = (b.toNat : Int) := by
  have hx : 0 ≤ n ∧ n ≤ 255 := by simpa [Lit.wf, IntKind.min, IntKind.max, IntKind.signed, IntKind.bits] using h
  refine ⟨UInt8.ofNat n.toNat, ?_⟩
  have : (UInt8.ofNat n.toNat).toNat = n.toNat := by simp; omega
  rw [this]; omega
theorem addr_none {w : World} {x : Addr} {v : Value} (h : w.cell? x = some v) : ∃ b o, x = ⟨b, o, none⟩ := by
  obtain ⟨b, o, s⟩ := x
  have := World.cell?_spot h
  exact ⟨b, o, by rw [show s = none from this]⟩

theorem rd_of_cells {w : World} {x : Addr} {xs : List Value} (h : ∀ i u, xs[i]? = some u → w.cell? (x.add i) = some u) : Rd w w.heap.size (some x) xs := by
  cases xs with
  | nil => exact .inl rfl
  | cons a r =>
    have h0 := h 0 a rfl
    rw [show x.add 0 = x by simp [Addr.add]] at h0
    obtain ⟨b, o, rfl⟩ := addr_none h0
    exact .inr ⟨b, o, rfl, World.block_lt_of_cell? w _ h0, fun i u hu => by have := h i u hu; rwa [addr_add] at this⟩

theorem bytes_of_ints {k : Nat} {zs : List Int} (hk : k ≤ zs.length) (hw : ∀ n ∈ zs, (Lit.int .u8 n).wf = true) : ∃ l : List UInt8, l.length = k ∧ ∀ i u, (bvs l)[i]? = some u → i < zs.length ∧ u = .int .u8 (zs.getD i 0) := by
  refine ⟨(zs.take k).map fun n => UInt8.ofNat n.toNat, by simp; omega, fun i u hu => ?_⟩
  have hi : i < k := by
    rcases Nat.lt_or_ge i k with g | g
    · exact g
    · rw [List.getElem?_eq_none (by simp [bvs]; omega)] at hu; cases hu
  have hz : i < zs.length := by omega
  refine ⟨hz, ?_⟩
  obtain ⟨b, hb⟩ := u8_of_wf (hw _ (List.getElem_mem hz))
  simp only [bvs, List.map_map, List.getElem?_map, List.getElem?_take, if_pos hi, List.getElem?_eq_getElem hz, Option.map_some, Function.comp] at hu
  injection hu with hu
  rw [← hu, List.getD, List.getElem?_eq_getElem hz, Option.getD_some, hb]
  simp [bv]

section
variable {H : Type} {enc : TypeId × Value → H} {P : Program} {W : World}

theorem bytes_trod {t e : TypeId} {held : Bool} {fuel : Nat} {v : Value} {x : DataW H × List MemPlace} (ht : P.underlying t = some (.slice e)) (he : P.underlying e = some (.int .u8)) (hc : P.cellsOf e = 1)
    (h : DataW.trod enc P W 0 (fun _ => true) held fuel t [v] = some x) : ∃ A l c, v = .slice A (List.length l) c ∧ Rd W W.heap.size A (bvs l) ∧ l.length ≤ c ∧ c ≤ maxLen := by
  rcases open_ints ht he hc h with ⟨hcs, _⟩ | ⟨x, l, c, zs, hcs, _, hl, hm, hz, _, hcell, hwz⟩
  · injection hcs with hcs
    exact ⟨none, [], 0, hcs, .inl rfl, Nat.le_refl _, Nat.zero_le _⟩
  · injection hcs with hcs
    simp only [if_true] at hz
    obtain ⟨bs, hbl, hb⟩ := bytes_of_ints (k := l) (zs := zs) (by omega) hwz
    refine ⟨some x, bs, c, by rw [hbl]; exact hcs, rd_of_cells fun i u hu => ?_, by omega, hm⟩
    obtain ⟨h1, h2⟩ := hb i u hu
    rw [hcell i h1, h2]

theorem open_bytes {t e : TypeId} {v : Value} {d : DataW H} {ps : List MemPlace} (ht : P.underlying t = some (.slice e)) (he : P.underlying e = some (.int .u8)) (hc : P.cellsOf e = 1)
    (hv : ∃ A n c, v = .slice A n c) (h : DataW.Trod enc P W 0 (fun _ => true) true t v d ps) : ∃ A l c, v = .slice A (List.length l) c ∧ Rd W W.heap.size A (bvs l) ∧ l.length ≤ c ∧ c ≤ maxLen := by
  obtain ⟨A, n, c, rfl⟩ := hv
  obtain ⟨fuel, hf⟩ := h
  exact bytes_trod ht he hc hf

end

end Go.Proofs.Yteeabfplnaknfaa.Open
end
