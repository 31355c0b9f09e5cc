import Derived.Deep.LoopGhost
import Derived.Deep.MidRow
import Derived.Lib.MinMax
import Derived.Test.YteeabfplnaknfaaZMsgOthers1
import Derived.Test.YteeabfplnaknfaaZMsgOthers2
import Derived.Test.YteeabfplnaknfaaZMsgOthers3
import Derived.Test.YteeabfplnaknfaaZMsgOthers4
import Derived.Test.YteeabfplnaknfaaZMsgOthers5
import Derived.Test.YteeabfplnaknfaaZMsgOthers7
import Derived.Test.YteeabfplnaknfaaZMsgOthers8
import Derived.Test.YteeabfplnaknfaaZMsgOthers9
import Derived.Test.YteeabfplnaknfaaZMsgOthers10
section
set_option linter.unusedVariables false
set_option linter.unusedSimpArgs false
namespace Go.Proofs.Yteeabfplnaknfaa.Mc
open Go.RowKit Go.Proofs.Yteeabfplnaknfaa.Mem Go.Proofs.Yteeabfplnaknfaa.DerP Go.Proofs.Yteeabfplnaknfaa.DerC Go.Proofs.Yteeabfplnaknfaa.Ms

def zA : Array Value := (asC as0).toArray
def zT : Array Value := (tgC tg0 (.slice none 0 0) (.slice none 0 0)).toArray
def zR : Array Value := (reC re0 (.slice none 0 0) (.slice none 0 0)).toArray
def zP : Array Value := (apC ap0 (.slice none 0 0) (.slice none 0 0)).toArray
def zF : Array Value := (faC fa0).toArray
theorem zA_v : AsV zA as0 := rfl
theorem zF_v : FaV zF fa0 := rfl
theorem zT_v (w : World) (B : Nat) : TgV w B zT tg0 := ⟨_, _, rfl, SlB.nil w B, SlB.nil w B⟩
theorem zR_v (w : World) (B : Nat) : ReV w B zR re0 := ⟨_, _, rfl, SlB.nil w B, SlB.nil w B⟩
theorem zP_v (w : World) (B : Nat) : ApV w B zP ap0 := ⟨_, _, rfl, SlB.nil w B, SlB.nil w B⟩
theorem zM_v (w : World) (B : Nat) (k : Int) : MgP w B zA zT zR zP zF ⟨k, as0, tg0, re0, ap0, fa0⟩ := ⟨zA_v, zT_v w B, zR_v w B, zP_v w B, zF_v⟩
def nm (m : Mg) : Mg := if m.k = 1 then ⟨1, m.aq, tg0, re0, ap0, fa0⟩ else if m.k = 2 then ⟨2, as0, m.tg, re0, ap0, fa0⟩ else if m.k = 3 then ⟨3, as0, tg0, m.re, ap0, fa0⟩ else if m.k = 4 then ⟨4, as0, tg0, re0, m.ap, fa0⟩ else if m.k = 5 then ⟨5, as0, tg0, re0, ap0, m.fa⟩ else ⟨m.k, as0, tg0, re0, ap0, fa0⟩
theorem built_mg (k : Int) : Try.prog.built 39 [(0, .int .i64 k)] = some (mgA k zA zT zR zP zF) := by kernel_rfl
set_option maxHeartbeats 12800000 in
set_option maxRecDepth 10000 in
theorem named_any (cs : Array Value) (m : Mg) (w : World) (h : MgV w w.heap.size cs m) : Calls Try.prog 31 #[.agg cs] w fun e w' => ∃ ds, e = .returned (.agg ds) ∧ MgV w' w'.heap.size ds (nm m) ∧ Below w.heap.size w w' := by
  obtain ⟨pa, pt, pr, pp, pf, hc, hp⟩ := h
  obtain ⟨zz, ezz⟩ : ∃ z : Array Value, z = #[.int .i64 0, .string ⟨#[]⟩, .string ⟨#[]⟩, .string ⟨#[]⟩, .string ⟨#[]⟩, .int .i64 0, .int .i64 0, .string ⟨#[]⟩, .string ⟨#[]⟩, .int .i64 0, .slice none 0 0, .slice none 0 0, .string ⟨#[]⟩, .string ⟨#[]⟩, .int .i64 0, .int .i64 0, .string ⟨#[]⟩, .string ⟨#[]⟩, .string ⟨#[]⟩, .string ⟨#[]⟩, .int .i64 0, .slice none 0 0, .slice none 0 0, .string ⟨#[]⟩, .string ⟨#[]⟩, .int .i64 0, .slice none 0 0, .slice none 0 0, .int .i64 0, .int .i64 0] := ⟨_, rfl⟩
  have ez0 : zz = mgA 0 zA zT zR zP zF := by rw [ezz]; rfl
  have hzs : zz.size = 30 := by rw [ez0]; exact (zM_v w 0 0).size 0
  have HZS := Lib.hid hzs
  obtain ⟨W, eW⟩ : ∃ W, W = (w.alloc (.cells cs 39)).alloc (.cells zz 39) := ⟨_, rfl⟩
  have hWs : W.heap.size = w.heap.size + 1 + 1 := by rw [eW]; simp
  have HK := Lib.hid (show Blk W w.heap.size 39 (mgA m.k pa pt pr pp pf) by rw [eW, ← hc]; exact (Blk.new _ _ _).alloc _)
  have hq := Blk.new (w.alloc (.cells cs 39)) 39 zz
  rw [show (w.alloc (.cells cs 39)).heap.size = w.heap.size + 1 by simp, ← eW] at hq
  have HR := Lib.hid hq
  clear hq
  have HG := Lib.hid (show Below w.heap.size w W by rw [eW]; exact ((Below.refl _ _).alloc (Nat.le_refl _) _).alloc (by simp) _)
  have HA := Lib.hid (hp.at_ HK.out)
  have k0 := HA.out.k
  have HP := Lib.hid hp
  have HWS := Lib.hid hWs
  have HBT := Lib.hid (built_mg m.k)
  obtain ⟨c0, ec0⟩ : ∃ c, c = mgA m.k zA zT zR zP zF := ⟨_, rfl⟩
  have hc0 : c0.size = 30 := by rw [ec0]; exact (zM_v w 0 m.k).size m.k
  have HO := Lib.hid (show c0.all (·.oneCell') = true by rw [ec0]; exact (zM_v w 0 m.k).one m.k)
  have HI := Lib.hid (show (Try.prog.info? 39).map (·.size) = some c0.size by rw [hc0]; exact mg_info)
  have HCS := Lib.hid hc0
  rw [← ec0] at HBT
  have EC := Lib.hid ec0
  clear hc hp hWs hzs hc0 ec0 ez0
  by_cases m1 : m.k = 1
  · have y1 : (m.k == 1) = true := by simpa using m1
    have y2 : (m.k == 2) = false := by simp; omega
    have y3 : (m.k == 3) = false := by simp; omega
    have y4 : (m.k == 4) = false := by simp; omega
    have y5 : (m.k == 5) = false := by simp; omega
    have EN := Lib.hid (show nm m = ⟨m.k, m.aq, tg0, re0, ap0, fa0⟩ by rw [nm, if_pos m1, m1])
    clear m1
    have HM := Lib.hid (show MgP w w.heap.size pa zT zR zP zF ⟨m.k, m.aq, tg0, re0, ap0, fa0⟩ from ⟨HP.out.a, zT_v w w.heap.size, zR_v w w.heap.size, zP_v w w.heap.size, zF_v⟩)
    have HDI := Lib.hid (show (Try.prog.info? 39).map (·.size) = some (mgA m.k pa zT zR zP zF).size by rw [HM.out.size]; exact mg_info)
    go_enter Try.func31, Try.ntmps31
    go_upto_region 1 with fail
    rw [← ezz, ← eW]
    clear ezz eW
    go_wp2_with (first
      | (refine wpList_built (by rfl) 39 #[(0, .tmp 5)] (by rfl) c0 (by simp only [List.map_toArray, List.map_cons, List.map_nil]; exact HBT.out) ?_)
      | (refine wpList_store_mid (by rfl) 39 (.tmp 3) (.tmp 6) (by rfl) W.heap.size 0 c0 (by rfl) (by rfl) (there_blk (Blk.new W 39 #[.int .i64 0, .string ⟨#[]⟩, .string ⟨#[]⟩, .string ⟨#[]⟩, .string ⟨#[]⟩, .int .i64 0, .int .i64 0, .string ⟨#[]⟩, .string ⟨#[]⟩, .int .i64 0, .slice none 0 0, .slice none 0 0, .string ⟨#[]⟩, .string ⟨#[]⟩, .int .i64 0, .int .i64 0, .string ⟨#[]⟩, .string ⟨#[]⟩, .string ⟨#[]⟩, .string ⟨#[]⟩, .int .i64 0, .slice none 0 0, .slice none 0 0, .string ⟨#[]⟩, .string ⟨#[]⟩, .int .i64 0, .slice none 0 0, .slice none 0 0, .int .i64 0, .int .i64 0]) _ (by have := HCS.out; simp; omega)) HI.out HO.out ?_; have hV := stored_new W 39 #[.int .i64 0, .string ⟨#[]⟩, .string ⟨#[]⟩, .string ⟨#[]⟩, .string ⟨#[]⟩, .int .i64 0, .int .i64 0, .string ⟨#[]⟩, .string ⟨#[]⟩, .int .i64 0, .slice none 0 0, .slice none 0 0, .string ⟨#[]⟩, .string ⟨#[]⟩, .int .i64 0, .int .i64 0, .string ⟨#[]⟩, .string ⟨#[]⟩, .string ⟨#[]⟩, .string ⟨#[]⟩, .int .i64 0, .slice none 0 0, .slice none 0 0, .string ⟨#[]⟩, .string ⟨#[]⟩, .int .i64 0, .slice none 0 0, .slice none 0 0, .int .i64 0, .int .i64 0] c0 (by have := HCS.out; simp; omega); generalize ((W.alloc (.cells #[.int .i64 0, .string ⟨#[]⟩, .string ⟨#[]⟩, .string ⟨#[]⟩, .string ⟨#[]⟩, .int .i64 0, .int .i64 0, .string ⟨#[]⟩, .string ⟨#[]⟩, .int .i64 0, .slice none 0 0, .slice none 0 0, .string ⟨#[]⟩, .string ⟨#[]⟩, .int .i64 0, .int .i64 0, .string ⟨#[]⟩, .string ⟨#[]⟩, .string ⟨#[]⟩, .string ⟨#[]⟩, .int .i64 0, .slice none 0 0, .slice none 0 0, .string ⟨#[]⟩, .string ⟨#[]⟩, .int .i64 0, .slice none 0 0, .slice none 0 0, .int .i64 0, .int .i64 0] 39)).setCells W.heap.size 0 c0.toList) = V at hV ⊢; have HX := Lib.hid (show Blk V W.heap.size 39 (mgA m.k zA zT zR zP zF) from EC.out ▸ hV.1); replace HK := Lib.hid (HK.out.below hV.2); replace HR := Lib.hid (HR.out.below hV.2); replace HG := Lib.hid (HG.out.trans (hV.2.mono HG.out.size)); clear hV HA k0; have HA := Lib.hid (HP.out.at_ HK.out); have k0 := HA.out.k)
      | (refine load_cells (by rfl) 25 (.tmp 11) (by rfl) w.heap.size 1 (by rfl) pa _ HA.out.a Try.underlying25 (by rfl) (by rw [HP.out.a.size]; exact as_info) ?_)
      | (refine wpList_store_mid (by rfl) 25 (.tmp 13) (.tmp 12) (by rfl) W.heap.size 1 pa (by rfl) (by rfl) (there_mid HX.out 1 _ (by rw [(zM_v W 0 m.k).size m.k, HP.out.a.size]; omega)) (by rw [HP.out.a.size]; exact as_info) HP.out.a.one ?_; have hX := blk_mid (ps := pa) (ds := mgA m.k pa zT zR zP zF) (pre := [.int .i64 m.k]) (mid := zA.toList) (post := zT.toList ++ zR.toList ++ zP.toList ++ zF.toList) (o := 1) HX.out (by simp [mgA]) (by rfl) (by rw [HP.out.a.size]; rfl) (by simp [mgA]); have hpm := put_mid V W.heap.size 1 pa.toList; generalize V.setCells W.heap.size 1 pa.toList = V2 at hX hpm ⊢; replace HX := Lib.hid hX; replace HR := Lib.hid (HR.out.grown hpm (by intro e; injection e with e; have := HWS.out; omega)); replace HG := Lib.hid (below_g HG.out hpm HG.out.size (by have := HWS.out; omega)); clear hX hpm HA HK k0)
      | (refine load_cells (by rfl) 39 (.tmp 3) (by rfl) W.heap.size 0 (by rfl) (mgA m.k pa zT zR zP zF) _ (range_blk HX.out) Try.underlying39 (by rfl) HDI.out ?_)
      | (refine wpList_store_mid (by rfl) 39 (.tmp 2) (.tmp 34) (by rfl) (w.heap.size + 1) 0 (mgA m.k pa zT zR zP zF) (by rfl) (by rfl) (there_blk HR.out _ (by rw [HM.out.size]; have := HZS.out; omega)) HDI.out (HM.out.one _) ?_)
      | fail)
    have hE := blk_cells (ds := mgA m.k pa zT zR zP zF) HR.out (by rw [HM.out.size]; have := HZS.out; omega)
    have hp := put_cells V2 (w.heap.size + 1) (mgA m.k pa zT zR zP zF).toList
    have hq := load_blk (P := Try.prog) hE Try.underlying39 rfl HDI.out
    refine bodyPost_ret (v := .agg (mgA m.k pa zT zR zP zF)) ?_ ?_ ?_
    · exact results_cell 2 39 ⟨w.heap.size + 1, 0, none⟩ Try.results31 rfl hq
    · rfl
    have hB := below_g HG.out hp HG.out.size (by omega)
    refine ⟨_, rfl, ?_, hB⟩
    rw [EN.out]
    exact ⟨pa, zT, zR, zP, zF, rfl, (HM.out.keep hB).more hB.size⟩
  · have nm1 := m1
    by_cases m2 : m.k = 2
    · have y1 : (m.k == 1) = false := by simp; omega
      have y2 : (m.k == 2) = true := by simpa using m2
      have y3 : (m.k == 3) = false := by simp; omega
      have y4 : (m.k == 4) = false := by simp; omega
      have y5 : (m.k == 5) = false := by simp; omega
      have EN := Lib.hid (show nm m = ⟨m.k, as0, m.tg, re0, ap0, fa0⟩ by rw [nm, if_neg m1, if_pos m2, m2])
      clear m1 m2
      have HM := Lib.hid (show MgP w w.heap.size zA pt zR zP zF ⟨m.k, as0, m.tg, re0, ap0, fa0⟩ from ⟨zA_v, HP.out.t, zR_v w w.heap.size, zP_v w w.heap.size, zF_v⟩)
      have HDI := Lib.hid (show (Try.prog.info? 39).map (·.size) = some (mgA m.k zA pt zR zP zF).size by rw [HM.out.size]; exact mg_info)
      go_enter Try.func31, Try.ntmps31
      go_upto_region 1 with fail
      rw [← ezz, ← eW]
      clear ezz eW
      go_wp2_with (first
        | (refine wpList_built (by rfl) 39 #[(0, .tmp 5)] (by rfl) c0 (by simp only [List.map_toArray, List.map_cons, List.map_nil]; exact HBT.out) ?_)
        | (refine wpList_store_mid (by rfl) 39 (.tmp 3) (.tmp 6) (by rfl) W.heap.size 0 c0 (by rfl) (by rfl) (there_blk (Blk.new W 39 #[.int .i64 0, .string ⟨#[]⟩, .string ⟨#[]⟩, .string ⟨#[]⟩, .string ⟨#[]⟩, .int .i64 0, .int .i64 0, .string ⟨#[]⟩, .string ⟨#[]⟩, .int .i64 0, .slice none 0 0, .slice none 0 0, .string ⟨#[]⟩, .string ⟨#[]⟩, .int .i64 0, .int .i64 0, .string ⟨#[]⟩, .string ⟨#[]⟩, .string ⟨#[]⟩, .string ⟨#[]⟩, .int .i64 0, .slice none 0 0, .slice none 0 0, .string ⟨#[]⟩, .string ⟨#[]⟩, .int .i64 0, .slice none 0 0, .slice none 0 0, .int .i64 0, .int .i64 0]) _ (by have := HCS.out; simp; omega)) HI.out HO.out ?_; have hV := stored_new W 39 #[.int .i64 0, .string ⟨#[]⟩, .string ⟨#[]⟩, .string ⟨#[]⟩, .string ⟨#[]⟩, .int .i64 0, .int .i64 0, .string ⟨#[]⟩, .string ⟨#[]⟩, .int .i64 0, .slice none 0 0, .slice none 0 0, .string ⟨#[]⟩, .string ⟨#[]⟩, .int .i64 0, .int .i64 0, .string ⟨#[]⟩, .string ⟨#[]⟩, .string ⟨#[]⟩, .string ⟨#[]⟩, .int .i64 0, .slice none 0 0, .slice none 0 0, .string ⟨#[]⟩, .string ⟨#[]⟩, .int .i64 0, .slice none 0 0, .slice none 0 0, .int .i64 0, .int .i64 0] c0 (by have := HCS.out; simp; omega); generalize ((W.alloc (.cells #[.int .i64 0, .string ⟨#[]⟩, .string ⟨#[]⟩, .string ⟨#[]⟩, .string ⟨#[]⟩, .int .i64 0, .int .i64 0, .string ⟨#[]⟩, .string ⟨#[]⟩, .int .i64 0, .slice none 0 0, .slice none 0 0, .string ⟨#[]⟩, .string ⟨#[]⟩, .int .i64 0, .int .i64 0, .string ⟨#[]⟩, .string ⟨#[]⟩, .string ⟨#[]⟩, .string ⟨#[]⟩, .int .i64 0, .slice none 0 0, .slice none 0 0, .string ⟨#[]⟩, .string ⟨#[]⟩, .int .i64 0, .slice none 0 0, .slice none 0 0, .int .i64 0, .int .i64 0] 39)).setCells W.heap.size 0 c0.toList) = V at hV ⊢; have HX := Lib.hid (show Blk V W.heap.size 39 (mgA m.k zA zT zR zP zF) from EC.out ▸ hV.1); replace HK := Lib.hid (HK.out.below hV.2); replace HR := Lib.hid (HR.out.below hV.2); replace HG := Lib.hid (HG.out.trans (hV.2.mono HG.out.size)); clear hV HA k0; have HA := Lib.hid (HP.out.at_ HK.out); have k0 := HA.out.k)
        | (refine load_cells (by rfl) 30 (.tmp 16) (by rfl) w.heap.size 7 (by rfl) pt _ HA.out.t Try.underlying30 (by rfl) (by rw [HP.out.t.size]; exact tg_info) ?_)
        | (refine wpList_store_mid (by rfl) 30 (.tmp 18) (.tmp 17) (by rfl) W.heap.size 7 pt (by rfl) (by rfl) (there_mid HX.out 7 _ (by rw [(zM_v W 0 m.k).size m.k, HP.out.t.size]; omega)) (by rw [HP.out.t.size]; exact tg_info) HP.out.t.one ?_; have hX := blk_mid (ps := pt) (ds := mgA m.k zA pt zR zP zF) (pre := [.int .i64 m.k] ++ zA.toList) (mid := zT.toList) (post := zR.toList ++ zP.toList ++ zF.toList) (o := 7) HX.out (by simp [mgA]) (by rfl) (by rw [HP.out.t.size]; rfl) (by simp [mgA]); have hpm := put_mid V W.heap.size 7 pt.toList; generalize V.setCells W.heap.size 7 pt.toList = V2 at hX hpm ⊢; replace HX := Lib.hid hX; replace HR := Lib.hid (HR.out.grown hpm (by intro e; injection e with e; have := HWS.out; omega)); replace HG := Lib.hid (below_g HG.out hpm HG.out.size (by have := HWS.out; omega)); clear hX hpm HA HK k0)
        | (refine load_cells (by rfl) 39 (.tmp 3) (by rfl) W.heap.size 0 (by rfl) (mgA m.k zA pt zR zP zF) _ (range_blk HX.out) Try.underlying39 (by rfl) HDI.out ?_)
        | (refine wpList_store_mid (by rfl) 39 (.tmp 2) (.tmp 34) (by rfl) (w.heap.size + 1) 0 (mgA m.k zA pt zR zP zF) (by rfl) (by rfl) (there_blk HR.out _ (by rw [HM.out.size]; have := HZS.out; omega)) HDI.out (HM.out.one _) ?_)
        | fail)
      have hE := blk_cells (ds := mgA m.k zA pt zR zP zF) HR.out (by rw [HM.out.size]; have := HZS.out; omega)
      have hp := put_cells V2 (w.heap.size + 1) (mgA m.k zA pt zR zP zF).toList
      have hq := load_blk (P := Try.prog) hE Try.underlying39 rfl HDI.out
      refine bodyPost_ret (v := .agg (mgA m.k zA pt zR zP zF)) ?_ ?_ ?_
      · exact results_cell 2 39 ⟨w.heap.size + 1, 0, none⟩ Try.results31 rfl hq
      · rfl
      have hB := below_g HG.out hp HG.out.size (by omega)
      refine ⟨_, rfl, ?_, hB⟩
      rw [EN.out]
      exact ⟨zA, pt, zR, zP, zF, rfl, (HM.out.keep hB).more hB.size⟩
    · have nm2 := m2
      by_cases m3 : m.k = 3
      · have y1 : (m.k == 1) = false := by simp; omega
        have y2 : (m.k == 2) = false := by simp; omega
        have y3 : (m.k == 3) = true := by simpa using m3
        have y4 : (m.k == 4) = false := by simp; omega
        have y5 : (m.k == 5) = false := by simp; omega
        have EN := Lib.hid (show nm m = ⟨m.k, as0, tg0, m.re, ap0, fa0⟩ by rw [nm, if_neg m1, if_neg m2, if_pos m3, m3])
        clear m1 m2 m3
        have HM := Lib.hid (show MgP w w.heap.size zA zT pr zP zF ⟨m.k, as0, tg0, m.re, ap0, fa0⟩ from ⟨zA_v, zT_v w w.heap.size, HP.out.r, zP_v w w.heap.size, zF_v⟩)
        have HDI := Lib.hid (show (Try.prog.info? 39).map (·.size) = some (mgA m.k zA zT pr zP zF).size by rw [HM.out.size]; exact mg_info)
        go_enter Try.func31, Try.ntmps31
        go_upto_region 1 with fail
        rw [← ezz, ← eW]
        clear ezz eW
        go_wp2_with (first
          | (refine wpList_built (by rfl) 39 #[(0, .tmp 5)] (by rfl) c0 (by simp only [List.map_toArray, List.map_cons, List.map_nil]; exact HBT.out) ?_)
          | (refine wpList_store_mid (by rfl) 39 (.tmp 3) (.tmp 6) (by rfl) W.heap.size 0 c0 (by rfl) (by rfl) (there_blk (Blk.new W 39 #[.int .i64 0, .string ⟨#[]⟩, .string ⟨#[]⟩, .string ⟨#[]⟩, .string ⟨#[]⟩, .int .i64 0, .int .i64 0, .string ⟨#[]⟩, .string ⟨#[]⟩, .int .i64 0, .slice none 0 0, .slice none 0 0, .string ⟨#[]⟩, .string ⟨#[]⟩, .int .i64 0, .int .i64 0, .string ⟨#[]⟩, .string ⟨#[]⟩, .string ⟨#[]⟩, .string ⟨#[]⟩, .int .i64 0, .slice none 0 0, .slice none 0 0, .string ⟨#[]⟩, .string ⟨#[]⟩, .int .i64 0, .slice none 0 0, .slice none 0 0, .int .i64 0, .int .i64 0]) _ (by have := HCS.out; simp; omega)) HI.out HO.out ?_; have hV := stored_new W 39 #[.int .i64 0, .string ⟨#[]⟩, .string ⟨#[]⟩, .string ⟨#[]⟩, .string ⟨#[]⟩, .int .i64 0, .int .i64 0, .string ⟨#[]⟩, .string ⟨#[]⟩, .int .i64 0, .slice none 0 0, .slice none 0 0, .string ⟨#[]⟩, .string ⟨#[]⟩, .int .i64 0, .int .i64 0, .string ⟨#[]⟩, .string ⟨#[]⟩, .string ⟨#[]⟩, .string ⟨#[]⟩, .int .i64 0, .slice none 0 0, .slice none 0 0, .string ⟨#[]⟩, .string ⟨#[]⟩, .int .i64 0, .slice none 0 0, .slice none 0 0, .int .i64 0, .int .i64 0] c0 (by have := HCS.out; simp; omega); generalize ((W.alloc (.cells #[.int .i64 0, .string ⟨#[]⟩, .string ⟨#[]⟩, .string ⟨#[]⟩, .string ⟨#[]⟩, .int .i64 0, .int .i64 0, .string ⟨#[]⟩, .string ⟨#[]⟩, .int .i64 0, .slice none 0 0, .slice none 0 0, .string ⟨#[]⟩, .string ⟨#[]⟩, .int .i64 0, .int .i64 0, .string ⟨#[]⟩, .string ⟨#[]⟩, .string ⟨#[]⟩, .string ⟨#[]⟩, .int .i64 0, .slice none 0 0, .slice none 0 0, .string ⟨#[]⟩, .string ⟨#[]⟩, .int .i64 0, .slice none 0 0, .slice none 0 0, .int .i64 0, .int .i64 0] 39)).setCells W.heap.size 0 c0.toList) = V at hV ⊢; have HX := Lib.hid (show Blk V W.heap.size 39 (mgA m.k zA zT zR zP zF) from EC.out ▸ hV.1); replace HK := Lib.hid (HK.out.below hV.2); replace HR := Lib.hid (HR.out.below hV.2); replace HG := Lib.hid (HG.out.trans (hV.2.mono HG.out.size)); clear hV HA k0; have HA := Lib.hid (HP.out.at_ HK.out); have k0 := HA.out.k)
          | (refine load_cells (by rfl) 32 (.tmp 21) (by rfl) w.heap.size 16 (by rfl) pr _ HA.out.r Try.underlying32 (by rfl) (by rw [HP.out.r.size]; exact re_info) ?_)
          | (refine wpList_store_mid (by rfl) 32 (.tmp 23) (.tmp 22) (by rfl) W.heap.size 16 pr (by rfl) (by rfl) (there_mid HX.out 16 _ (by rw [(zM_v W 0 m.k).size m.k, HP.out.r.size]; omega)) (by rw [HP.out.r.size]; exact re_info) HP.out.r.one ?_; have hX := blk_mid (ps := pr) (ds := mgA m.k zA zT pr zP zF) (pre := [.int .i64 m.k] ++ zA.toList ++ zT.toList) (mid := zR.toList) (post := zP.toList ++ zF.toList) (o := 16) HX.out (by simp [mgA]) (by rfl) (by rw [HP.out.r.size]; rfl) (by simp [mgA]); have hpm := put_mid V W.heap.size 16 pr.toList; generalize V.setCells W.heap.size 16 pr.toList = V2 at hX hpm ⊢; replace HX := Lib.hid hX; replace HR := Lib.hid (HR.out.grown hpm (by intro e; injection e with e; have := HWS.out; omega)); replace HG := Lib.hid (below_g HG.out hpm HG.out.size (by have := HWS.out; omega)); clear hX hpm HA HK k0)
          | (refine load_cells (by rfl) 39 (.tmp 3) (by rfl) W.heap.size 0 (by rfl) (mgA m.k zA zT pr zP zF) _ (range_blk HX.out) Try.underlying39 (by rfl) HDI.out ?_)
          | (refine wpList_store_mid (by rfl) 39 (.tmp 2) (.tmp 34) (by rfl) (w.heap.size + 1) 0 (mgA m.k zA zT pr zP zF) (by rfl) (by rfl) (there_blk HR.out _ (by rw [HM.out.size]; have := HZS.out; omega)) HDI.out (HM.out.one _) ?_)
          | fail)
        have hE := blk_cells (ds := mgA m.k zA zT pr zP zF) HR.out (by rw [HM.out.size]; have := HZS.out; omega)
        have hp := put_cells V2 (w.heap.size + 1) (mgA m.k zA zT pr zP zF).toList
        have hq := load_blk (P := Try.prog) hE Try.underlying39 rfl HDI.out
        refine bodyPost_ret (v := .agg (mgA m.k zA zT pr zP zF)) ?_ ?_ ?_
        · exact results_cell 2 39 ⟨w.heap.size + 1, 0, none⟩ Try.results31 rfl hq
        · rfl
        have hB := below_g HG.out hp HG.out.size (by omega)
        refine ⟨_, rfl, ?_, hB⟩
        rw [EN.out]
        exact ⟨zA, zT, pr, zP, zF, rfl, (HM.out.keep hB).more hB.size⟩
      · have nm3 := m3
        by_cases m4 : m.k = 4
        · have y1 : (m.k == 1) = false := by simp; omega
          have y2 : (m.k == 2) = false := by simp; omega
          have y3 : (m.k == 3) = false := by simp; omega
          have y4 : (m.k == 4) = true := by simpa using m4
          have y5 : (m.k == 5) = false := by simp; omega
          have EN := Lib.hid (show nm m = ⟨m.k, as0, tg0, re0, m.ap, fa0⟩ by rw [nm, if_neg m1, if_neg m2, if_neg m3, if_pos m4, m4])
          clear m1 m2 m3 m4
          have HM := Lib.hid (show MgP w w.heap.size zA zT zR pp zF ⟨m.k, as0, tg0, re0, m.ap, fa0⟩ from ⟨zA_v, zT_v w w.heap.size, zR_v w w.heap.size, HP.out.p, zF_v⟩)
          have HDI := Lib.hid (show (Try.prog.info? 39).map (·.size) = some (mgA m.k zA zT zR pp zF).size by rw [HM.out.size]; exact mg_info)
          go_enter Try.func31, Try.ntmps31
          go_upto_region 1 with fail
          rw [← ezz, ← eW]
          clear ezz eW
          go_wp2_with (first
            | (refine wpList_built (by rfl) 39 #[(0, .tmp 5)] (by rfl) c0 (by simp only [List.map_toArray, List.map_cons, List.map_nil]; exact HBT.out) ?_)
            | (refine wpList_store_mid (by rfl) 39 (.tmp 3) (.tmp 6) (by rfl) W.heap.size 0 c0 (by rfl) (by rfl) (there_blk (Blk.new W 39 #[.int .i64 0, .string ⟨#[]⟩, .string ⟨#[]⟩, .string ⟨#[]⟩, .string ⟨#[]⟩, .int .i64 0, .int .i64 0, .string ⟨#[]⟩, .string ⟨#[]⟩, .int .i64 0, .slice none 0 0, .slice none 0 0, .string ⟨#[]⟩, .string ⟨#[]⟩, .int .i64 0, .int .i64 0, .string ⟨#[]⟩, .string ⟨#[]⟩, .string ⟨#[]⟩, .string ⟨#[]⟩, .int .i64 0, .slice none 0 0, .slice none 0 0, .string ⟨#[]⟩, .string ⟨#[]⟩, .int .i64 0, .slice none 0 0, .slice none 0 0, .int .i64 0, .int .i64 0]) _ (by have := HCS.out; simp; omega)) HI.out HO.out ?_; have hV := stored_new W 39 #[.int .i64 0, .string ⟨#[]⟩, .string ⟨#[]⟩, .string ⟨#[]⟩, .string ⟨#[]⟩, .int .i64 0, .int .i64 0, .string ⟨#[]⟩, .string ⟨#[]⟩, .int .i64 0, .slice none 0 0, .slice none 0 0, .string ⟨#[]⟩, .string ⟨#[]⟩, .int .i64 0, .int .i64 0, .string ⟨#[]⟩, .string ⟨#[]⟩, .string ⟨#[]⟩, .string ⟨#[]⟩, .int .i64 0, .slice none 0 0, .slice none 0 0, .string ⟨#[]⟩, .string ⟨#[]⟩, .int .i64 0, .slice none 0 0, .slice none 0 0, .int .i64 0, .int .i64 0] c0 (by have := HCS.out; simp; omega); generalize ((W.alloc (.cells #[.int .i64 0, .string ⟨#[]⟩, .string ⟨#[]⟩, .string ⟨#[]⟩, .string ⟨#[]⟩, .int .i64 0, .int .i64 0, .string ⟨#[]⟩, .string ⟨#[]⟩, .int .i64 0, .slice none 0 0, .slice none 0 0, .string ⟨#[]⟩, .string ⟨#[]⟩, .int .i64 0, .int .i64 0, .string ⟨#[]⟩, .string ⟨#[]⟩, .string ⟨#[]⟩, .string ⟨#[]⟩, .int .i64 0, .slice none 0 0, .slice none 0 0, .string ⟨#[]⟩, .string ⟨#[]⟩, .int .i64 0, .slice none 0 0, .slice none 0 0, .int .i64 0, .int .i64 0] 39)).setCells W.heap.size 0 c0.toList) = V at hV ⊢; have HX := Lib.hid (show Blk V W.heap.size 39 (mgA m.k zA zT zR zP zF) from EC.out ▸ hV.1); replace HK := Lib.hid (HK.out.below hV.2); replace HR := Lib.hid (HR.out.below hV.2); replace HG := Lib.hid (HG.out.trans (hV.2.mono HG.out.size)); clear hV HA k0; have HA := Lib.hid (HP.out.at_ HK.out); have k0 := HA.out.k)
            | (refine load_cells (by rfl) 34 (.tmp 26) (by rfl) w.heap.size 23 (by rfl) pp _ HA.out.p Try.underlying34 (by rfl) (by rw [HP.out.p.size]; exact ap_info) ?_)
            | (refine wpList_store_mid (by rfl) 34 (.tmp 28) (.tmp 27) (by rfl) W.heap.size 23 pp (by rfl) (by rfl) (there_mid HX.out 23 _ (by rw [(zM_v W 0 m.k).size m.k, HP.out.p.size]; omega)) (by rw [HP.out.p.size]; exact ap_info) HP.out.p.one ?_; have hX := blk_mid (ps := pp) (ds := mgA m.k zA zT zR pp zF) (pre := [.int .i64 m.k] ++ zA.toList ++ zT.toList ++ zR.toList) (mid := zP.toList) (post := zF.toList) (o := 23) HX.out (by simp [mgA]) (by rfl) (by rw [HP.out.p.size]; rfl) (by simp [mgA]); have hpm := put_mid V W.heap.size 23 pp.toList; generalize V.setCells W.heap.size 23 pp.toList = V2 at hX hpm ⊢; replace HX := Lib.hid hX; replace HR := Lib.hid (HR.out.grown hpm (by intro e; injection e with e; have := HWS.out; omega)); replace HG := Lib.hid (below_g HG.out hpm HG.out.size (by have := HWS.out; omega)); clear hX hpm HA HK k0)
            | (refine load_cells (by rfl) 39 (.tmp 3) (by rfl) W.heap.size 0 (by rfl) (mgA m.k zA zT zR pp zF) _ (range_blk HX.out) Try.underlying39 (by rfl) HDI.out ?_)
            | (refine wpList_store_mid (by rfl) 39 (.tmp 2) (.tmp 34) (by rfl) (w.heap.size + 1) 0 (mgA m.k zA zT zR pp zF) (by rfl) (by rfl) (there_blk HR.out _ (by rw [HM.out.size]; have := HZS.out; omega)) HDI.out (HM.out.one _) ?_)
            | fail)
          have hE := blk_cells (ds := mgA m.k zA zT zR pp zF) HR.out (by rw [HM.out.size]; have := HZS.out; omega)
          have hp := put_cells V2 (w.heap.size + 1) (mgA m.k zA zT zR pp zF).toList
          have hq := load_blk (P := Try.prog) hE Try.underlying39 rfl HDI.out
          refine bodyPost_ret (v := .agg (mgA m.k zA zT zR pp zF)) ?_ ?_ ?_
          · exact results_cell 2 39 ⟨w.heap.size + 1, 0, none⟩ Try.results31 rfl hq
          · rfl
          have hB := below_g HG.out hp HG.out.size (by omega)
          refine ⟨_, rfl, ?_, hB⟩
          rw [EN.out]
          exact ⟨zA, zT, zR, pp, zF, rfl, (HM.out.keep hB).more hB.size⟩
        · have nm4 := m4
          by_cases m5 : m.k = 5
          · have y1 : (m.k == 1) = false := by simp; omega
            have y2 : (m.k == 2) = false := by simp; omega
            have y3 : (m.k == 3) = false := by simp; omega
            have y4 : (m.k == 4) = false := by simp; omega
            have y5 : (m.k == 5) = true := by simpa using m5
            have EN := Lib.hid (show nm m = ⟨m.k, as0, tg0, re0, ap0, m.fa⟩ by rw [nm, if_neg m1, if_neg m2, if_neg m3, if_neg m4, if_pos m5, m5])
            clear m1 m2 m3 m4 m5
            have HM := Lib.hid (show MgP w w.heap.size zA zT zR zP pf ⟨m.k, as0, tg0, re0, ap0, m.fa⟩ from ⟨zA_v, zT_v w w.heap.size, zR_v w w.heap.size, zP_v w w.heap.size, HP.out.f⟩)
            have HDI := Lib.hid (show (Try.prog.info? 39).map (·.size) = some (mgA m.k zA zT zR zP pf).size by rw [HM.out.size]; exact mg_info)
            go_enter Try.func31, Try.ntmps31
            go_upto_region 1 with fail
            rw [← ezz, ← eW]
            clear ezz eW
            go_wp2_with (first
              | (refine wpList_built (by rfl) 39 #[(0, .tmp 5)] (by rfl) c0 (by simp only [List.map_toArray, List.map_cons, List.map_nil]; exact HBT.out) ?_)
              | (refine wpList_store_mid (by rfl) 39 (.tmp 3) (.tmp 6) (by rfl) W.heap.size 0 c0 (by rfl) (by rfl) (there_blk (Blk.new W 39 #[.int .i64 0, .string ⟨#[]⟩, .string ⟨#[]⟩, .string ⟨#[]⟩, .string ⟨#[]⟩, .int .i64 0, .int .i64 0, .string ⟨#[]⟩, .string ⟨#[]⟩, .int .i64 0, .slice none 0 0, .slice none 0 0, .string ⟨#[]⟩, .string ⟨#[]⟩, .int .i64 0, .int .i64 0, .string ⟨#[]⟩, .string ⟨#[]⟩, .string ⟨#[]⟩, .string ⟨#[]⟩, .int .i64 0, .slice none 0 0, .slice none 0 0, .string ⟨#[]⟩, .string ⟨#[]⟩, .int .i64 0, .slice none 0 0, .slice none 0 0, .int .i64 0, .int .i64 0]) _ (by have := HCS.out; simp; omega)) HI.out HO.out ?_; have hV := stored_new W 39 #[.int .i64 0, .string ⟨#[]⟩, .string ⟨#[]⟩, .string ⟨#[]⟩, .string ⟨#[]⟩, .int .i64 0, .int .i64 0, .string ⟨#[]⟩, .string ⟨#[]⟩, .int .i64 0, .slice none 0 0, .slice none 0 0, .string ⟨#[]⟩, .string ⟨#[]⟩, .int .i64 0, .int .i64 0, .string ⟨#[]⟩, .string ⟨#[]⟩, .string ⟨#[]⟩, .string ⟨#[]⟩, .int .i64 0, .slice none 0 0, .slice none 0 0, .string ⟨#[]⟩, .string ⟨#[]⟩, .int .i64 0, .slice none 0 0, .slice none 0 0, .int .i64 0, .int .i64 0] c0 (by have := HCS.out; simp; omega); generalize ((W.alloc (.cells #[.int .i64 0, .string ⟨#[]⟩, .string ⟨#[]⟩, .string ⟨#[]⟩, .string ⟨#[]⟩, .int .i64 0, .int .i64 0, .string ⟨#[]⟩, .string ⟨#[]⟩, .int .i64 0, .slice none 0 0, .slice none 0 0, .string ⟨#[]⟩, .string ⟨#[]⟩, .int .i64 0, .int .i64 0, .string ⟨#[]⟩, .string ⟨#[]⟩, .string ⟨#[]⟩, .string ⟨#[]⟩, .int .i64 0, .slice none 0 0, .slice none 0 0, .string ⟨#[]⟩, .string ⟨#[]⟩, .int .i64 0, .slice none 0 0, .slice none 0 0, .int .i64 0, .int .i64 0] 39)).setCells W.heap.size 0 c0.toList) = V at hV ⊢; have HX := Lib.hid (show Blk V W.heap.size 39 (mgA m.k zA zT zR zP zF) from EC.out ▸ hV.1); replace HK := Lib.hid (HK.out.below hV.2); replace HR := Lib.hid (HR.out.below hV.2); replace HG := Lib.hid (HG.out.trans (hV.2.mono HG.out.size)); clear hV HA k0; have HA := Lib.hid (HP.out.at_ HK.out); have k0 := HA.out.k)
              | (refine load_cells (by rfl) 37 (.tmp 31) (by rfl) w.heap.size 28 (by rfl) pf _ HA.out.f Try.underlying37 (by rfl) (by rw [HP.out.f.size]; exact fa_info) ?_)
              | (refine wpList_store_mid (by rfl) 37 (.tmp 33) (.tmp 32) (by rfl) W.heap.size 28 pf (by rfl) (by rfl) (there_mid HX.out 28 _ (by rw [(zM_v W 0 m.k).size m.k, HP.out.f.size]; omega)) (by rw [HP.out.f.size]; exact fa_info) HP.out.f.one ?_; have hX := blk_mid (ps := pf) (ds := mgA m.k zA zT zR zP pf) (pre := [.int .i64 m.k] ++ zA.toList ++ zT.toList ++ zR.toList ++ zP.toList) (mid := zF.toList) (post := []) (o := 28) HX.out (by simp [mgA]) (by rfl) (by rw [HP.out.f.size]; rfl) (by simp [mgA]); have hpm := put_mid V W.heap.size 28 pf.toList; generalize V.setCells W.heap.size 28 pf.toList = V2 at hX hpm ⊢; replace HX := Lib.hid hX; replace HR := Lib.hid (HR.out.grown hpm (by intro e; injection e with e; have := HWS.out; omega)); replace HG := Lib.hid (below_g HG.out hpm HG.out.size (by have := HWS.out; omega)); clear hX hpm HA HK k0)
              | (refine load_cells (by rfl) 39 (.tmp 3) (by rfl) W.heap.size 0 (by rfl) (mgA m.k zA zT zR zP pf) _ (range_blk HX.out) Try.underlying39 (by rfl) HDI.out ?_)
              | (refine wpList_store_mid (by rfl) 39 (.tmp 2) (.tmp 34) (by rfl) (w.heap.size + 1) 0 (mgA m.k zA zT zR zP pf) (by rfl) (by rfl) (there_blk HR.out _ (by rw [HM.out.size]; have := HZS.out; omega)) HDI.out (HM.out.one _) ?_)
              | fail)
            have hE := blk_cells (ds := mgA m.k zA zT zR zP pf) HR.out (by rw [HM.out.size]; have := HZS.out; omega)
            have hp := put_cells V2 (w.heap.size + 1) (mgA m.k zA zT zR zP pf).toList
            have hq := load_blk (P := Try.prog) hE Try.underlying39 rfl HDI.out
            refine bodyPost_ret (v := .agg (mgA m.k zA zT zR zP pf)) ?_ ?_ ?_
            · exact results_cell 2 39 ⟨w.heap.size + 1, 0, none⟩ Try.results31 rfl hq
            · rfl
            have hB := below_g HG.out hp HG.out.size (by omega)
            refine ⟨_, rfl, ?_, hB⟩
            rw [EN.out]
            exact ⟨zA, zT, zR, zP, pf, rfl, (HM.out.keep hB).more hB.size⟩
          · have nm5 := m5
            have y1 : (m.k == 1) = false := by simp; omega
            have y2 : (m.k == 2) = false := by simp; omega
            have y3 : (m.k == 3) = false := by simp; omega
            have y4 : (m.k == 4) = false := by simp; omega
            have y5 : (m.k == 5) = false := by simp; omega
            have EN := Lib.hid (show nm m = ⟨m.k, as0, tg0, re0, ap0, fa0⟩ by rw [nm, if_neg m1, if_neg m2, if_neg m3, if_neg m4, if_neg m5])
            clear m1 m2 m3 m4 m5
            have HM := Lib.hid (show MgP w w.heap.size zA zT zR zP zF ⟨m.k, as0, tg0, re0, ap0, fa0⟩ from ⟨zA_v, zT_v w w.heap.size, zR_v w w.heap.size, zP_v w w.heap.size, zF_v⟩)
            have HDI := Lib.hid (show (Try.prog.info? 39).map (·.size) = some (mgA m.k zA zT zR zP zF).size by rw [HM.out.size]; exact mg_info)
            go_enter Try.func31, Try.ntmps31
            go_upto_region 1 with fail
            rw [← ezz, ← eW]
            clear ezz eW
            go_wp2_with (first
              | (refine wpList_built (by rfl) 39 #[(0, .tmp 5)] (by rfl) c0 (by simp only [List.map_toArray, List.map_cons, List.map_nil]; exact HBT.out) ?_)
              | (refine wpList_store_mid (by rfl) 39 (.tmp 3) (.tmp 6) (by rfl) W.heap.size 0 c0 (by rfl) (by rfl) (there_blk (Blk.new W 39 #[.int .i64 0, .string ⟨#[]⟩, .string ⟨#[]⟩, .string ⟨#[]⟩, .string ⟨#[]⟩, .int .i64 0, .int .i64 0, .string ⟨#[]⟩, .string ⟨#[]⟩, .int .i64 0, .slice none 0 0, .slice none 0 0, .string ⟨#[]⟩, .string ⟨#[]⟩, .int .i64 0, .int .i64 0, .string ⟨#[]⟩, .string ⟨#[]⟩, .string ⟨#[]⟩, .string ⟨#[]⟩, .int .i64 0, .slice none 0 0, .slice none 0 0, .string ⟨#[]⟩, .string ⟨#[]⟩, .int .i64 0, .slice none 0 0, .slice none 0 0, .int .i64 0, .int .i64 0]) _ (by have := HCS.out; simp; omega)) HI.out HO.out ?_; have hV := stored_new W 39 #[.int .i64 0, .string ⟨#[]⟩, .string ⟨#[]⟩, .string ⟨#[]⟩, .string ⟨#[]⟩, .int .i64 0, .int .i64 0, .string ⟨#[]⟩, .string ⟨#[]⟩, .int .i64 0, .slice none 0 0, .slice none 0 0, .string ⟨#[]⟩, .string ⟨#[]⟩, .int .i64 0, .int .i64 0, .string ⟨#[]⟩, .string ⟨#[]⟩, .string ⟨#[]⟩, .string ⟨#[]⟩, .int .i64 0, .slice none 0 0, .slice none 0 0, .string ⟨#[]⟩, .string ⟨#[]⟩, .int .i64 0, .slice none 0 0, .slice none 0 0, .int .i64 0, .int .i64 0] c0 (by have := HCS.out; simp; omega); generalize ((W.alloc (.cells #[.int .i64 0, .string ⟨#[]⟩, .string ⟨#[]⟩, .string ⟨#[]⟩, .string ⟨#[]⟩, .int .i64 0, .int .i64 0, .string ⟨#[]⟩, .string ⟨#[]⟩, .int .i64 0, .slice none 0 0, .slice none 0 0, .string ⟨#[]⟩, .string ⟨#[]⟩, .int .i64 0, .int .i64 0, .string ⟨#[]⟩, .string ⟨#[]⟩, .string ⟨#[]⟩, .string ⟨#[]⟩, .int .i64 0, .slice none 0 0, .slice none 0 0, .string ⟨#[]⟩, .string ⟨#[]⟩, .int .i64 0, .slice none 0 0, .slice none 0 0, .int .i64 0, .int .i64 0] 39)).setCells W.heap.size 0 c0.toList) = V at hV ⊢; have HX := Lib.hid (show Blk V W.heap.size 39 (mgA m.k zA zT zR zP zF) from EC.out ▸ hV.1); replace HK := Lib.hid (HK.out.below hV.2); replace HR := Lib.hid (HR.out.below hV.2); replace HG := Lib.hid (HG.out.trans (hV.2.mono HG.out.size)); clear hV HA k0; have HA := Lib.hid (HP.out.at_ HK.out); have k0 := HA.out.k)
              | (refine load_cells (by rfl) 39 (.tmp 3) (by rfl) W.heap.size 0 (by rfl) (mgA m.k zA zT zR zP zF) _ (range_blk HX.out) Try.underlying39 (by rfl) HDI.out ?_)
              | (refine wpList_store_mid (by rfl) 39 (.tmp 2) (.tmp 34) (by rfl) (w.heap.size + 1) 0 (mgA m.k zA zT zR zP zF) (by rfl) (by rfl) (there_blk HR.out _ (by rw [HM.out.size]; have := HZS.out; omega)) HDI.out (HM.out.one _) ?_)
              | fail)
            have hE := blk_cells (ds := mgA m.k zA zT zR zP zF) HR.out (by rw [HM.out.size]; have := HZS.out; omega)
            have hp := put_cells V (w.heap.size + 1) (mgA m.k zA zT zR zP zF).toList
            have hq := load_blk (P := Try.prog) hE Try.underlying39 rfl HDI.out
            refine bodyPost_ret (v := .agg (mgA m.k zA zT zR zP zF)) ?_ ?_ ?_
            · exact results_cell 2 39 ⟨w.heap.size + 1, 0, none⟩ Try.results31 rfl hq
            · rfl
            have hB := below_g HG.out hp HG.out.size (by omega)
            refine ⟨_, rfl, ?_, hB⟩
            rw [EN.out]
            exact ⟨zA, zT, zR, zP, zF, rfl, (HM.out.keep hB).more hB.size⟩
end Go.Proofs.Yteeabfplnaknfaa.Mc
end

section
set_option linter.unusedVariables false
set_option linter.unusedSimpArgs false
namespace Go.Proofs.Yteeabfplnaknfaa.Mc
open Go.RowKit Go.Proofs.Yteeabfplnaknfaa.Mem Go.Proofs.Yteeabfplnaknfaa.DerP Go.Proofs.Yteeabfplnaknfaa.DerC Go.Proofs.Yteeabfplnaknfaa.Ms

theorem eql_asV {pa qa : Array Value} {x y : As} (h : AsV pa x) (g : AsV qa y) (w : World) : (Op.equalIn 10000 25 (.agg pa) (.agg qa)).run Try.prog w = .ok (decide (x = y)) w := by rw [h, g]; exact eql_as x y w
theorem eql_faV {pa qa : Array Value} {x y : Fa} (h : FaV pa x) (g : FaV qa y) (w : World) : (Op.equalIn 10000 37 (.agg pa) (.agg qa)).run Try.prog w = .ok (decide (x = y)) w := by rw [h, g]; exact eql_fa x y w
theorem equaltg_v {pa qa : Array Value} {x y : Tg} (w : World) (h : TgV w w.heap.size pa x) (g : TgV w w.heap.size qa y) : Calls Try.prog 58 #[.agg pa, .agg qa] w fun e w' => e = .returned (.bool (decide (x = y))) ∧ Below w.heap.size w w' := by
  obtain ⟨b, a, rfl, ⟨A1, c1, rfl, _, h1⟩, ⟨A2, c2, rfl, _, h2⟩⟩ := h
  obtain ⟨b2, a2, rfl, ⟨D1, d1, rfl, _, g1⟩, ⟨D2, d2, rfl, _, g2⟩⟩ := g
  exact equaltg_any x y A1 A2 D1 D2 c1 c2 d1 d2 w h1 g1 h2 g2
theorem equalre_v {pa qa : Array Value} {x y : Re} (w : World) (h : ReV w w.heap.size pa x) (g : ReV w w.heap.size qa y) : Calls Try.prog 59 #[.agg pa, .agg qa] w fun e w' => e = .returned (.bool (decide (x = y))) ∧ Below w.heap.size w w' := by
  obtain ⟨b, a, rfl, ⟨A1, c1, rfl, _, h1⟩, ⟨A2, c2, rfl, _, h2⟩⟩ := h
  obtain ⟨b2, a2, rfl, ⟨D1, d1, rfl, _, g1⟩, ⟨D2, d2, rfl, _, g2⟩⟩ := g
  exact equalre_any x y A1 A2 D1 D2 c1 c2 d1 d2 w h1 g1 h2 g2
theorem equalap_v {pa qa : Array Value} {x y : Ap} (w : World) (h : ApV w w.heap.size pa x) (g : ApV w w.heap.size qa y) : Calls Try.prog 60 #[.agg pa, .agg qa] w fun e w' => e = .returned (.bool (decide (x = y))) ∧ Below w.heap.size w w' := by
  obtain ⟨b, a, rfl, ⟨A1, c1, rfl, _, h1⟩, ⟨A2, c2, rfl, _, h2⟩⟩ := h
  obtain ⟨b2, a2, rfl, ⟨D1, d1, rfl, _, g1⟩, ⟨D2, d2, rfl, _, g2⟩⟩ := g
  exact equalap_any x y A1 A2 D1 D2 c1 c2 d1 d2 w h1 g1 h2 g2
theorem mg_eq (m o : Mg) : decide (m = o) = (decide (m.k = o.k) && (decide (m.aq = o.aq) && (decide (m.tg = o.tg) && (decide (m.re = o.re) && (decide (m.ap = o.ap) && decide (m.fa = o.fa)))))) := by
  obtain ⟨k, a, t, r, p, f⟩ := m
  obtain ⟨k2, a2, t2, r2, p2, f2⟩ := o
  simp [Bool.decide_and]
set_option maxHeartbeats 12800000 in
theorem equal_any (cs ds : Array Value) (m o : Mg) (w : World) (h : MgV w w.heap.size cs m) (g : MgV w w.heap.size ds o) : Calls Try.prog 30 #[.agg cs, .agg ds] w fun e w' => e = .returned (.bool (decide (m = o))) ∧ Below w.heap.size w w' := by
  obtain ⟨pa, pt, pr, pp, pf, hc, hp⟩ := h
  obtain ⟨qa, qt, qr, qp, qf, hd, hq⟩ := g
  obtain ⟨W, eW⟩ : ∃ W, W = (w.alloc (.cells cs 39)).alloc (.cells ds 39) := ⟨_, rfl⟩
  have HK := Lib.hid (show Blk W w.heap.size 39 (mgA m.k pa pt pr pp pf) by rw [eW, ← hc]; exact (Blk.new _ _ _).alloc _)
  have hq1 := Blk.new (w.alloc (.cells cs 39)) 39 ds
  rw [show (w.alloc (.cells cs 39)).heap.size = w.heap.size + 1 by simp, ← eW, hd] at hq1
  have HL := Lib.hid hq1
  clear hq1
  have HB := Lib.hid (show Below w.heap.size w W by rw [eW]; exact ((Below.refl _ _).alloc (Nat.le_refl _) _).alloc (by simp) _)
  have HP := Lib.hid hp
  have HQ := Lib.hid hq
  have HA := Lib.hid (hp.at_ HK.out)
  have HC := Lib.hid (hq.at_ HL.out)
  have k0 := HA.out.k
  have k1 := HC.out.k
  have Tt := Lib.hid (fun w1 (h : Below w.heap.size w w1) => equaltg_v w1 ((hp.t.keep h).more h.size) ((hq.t.keep h).more h.size))
  have Tr := Lib.hid (fun w1 (h : Below w.heap.size w w1) => equalre_v w1 ((hp.r.keep h).more h.size) ((hq.r.keep h).more h.size))
  have Tp := Lib.hid (fun w1 (h : Below w.heap.size w w1) => equalap_v w1 ((hp.p.keep h).more h.size) ((hq.p.keep h).more h.size))
  have EA := Lib.hid (fun w1 => eql_asV hp.a hq.a w1)
  have EF := Lib.hid (fun w1 => eql_faV hp.f hq.f w1)
  have ME := Lib.hid (mg_eq m o)
  clear hc hd hp hq
  cases ek : decide (m.k = o.k) with
  | false =>
    have tk : (m.k == o.k) = false := by simpa using ek
    have E := Lib.hid (show decide (m = o) = false by rw [ME.out, ek]; rfl)
    clear ek
    go_enter Try.func30, Try.ntmps30
    go_upto_region 1 with fail
    rw [← eW]
    clear eW
    go_wp2
    go_ret
    exact ⟨by rw [E.out]; rfl, HB.out⟩
  | true =>
    have tk : (m.k == o.k) = true := by simpa using ek
    cases ea : decide (m.aq = o.aq) with
    | false =>
      rw [ea] at EA
      have fa := EA.out
      have E := Lib.hid (show decide (m = o) = false by rw [ME.out, ek, ea]; rfl)
      clear ek ea
      go_enter Try.func30, Try.ntmps30
      go_upto_region 1 with fail
      rw [← eW]
      clear eW
      go_wp2_with (first
        | (refine load_g (by rfl) 25 (.tmp 11) (by rfl) w.heap.size 1 (by rfl) pa _ HA.out.a Try.underlying25 (by rfl) (by rw [HP.out.a.size]; exact as_info) ?_)
        | (refine load_g (by rfl) 25 (.tmp 13) (by rfl) (w.heap.size + 1) 1 (by rfl) qa _ HC.out.a Try.underlying25 (by rfl) (by rw [HQ.out.a.size]; exact as_info) ?_)
        | fail)
      go_ret
      exact ⟨by rw [E.out]; rfl, HB.out⟩
    | true =>
      rw [ea] at EA
      have fa := EA.out
      cases et : decide (m.tg = o.tg) with
      | false =>
        rw [et] at Tt
        have E := Lib.hid (show decide (m = o) = false by rw [ME.out, ek, ea, et]; rfl)
        clear ek ea et
        go_enter Try.func30, Try.ntmps30
        go_upto_region 1 with fail
        rw [← eW]
        clear eW
        go_wp2_with (first
          | (refine load_g (by rfl) 25 (.tmp 11) (by rfl) w.heap.size 1 (by rfl) pa _ HA.out.a Try.underlying25 (by rfl) (by rw [HP.out.a.size]; exact as_info) ?_)
          | (refine load_g (by rfl) 25 (.tmp 13) (by rfl) (w.heap.size + 1) 1 (by rfl) qa _ HC.out.a Try.underlying25 (by rfl) (by rw [HQ.out.a.size]; exact as_info) ?_)
          | (refine load_g (by rfl) 30 (.tmp 18) (by rfl) w.heap.size 7 (by rfl) pt _ HA.out.t Try.underlying30 (by rfl) (by rw [HP.out.t.size]; exact tg_info) ?_)
          | (refine load_g (by rfl) 30 (.tmp 20) (by rfl) (w.heap.size + 1) 7 (by rfl) qt _ HC.out.t Try.underlying30 (by rfl) (by rw [HQ.out.t.size]; exact tg_info) ?_)
          | (go_at_call 58; refine Calls.mono (Tt.out _ HB.out) ?_; rintro e wt ⟨rfl, hb⟩; clear HA HC; replace HK := Lib.hid (HK.out.below hb); replace HL := Lib.hid (HL.out.below hb); replace HB := Lib.hid (HB.out.trans (hb.mono HB.out.size)); clear hb Tt; have HA := Lib.hid (HP.out.at_ HK.out); have HC := Lib.hid (HQ.out.at_ HL.out))
          | fail)
        go_ret
        exact ⟨by rw [E.out]; rfl, HB.out⟩
      | true =>
        rw [et] at Tt
        cases er : decide (m.re = o.re) with
        | false =>
          rw [er] at Tr
          have E := Lib.hid (show decide (m = o) = false by rw [ME.out, ek, ea, et, er]; rfl)
          clear ek ea et er
          go_enter Try.func30, Try.ntmps30
          go_upto_region 1 with fail
          rw [← eW]
          clear eW
          go_wp2_with (first
            | (refine load_g (by rfl) 25 (.tmp 11) (by rfl) w.heap.size 1 (by rfl) pa _ HA.out.a Try.underlying25 (by rfl) (by rw [HP.out.a.size]; exact as_info) ?_)
            | (refine load_g (by rfl) 25 (.tmp 13) (by rfl) (w.heap.size + 1) 1 (by rfl) qa _ HC.out.a Try.underlying25 (by rfl) (by rw [HQ.out.a.size]; exact as_info) ?_)
            | (refine load_g (by rfl) 30 (.tmp 18) (by rfl) w.heap.size 7 (by rfl) pt _ HA.out.t Try.underlying30 (by rfl) (by rw [HP.out.t.size]; exact tg_info) ?_)
            | (refine load_g (by rfl) 30 (.tmp 20) (by rfl) (w.heap.size + 1) 7 (by rfl) qt _ HC.out.t Try.underlying30 (by rfl) (by rw [HQ.out.t.size]; exact tg_info) ?_)
            | (go_at_call 58; refine Calls.mono (Tt.out _ HB.out) ?_; rintro e wt ⟨rfl, hb⟩; clear HA HC; replace HK := Lib.hid (HK.out.below hb); replace HL := Lib.hid (HL.out.below hb); replace HB := Lib.hid (HB.out.trans (hb.mono HB.out.size)); clear hb Tt; have HA := Lib.hid (HP.out.at_ HK.out); have HC := Lib.hid (HQ.out.at_ HL.out))
            | (refine load_g (by rfl) 32 (.tmp 25) (by rfl) w.heap.size 16 (by rfl) pr _ HA.out.r Try.underlying32 (by rfl) (by rw [HP.out.r.size]; exact re_info) ?_)
            | (refine load_g (by rfl) 32 (.tmp 27) (by rfl) (w.heap.size + 1) 16 (by rfl) qr _ HC.out.r Try.underlying32 (by rfl) (by rw [HQ.out.r.size]; exact re_info) ?_)
            | (go_at_call 59; refine Calls.mono (Tr.out _ HB.out) ?_; rintro e wr ⟨rfl, hb⟩; clear HA HC; replace HK := Lib.hid (HK.out.below hb); replace HL := Lib.hid (HL.out.below hb); replace HB := Lib.hid (HB.out.trans (hb.mono HB.out.size)); clear hb Tr; have HA := Lib.hid (HP.out.at_ HK.out); have HC := Lib.hid (HQ.out.at_ HL.out))
            | fail)
          go_ret
          exact ⟨by rw [E.out]; rfl, HB.out⟩
        | true =>
          rw [er] at Tr
          cases ep : decide (m.ap = o.ap) with
          | false =>
            rw [ep] at Tp
            have E := Lib.hid (show decide (m = o) = false by rw [ME.out, ek, ea, et, er, ep]; rfl)
            clear ek ea et er ep
            go_enter Try.func30, Try.ntmps30
            go_upto_region 1 with fail
            rw [← eW]
            clear eW
            go_wp2_with (first
              | (refine load_g (by rfl) 25 (.tmp 11) (by rfl) w.heap.size 1 (by rfl) pa _ HA.out.a Try.underlying25 (by rfl) (by rw [HP.out.a.size]; exact as_info) ?_)
              | (refine load_g (by rfl) 25 (.tmp 13) (by rfl) (w.heap.size + 1) 1 (by rfl) qa _ HC.out.a Try.underlying25 (by rfl) (by rw [HQ.out.a.size]; exact as_info) ?_)
              | (refine load_g (by rfl) 30 (.tmp 18) (by rfl) w.heap.size 7 (by rfl) pt _ HA.out.t Try.underlying30 (by rfl) (by rw [HP.out.t.size]; exact tg_info) ?_)
              | (refine load_g (by rfl) 30 (.tmp 20) (by rfl) (w.heap.size + 1) 7 (by rfl) qt _ HC.out.t Try.underlying30 (by rfl) (by rw [HQ.out.t.size]; exact tg_info) ?_)
              | (go_at_call 58; refine Calls.mono (Tt.out _ HB.out) ?_; rintro e wt ⟨rfl, hb⟩; clear HA HC; replace HK := Lib.hid (HK.out.below hb); replace HL := Lib.hid (HL.out.below hb); replace HB := Lib.hid (HB.out.trans (hb.mono HB.out.size)); clear hb Tt; have HA := Lib.hid (HP.out.at_ HK.out); have HC := Lib.hid (HQ.out.at_ HL.out))
              | (refine load_g (by rfl) 32 (.tmp 25) (by rfl) w.heap.size 16 (by rfl) pr _ HA.out.r Try.underlying32 (by rfl) (by rw [HP.out.r.size]; exact re_info) ?_)
              | (refine load_g (by rfl) 32 (.tmp 27) (by rfl) (w.heap.size + 1) 16 (by rfl) qr _ HC.out.r Try.underlying32 (by rfl) (by rw [HQ.out.r.size]; exact re_info) ?_)
              | (go_at_call 59; refine Calls.mono (Tr.out _ HB.out) ?_; rintro e wr ⟨rfl, hb⟩; clear HA HC; replace HK := Lib.hid (HK.out.below hb); replace HL := Lib.hid (HL.out.below hb); replace HB := Lib.hid (HB.out.trans (hb.mono HB.out.size)); clear hb Tr; have HA := Lib.hid (HP.out.at_ HK.out); have HC := Lib.hid (HQ.out.at_ HL.out))
              | (refine load_g (by rfl) 34 (.tmp 32) (by rfl) w.heap.size 23 (by rfl) pp _ HA.out.p Try.underlying34 (by rfl) (by rw [HP.out.p.size]; exact ap_info) ?_)
              | (refine load_g (by rfl) 34 (.tmp 34) (by rfl) (w.heap.size + 1) 23 (by rfl) qp _ HC.out.p Try.underlying34 (by rfl) (by rw [HQ.out.p.size]; exact ap_info) ?_)
              | (go_at_call 60; refine Calls.mono (Tp.out _ HB.out) ?_; rintro e wp ⟨rfl, hb⟩; clear HA HC; replace HK := Lib.hid (HK.out.below hb); replace HL := Lib.hid (HL.out.below hb); replace HB := Lib.hid (HB.out.trans (hb.mono HB.out.size)); clear hb Tp; have HA := Lib.hid (HP.out.at_ HK.out); have HC := Lib.hid (HQ.out.at_ HL.out))
              | fail)
            go_ret
            exact ⟨by rw [E.out]; rfl, HB.out⟩
          | true =>
            rw [ep] at Tp
            cases ef : decide (m.fa = o.fa) with
            | false =>
              rw [ef] at EF
              have ff := EF.out
              have E := Lib.hid (show decide (m = o) = false by rw [ME.out, ek, ea, et, er, ep, ef]; rfl)
              clear ek ea et er ep ef
              go_enter Try.func30, Try.ntmps30
              go_upto_region 1 with fail
              rw [← eW]
              clear eW
              go_wp2_with (first
                | (refine load_g (by rfl) 25 (.tmp 11) (by rfl) w.heap.size 1 (by rfl) pa _ HA.out.a Try.underlying25 (by rfl) (by rw [HP.out.a.size]; exact as_info) ?_)
                | (refine load_g (by rfl) 25 (.tmp 13) (by rfl) (w.heap.size + 1) 1 (by rfl) qa _ HC.out.a Try.underlying25 (by rfl) (by rw [HQ.out.a.size]; exact as_info) ?_)
                | (refine load_g (by rfl) 30 (.tmp 18) (by rfl) w.heap.size 7 (by rfl) pt _ HA.out.t Try.underlying30 (by rfl) (by rw [HP.out.t.size]; exact tg_info) ?_)
                | (refine load_g (by rfl) 30 (.tmp 20) (by rfl) (w.heap.size + 1) 7 (by rfl) qt _ HC.out.t Try.underlying30 (by rfl) (by rw [HQ.out.t.size]; exact tg_info) ?_)
                | (go_at_call 58; refine Calls.mono (Tt.out _ HB.out) ?_; rintro e wt ⟨rfl, hb⟩; clear HA HC; replace HK := Lib.hid (HK.out.below hb); replace HL := Lib.hid (HL.out.below hb); replace HB := Lib.hid (HB.out.trans (hb.mono HB.out.size)); clear hb Tt; have HA := Lib.hid (HP.out.at_ HK.out); have HC := Lib.hid (HQ.out.at_ HL.out))
                | (refine load_g (by rfl) 32 (.tmp 25) (by rfl) w.heap.size 16 (by rfl) pr _ HA.out.r Try.underlying32 (by rfl) (by rw [HP.out.r.size]; exact re_info) ?_)
                | (refine load_g (by rfl) 32 (.tmp 27) (by rfl) (w.heap.size + 1) 16 (by rfl) qr _ HC.out.r Try.underlying32 (by rfl) (by rw [HQ.out.r.size]; exact re_info) ?_)
                | (go_at_call 59; refine Calls.mono (Tr.out _ HB.out) ?_; rintro e wr ⟨rfl, hb⟩; clear HA HC; replace HK := Lib.hid (HK.out.below hb); replace HL := Lib.hid (HL.out.below hb); replace HB := Lib.hid (HB.out.trans (hb.mono HB.out.size)); clear hb Tr; have HA := Lib.hid (HP.out.at_ HK.out); have HC := Lib.hid (HQ.out.at_ HL.out))
                | (refine load_g (by rfl) 34 (.tmp 32) (by rfl) w.heap.size 23 (by rfl) pp _ HA.out.p Try.underlying34 (by rfl) (by rw [HP.out.p.size]; exact ap_info) ?_)
                | (refine load_g (by rfl) 34 (.tmp 34) (by rfl) (w.heap.size + 1) 23 (by rfl) qp _ HC.out.p Try.underlying34 (by rfl) (by rw [HQ.out.p.size]; exact ap_info) ?_)
                | (go_at_call 60; refine Calls.mono (Tp.out _ HB.out) ?_; rintro e wp ⟨rfl, hb⟩; clear HA HC; replace HK := Lib.hid (HK.out.below hb); replace HL := Lib.hid (HL.out.below hb); replace HB := Lib.hid (HB.out.trans (hb.mono HB.out.size)); clear hb Tp; have HA := Lib.hid (HP.out.at_ HK.out); have HC := Lib.hid (HQ.out.at_ HL.out))
                | (refine load_g (by rfl) 37 (.tmp 39) (by rfl) w.heap.size 28 (by rfl) pf _ HA.out.f Try.underlying37 (by rfl) (by rw [HP.out.f.size]; exact fa_info) ?_)
                | (refine load_g (by rfl) 37 (.tmp 41) (by rfl) (w.heap.size + 1) 28 (by rfl) qf _ HC.out.f Try.underlying37 (by rfl) (by rw [HQ.out.f.size]; exact fa_info) ?_)
                | fail)
              go_ret
              exact ⟨by rw [E.out]; rfl, HB.out⟩
            | true =>
              rw [ef] at EF
              have ff := EF.out
              have E := Lib.hid (show decide (m = o) = true by rw [ME.out, ek, ea, et, er, ep, ef]; rfl)
              clear ek ea et er ep ef
              go_enter Try.func30, Try.ntmps30
              go_upto_region 1 with fail
              rw [← eW]
              clear eW
              go_wp2_with (first
                | (refine load_g (by rfl) 25 (.tmp 11) (by rfl) w.heap.size 1 (by rfl) pa _ HA.out.a Try.underlying25 (by rfl) (by rw [HP.out.a.size]; exact as_info) ?_)
                | (refine load_g (by rfl) 25 (.tmp 13) (by rfl) (w.heap.size + 1) 1 (by rfl) qa _ HC.out.a Try.underlying25 (by rfl) (by rw [HQ.out.a.size]; exact as_info) ?_)
                | (refine load_g (by rfl) 30 (.tmp 18) (by rfl) w.heap.size 7 (by rfl) pt _ HA.out.t Try.underlying30 (by rfl) (by rw [HP.out.t.size]; exact tg_info) ?_)
                | (refine load_g (by rfl) 30 (.tmp 20) (by rfl) (w.heap.size + 1) 7 (by rfl) qt _ HC.out.t Try.underlying30 (by rfl) (by rw [HQ.out.t.size]; exact tg_info) ?_)
                | (go_at_call 58; refine Calls.mono (Tt.out _ HB.out) ?_; rintro e wt ⟨rfl, hb⟩; clear HA HC; replace HK := Lib.hid (HK.out.below hb); replace HL := Lib.hid (HL.out.below hb); replace HB := Lib.hid (HB.out.trans (hb.mono HB.out.size)); clear hb Tt; have HA := Lib.hid (HP.out.at_ HK.out); have HC := Lib.hid (HQ.out.at_ HL.out))
                | (refine load_g (by rfl) 32 (.tmp 25) (by rfl) w.heap.size 16 (by rfl) pr _ HA.out.r Try.underlying32 (by rfl) (by rw [HP.out.r.size]; exact re_info) ?_)
                | (refine load_g (by rfl) 32 (.tmp 27) (by rfl) (w.heap.size + 1) 16 (by rfl) qr _ HC.out.r Try.underlying32 (by rfl) (by rw [HQ.out.r.size]; exact re_info) ?_)
                | (go_at_call 59; refine Calls.mono (Tr.out _ HB.out) ?_; rintro e wr ⟨rfl, hb⟩; clear HA HC; replace HK := Lib.hid (HK.out.below hb); replace HL := Lib.hid (HL.out.below hb); replace HB := Lib.hid (HB.out.trans (hb.mono HB.out.size)); clear hb Tr; have HA := Lib.hid (HP.out.at_ HK.out); have HC := Lib.hid (HQ.out.at_ HL.out))
                | (refine load_g (by rfl) 34 (.tmp 32) (by rfl) w.heap.size 23 (by rfl) pp _ HA.out.p Try.underlying34 (by rfl) (by rw [HP.out.p.size]; exact ap_info) ?_)
                | (refine load_g (by rfl) 34 (.tmp 34) (by rfl) (w.heap.size + 1) 23 (by rfl) qp _ HC.out.p Try.underlying34 (by rfl) (by rw [HQ.out.p.size]; exact ap_info) ?_)
                | (go_at_call 60; refine Calls.mono (Tp.out _ HB.out) ?_; rintro e wp ⟨rfl, hb⟩; clear HA HC; replace HK := Lib.hid (HK.out.below hb); replace HL := Lib.hid (HL.out.below hb); replace HB := Lib.hid (HB.out.trans (hb.mono HB.out.size)); clear hb Tp; have HA := Lib.hid (HP.out.at_ HK.out); have HC := Lib.hid (HQ.out.at_ HL.out))
                | (refine load_g (by rfl) 37 (.tmp 39) (by rfl) w.heap.size 28 (by rfl) pf _ HA.out.f Try.underlying37 (by rfl) (by rw [HP.out.f.size]; exact fa_info) ?_)
                | (refine load_g (by rfl) 37 (.tmp 41) (by rfl) (w.heap.size + 1) 28 (by rfl) qf _ HC.out.f Try.underlying37 (by rfl) (by rw [HQ.out.f.size]; exact fa_info) ?_)
                | fail)
              go_ret
              exact ⟨by rw [E.out]; rfl, HB.out⟩
end Go.Proofs.Yteeabfplnaknfaa.Mc
end
