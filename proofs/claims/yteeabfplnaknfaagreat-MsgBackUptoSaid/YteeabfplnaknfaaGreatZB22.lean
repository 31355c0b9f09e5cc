import Derived.Deep.LoopGhost
import Derived.Test.YteeabfplnaknfaaGreatZB1
import Derived.Test.YteeabfplnaknfaaGreatZB2
import Derived.Test.YteeabfplnaknfaaGreatZB3
import Derived.Test.YteeabfplnaknfaaGreatZB4
import Derived.Test.YteeabfplnaknfaaGreatZB5
import Derived.Test.YteeabfplnaknfaaGreatZB6
import Derived.Test.YteeabfplnaknfaaGreatZB7
import Derived.Test.YteeabfplnaknfaaGreatZB9
import Derived.Test.YteeabfplnaknfaaGreatZB10
import Derived.Test.YteeabfplnaknfaaGreatZB11
import Derived.Test.YteeabfplnaknfaaGreatZB12
import Derived.Test.YteeabfplnaknfaaGreatZB13
import Derived.Test.YteeabfplnaknfaaGreatZB14
import Derived.Test.YteeabfplnaknfaaGreatZB15
import Derived.Test.YteeabfplnaknfaaGreatZB16
import Derived.Test.YteeabfplnaknfaaGreatZB17
import Derived.Test.YteeabfplnaknfaaGreatZB18
import Derived.Test.YteeabfplnaknfaaGreatZB19
section
set_option linter.unusedVariables false
set_option linter.unusedSimpArgs false
namespace Go.Proofs.YteeabfplnaknfaaGreat.Mc
open Go.RowKit Go.Proofs.YteeabfplnaknfaaGreat.Mem Go.Proofs.YteeabfplnaknfaaGreat.DerP Go.Proofs.YteeabfplnaknfaaGreat.DerR Go.Proofs.YteeabfplnaknfaaGreat.Ms

theorem rc_below {w w' : World} {B g : Nat} {c : Option L} (h : RC w B g c) (hb : Below w.heap.size w w') (hB : B ≤ w.heap.size) : RC w' B g c :=
  h.keep (row := none) (g_of_below hb none) (by simp) hB (by simp)
def fillK (x : L) (i : Nat) : L := x.take i ++ List.replicate (32 - i) 0
theorem fillK_len {x : L} (hx : x.length = 32) {i : Nat} (hi : i ≤ 32) : (fillK x i).length = 32 := by
  simp only [fillK, List.length_append, List.length_take, List.length_replicate]; omega
theorem fillK_zero (x : L) : fillK x 0 = key0 := rfl
theorem fillK_all {x : L} (hx : x.length = 32) : fillK x 32 = x := by
  rw [fillK, List.take_of_length_le (by omega)]; simp
theorem fillK_set {x : L} (hx : x.length = 32) {i : Nat} (hi : i < 32) : (bvs (fillK x i)).toArray.setIfInBounds i (bv (x[i]'(by omega))) = (bvs (fillK x (i + 1))).toArray := by
  apply Array.toList_inj.1
  simp only [Array.toList_setIfInBounds]
  have e1 : fillK x i = x.take i ++ (0 :: List.replicate (32 - (i + 1)) 0) := by
    rw [fillK, ← List.replicate_succ]; congr 2; omega
  have e2 : fillK x (i + 1) = x.take i ++ (x[i]'(by omega) :: List.replicate (32 - (i + 1)) 0) := by
    rw [fillK, List.take_succ_eq_append_getElem (by omega), List.append_assoc]; rfl
  rw [e1, e2]
  simp only [bvs, List.map_append, List.map_cons]
  rw [List.set_append_right _ _ (by simp; omega)]
  simp only [List.length_map, List.length_take, Nat.min_eq_left (show i ≤ x.length by omega), Nat.sub_self, List.set_cons_zero]
theorem built_key : Tryz.prog.built 53 [] = some (bvs key0).toArray := by kernel_rfl
theorem wpList_alloc_of {P : Program} {ops : Array Oper} {rest : List Oper} {o : Oper} {a : Act} {w : World} {Q : Exit → Act → World → Prop} (hg : o.guard = none) (v : Value) (ob : Obj) (hrun : (execOp a.eval o).run P w = .ok (.value v) (w.alloc ob))
    (h : wpList P ops Q rest (a.put o.dst v) (w.alloc ob)) : wpList P ops Q (o :: rest) a w := wpList_plain hg fun _ hK => by
  unfold Oper.wp
  rw [hrun]
  exact hK _ _ h
set_option maxHeartbeats 6400000 in
set_option maxRecDepth 10000 in
theorem rkey_any (B g : Nat) (c : Option L) (w : World) (h : RC w B g c) (hB : B ≤ w.heap.size) (hBg : B ≤ g) (hu : (c.getD []).length ≤ 100000) : Calls Tryz.prog 63 #[.pointer (some ⟨g, 0, none⟩)] w fun e w' => e = .returned (.agg (bvs (keP c).1).toArray) ∧ RC w' B g (keP c).2 ∧ w.grownBy w' (some g) := by
  obtain ⟨zz, ezz⟩ : ∃ z : Array Value, z = #[.int .u8 0, .int .u8 0, .int .u8 0, .int .u8 0, .int .u8 0, .int .u8 0, .int .u8 0, .int .u8 0, .int .u8 0, .int .u8 0, .int .u8 0, .int .u8 0, .int .u8 0, .int .u8 0, .int .u8 0, .int .u8 0, .int .u8 0, .int .u8 0, .int .u8 0, .int .u8 0, .int .u8 0, .int .u8 0, .int .u8 0, .int .u8 0, .int .u8 0, .int .u8 0, .int .u8 0, .int .u8 0, .int .u8 0, .int .u8 0, .int .u8 0, .int .u8 0] := ⟨_, rfl⟩
  have ez0 : zz = (bvs key0).toArray := by rw [ezz]; rfl
  have HBT := Lib.hid (show Tryz.prog.built 53 [] = some zz by rw [ez0]; exact built_key)
  have hzs : zz.size = 32 := by rw [ez0]; simp [bvs_length, key0]
  have HZS := Lib.hid hzs
  have HZO := Lib.hid (show zz.all (·.oneCell') = true by rw [ez0]; exact bvs_one' _)
  have HZI := Lib.hid (show (Tryz.prog.info? 53).map (·.size) = some zz.size by rw [hzs]; exact key_info)
  have EZ := Lib.hid ez0
  obtain ⟨W, eW⟩ : ∃ W, W = w.alloc (.cells zz 53) := ⟨_, rfl⟩
  have HWS := Lib.hid (show W.heap.size = w.heap.size + 1 by rw [eW]; simp)
  have HR := Lib.hid (show Blk W w.heap.size 53 zz by rw [eW]; exact Blk.new _ _ _)
  have HC := Lib.hid (show RC W B g c by rw [eW]; exact rc_alloc h hB _)
  have HG := Lib.hid (show w.grownBy W (some g) by rw [eW]; exact g_alloc (World.grownBy.refl _ _) _)
  have HLT := Lib.hid (rc_lt h)
  have HB := Lib.hid hB
  have HBG := Lib.hid hBg
  have T1 := Lib.hid (fun w1 (h : RC w1 B g c) (h1 : B ≤ w1.heap.size) => (show Calls Tryz.prog 49 #[.pointer (some ⟨g, 0, none⟩)] w1 fun e w' => (∃ A' cap', e = .returned (.slice A' (ocC c).length cap') ∧ (ocC c).length ≤ cap' ∧ Rd w' B A' (bvs (ocC c))) ∧ RC w' B g (nextC 4 c) ∧ w1.grownBy w' (some g) from roctets_any B g c w1 h h1 hBg hu))
  have E1 := Lib.hid (show keP c = if (ocC c).length = 32 then (ocC c, nextC 4 c) else (key0, none) from rfl)
  rw [E1.out]
  obtain ⟨x, ex⟩ : ∃ x, x = ocC c := ⟨_, rfl⟩
  obtain ⟨r, er⟩ : ∃ r, r = nextC 4 c := ⟨_, rfl⟩
  rw [← ex, ← er] at T1 ⊢
  clear ez0 hzs h hB hBg hu E1 ex er
  by_cases hx : x.length = 32
  · rw [if_pos hx]
    have t1 : ((x.length : Int) != 32) = false := by simp; omega
    have HX := Lib.hid hx
    clear hx
    go_enter Tryz.func63, Tryz.ntmps63
    go_upto_region 1 with fail
    rw [← ezz, ← eW]
    clear ezz eW
    go_upto_region 2 with (go_at_call 49; refine Calls.mono (T1.out _ HC.out (by have := HWS.out; have := HB.out; omega)) ?_; rintro e w1 ⟨⟨A, cp, rfl, hcp, hrd⟩, hd, hg⟩; clear T1; replace HC := Lib.hid hd; replace HR := Lib.hid (HR.out.grown hg (by intro e; injection e with e; have := HLT.out; omega)); replace HG := Lib.hid (g_same HG.out hg); have HRD := Lib.hid hrd; have HW1 := Lib.hid (show w.heap.size + 1 ≤ w1.heap.size by have := hg.size; have := HWS.out; omega); clear hd hg hcp hrd)
    refine wp_region_lit ?_
    refine wpList_built (by rfl) 53 #[] (by rfl) zz (by simp; exact HBT.out) ?_
    refine wpList_alloc_of (by rfl) (.pointer (some ⟨w1.heap.size, 0, none⟩)) (.cells #[.int .u8 0, .int .u8 0, .int .u8 0, .int .u8 0, .int .u8 0, .int .u8 0, .int .u8 0, .int .u8 0, .int .u8 0, .int .u8 0, .int .u8 0, .int .u8 0, .int .u8 0, .int .u8 0, .int .u8 0, .int .u8 0, .int .u8 0, .int .u8 0, .int .u8 0, .int .u8 0, .int .u8 0, .int .u8 0, .int .u8 0, .int .u8 0, .int .u8 0, .int .u8 0, .int .u8 0, .int .u8 0, .int .u8 0, .int .u8 0, .int .u8 0, .int .u8 0] 53) (by go_simp) ?_
    refine wpList_store_mid (by rfl) 53 (.tmp 4) (.tmp 8) (by rfl) w1.heap.size 0 zz (by rfl) (by rfl) (there_blk (Blk.new w1 53 #[.int .u8 0, .int .u8 0, .int .u8 0, .int .u8 0, .int .u8 0, .int .u8 0, .int .u8 0, .int .u8 0, .int .u8 0, .int .u8 0, .int .u8 0, .int .u8 0, .int .u8 0, .int .u8 0, .int .u8 0, .int .u8 0, .int .u8 0, .int .u8 0, .int .u8 0, .int .u8 0, .int .u8 0, .int .u8 0, .int .u8 0, .int .u8 0, .int .u8 0, .int .u8 0, .int .u8 0, .int .u8 0, .int .u8 0, .int .u8 0, .int .u8 0, .int .u8 0]) _ (by have := HZS.out; simp; omega)) HZI.out HZO.out ?_
    have hV := stored_new w1 53 #[.int .u8 0, .int .u8 0, .int .u8 0, .int .u8 0, .int .u8 0, .int .u8 0, .int .u8 0, .int .u8 0, .int .u8 0, .int .u8 0, .int .u8 0, .int .u8 0, .int .u8 0, .int .u8 0, .int .u8 0, .int .u8 0, .int .u8 0, .int .u8 0, .int .u8 0, .int .u8 0, .int .u8 0, .int .u8 0, .int .u8 0, .int .u8 0, .int .u8 0, .int .u8 0, .int .u8 0, .int .u8 0, .int .u8 0, .int .u8 0, .int .u8 0, .int .u8 0] zz (by have := HZS.out; simp; omega)
    generalize ((w1.alloc (.cells #[.int .u8 0, .int .u8 0, .int .u8 0, .int .u8 0, .int .u8 0, .int .u8 0, .int .u8 0, .int .u8 0, .int .u8 0, .int .u8 0, .int .u8 0, .int .u8 0, .int .u8 0, .int .u8 0, .int .u8 0, .int .u8 0, .int .u8 0, .int .u8 0, .int .u8 0, .int .u8 0, .int .u8 0, .int .u8 0, .int .u8 0, .int .u8 0, .int .u8 0, .int .u8 0, .int .u8 0, .int .u8 0, .int .u8 0, .int .u8 0, .int .u8 0, .int .u8 0] 53)).setCells w1.heap.size 0 zz.toList) = V at hV ⊢
    have HK := Lib.hid (show Blk V w1.heap.size 53 (bvs key0).toArray from EZ.out ▸ hV.1)
    replace HR := Lib.hid (HR.out.below hV.2)
    replace HC := Lib.hid (rc_below HC.out hV.2 (by have := HW1.out; have := HB.out; omega))
    replace HG := Lib.hid (g_then HG.out hV.2)
    have HRV := Lib.hid (HRD.out.below (hV.2.mono (by have := HW1.out; have := HB.out; omega)))
    have HVS := Lib.hid (show w1.heap.size < V.heap.size from hV.1.lt)
    clear hV HRD
    go_wp2
    obtain ⟨bb, oo, rfl, hbb, hcl⟩ : ∃ bb oo, A = some ⟨bb, oo, none⟩ ∧ bb < B ∧ ∀ i u, (bvs x)[i]? = some u → V.cell? ⟨bb, oo + i, none⟩ = some u := by
      rcases HRV.out with h | ⟨bb, oo, h1, h2, h3⟩
      · have : (bvs x).length = 32 := by rw [bvs_length]; exact HX.out
        rw [h] at this; simp at this
      · exact ⟨bb, oo, h1, h2, h3⟩
    have HBB := Lib.hid hbb
    have HCL := Lib.hid hcl
    clear hbb hcl HRV
    go_loopw [5] (fun i wr => ∃ k : Nat, k ≤ 32 ∧ i = .int .i64 (k : Int) ∧ Blk wr w1.heap.size 53 (bvs (fillK x k)).toArray ∧ V.grownBy wr (some w1.heap.size)) (fun i _ => 32 - (intOf i).toNat)
    case atStart => exact ⟨0, by omega, rfl, by rw [fillK_zero]; exact HK.out, World.grownBy.refl _ _⟩
    case round =>
      obtain ⟨k, hk, rfl, hBK, hgv⟩ := hrel
      have HBK := Lib.hid hBK
      have HGV := Lib.hid hgv
      clear hBK hgv
      by_cases hlt : k < 32
      · have hxl : k < x.length := by have := HX.out; omega
        have e1 : (k : Int) < 32 := by omega
        have e2 : decide ((k : Int) < 32) = true := decide_eq_true e1
        have e3 : (k : Int) < (x.length : Int) := by omega
        have k1 : wr.cell? ⟨bb, oo + k, none⟩ = some (bv x[k]) := (World.cell?_of_block (a := ⟨bb, oo + k, none⟩) (HGV.out.block bb (by have := HBB.out; have := HB.out; have := HW1.out; have := HVS.out; omega) (fun e => by injection e with e; have := HBB.out; have := HB.out; have := HW1.out; omega))).trans (HCL.out k _ (bvs_at hxl))
        obtain ⟨u, hu⟩ : ∃ u, (bvs (fillK x k)).toArray[k]? = some u := ⟨_, Array.getElem?_eq_getElem (by rw [List.size_toArray, bvs_length, fillK_len HX.out (by omega)]; exact hlt)⟩
        have k2 : wr.cell? ⟨w1.heap.size, k, none⟩ = some u := (HBK.out.cell k).trans hu
        have f2 : wr.frozen? ⟨w1.heap.size, k, none⟩ = false := HBK.out.frozen k
        have hs := HBK.out.set k (bv x[k])
        rw [fillK_set HX.out hlt] at hs
        have HS := Lib.hid hs
        have HP := Lib.hid (HGV.out.trans (g_set (World.grownBy.refl wr (some w1.heap.size)) (p := ⟨w1.heap.size, k, none⟩) (.inl rfl) (bv x[k])))
        clear hs hu
        simp only [bv] at k1 HS HP
        go_wp2
        exact ⟨⟨k + 1, by omega, rfl, HS.out, HP.out⟩, by simp [intOf]; omega⟩
      · obtain rfl : k = 32 := by omega
        have e2 : decide (((32 : Nat) : Int) < 32) = false := rfl
        have hb2 := HBK.out
        rw [fillK_all HX.out] at hb2
        have hks : (bvs x).toArray.size = 32 := by simp [bvs_length]; exact HX.out
        have HO2 := Lib.hid (bvs_one' x)
        obtain ⟨ks, eks⟩ : ∃ ks, ks = (bvs x).toArray := ⟨_, rfl⟩
        rw [← eks] at hb2 hks HO2
        have HK2 := Lib.hid hb2
        have HZ2 := Lib.hid (show (Tryz.prog.info? 53).map (·.size) = some ks.size by rw [hks]; exact key_info)
        have HS2 := Lib.hid hks
        have EK := Lib.hid eks
        replace HR := Lib.hid (HR.out.grown HGV.out (by intro e; injection e with e; have := HW1.out; omega))
        replace HC := Lib.hid (rc_far HC.out HGV.out (by have := HLT.out; have := HW1.out; omega) (by have := HB.out; have := HW1.out; have := HVS.out; omega) (by have := HB.out; have := HW1.out; omega))
        replace HG := Lib.hid (g_new HG.out HGV.out (by have := HW1.out; omega))
        have HWR := Lib.hid (show w1.heap.size < wr.heap.size from Nat.lt_of_lt_of_le HVS.out HGV.out.size)
        clear hb2 hks eks HBK HGV HK HCL HBB hlt hk
        go_wp2_with (first
          | (refine load_cells (by rfl) 53 (.tmp 4) (by rfl) w1.heap.size 0 (by rfl) ks _ (range_blk HK2.out) Tryz.underlying53 (by rfl) HZ2.out ?_)
          | (refine wpList_store_mid (by rfl) 53 (.tmp 2) (.tmp 26) (by rfl) w.heap.size 0 ks (by rfl) (by rfl) (there_blk HR.out _ (by have := HZS.out; have := HS2.out; omega)) HZ2.out HO2.out ?_)
          | fail)
        have hE := blk_cells (ds := ks) HR.out (by have := HZS.out; have := HS2.out; omega)
        have hp := put_cells wr w.heap.size ks.toList
        have hq := load_blk (P := Tryz.prog) hE Tryz.underlying53 rfl HZ2.out
        refine bodyPost_ret (v := .agg ks) ?_ ?_ ?_
        · exact results_cell 2 53 ⟨w.heap.size, 0, none⟩ Tryz.results63 rfl hq
        · rfl
        exact ⟨by rw [EK.out], rc_far HC.out hp (by have := HLT.out; omega) (by have := HB.out; have := HW1.out; have := HWR.out; omega) HB.out, g_new HG.out hp (Nat.le_refl _)⟩
  · rw [if_neg hx]
    have t1 : ((x.length : Int) != 32) = true := by simp; omega
    clear hx
    go_enter Tryz.func63, Tryz.ntmps63
    go_upto_region 1 with fail
    rw [← ezz, ← eW]
    clear ezz eW
    go_upto_region 2 with (go_at_call 49; refine Calls.mono (T1.out _ HC.out (by have := HWS.out; have := HB.out; omega)) ?_; rintro e w1 ⟨⟨A, cp, rfl, hcp, hrd⟩, hd, hg⟩; clear T1; replace HC := Lib.hid hd; replace HR := Lib.hid (HR.out.grown hg (by intro e; injection e with e; have := HLT.out; omega)); replace HG := Lib.hid (g_same HG.out hg); have HRD := Lib.hid hrd; have HW1 := Lib.hid (show w.heap.size + 1 ≤ w1.heap.size by have := hg.size; have := HWS.out; omega); clear hd hg hcp hrd)
    refine wp_region_lit ?_
    refine wpList_built (by rfl) 53 #[] (by rfl) zz (by simp; exact HBT.out) ?_
    refine wpList_alloc_of (by rfl) (.pointer (some ⟨w1.heap.size, 0, none⟩)) (.cells #[.int .u8 0, .int .u8 0, .int .u8 0, .int .u8 0, .int .u8 0, .int .u8 0, .int .u8 0, .int .u8 0, .int .u8 0, .int .u8 0, .int .u8 0, .int .u8 0, .int .u8 0, .int .u8 0, .int .u8 0, .int .u8 0, .int .u8 0, .int .u8 0, .int .u8 0, .int .u8 0, .int .u8 0, .int .u8 0, .int .u8 0, .int .u8 0, .int .u8 0, .int .u8 0, .int .u8 0, .int .u8 0, .int .u8 0, .int .u8 0, .int .u8 0, .int .u8 0] 53) (by go_simp) ?_
    refine wpList_store_mid (by rfl) 53 (.tmp 4) (.tmp 8) (by rfl) w1.heap.size 0 zz (by rfl) (by rfl) (there_blk (Blk.new w1 53 #[.int .u8 0, .int .u8 0, .int .u8 0, .int .u8 0, .int .u8 0, .int .u8 0, .int .u8 0, .int .u8 0, .int .u8 0, .int .u8 0, .int .u8 0, .int .u8 0, .int .u8 0, .int .u8 0, .int .u8 0, .int .u8 0, .int .u8 0, .int .u8 0, .int .u8 0, .int .u8 0, .int .u8 0, .int .u8 0, .int .u8 0, .int .u8 0, .int .u8 0, .int .u8 0, .int .u8 0, .int .u8 0, .int .u8 0, .int .u8 0, .int .u8 0, .int .u8 0]) _ (by have := HZS.out; simp; omega)) HZI.out HZO.out ?_
    have hV := stored_new w1 53 #[.int .u8 0, .int .u8 0, .int .u8 0, .int .u8 0, .int .u8 0, .int .u8 0, .int .u8 0, .int .u8 0, .int .u8 0, .int .u8 0, .int .u8 0, .int .u8 0, .int .u8 0, .int .u8 0, .int .u8 0, .int .u8 0, .int .u8 0, .int .u8 0, .int .u8 0, .int .u8 0, .int .u8 0, .int .u8 0, .int .u8 0, .int .u8 0, .int .u8 0, .int .u8 0, .int .u8 0, .int .u8 0, .int .u8 0, .int .u8 0, .int .u8 0, .int .u8 0] zz (by have := HZS.out; simp; omega)
    generalize ((w1.alloc (.cells #[.int .u8 0, .int .u8 0, .int .u8 0, .int .u8 0, .int .u8 0, .int .u8 0, .int .u8 0, .int .u8 0, .int .u8 0, .int .u8 0, .int .u8 0, .int .u8 0, .int .u8 0, .int .u8 0, .int .u8 0, .int .u8 0, .int .u8 0, .int .u8 0, .int .u8 0, .int .u8 0, .int .u8 0, .int .u8 0, .int .u8 0, .int .u8 0, .int .u8 0, .int .u8 0, .int .u8 0, .int .u8 0, .int .u8 0, .int .u8 0, .int .u8 0, .int .u8 0] 53)).setCells w1.heap.size 0 zz.toList) = V at hV ⊢
    have HK := Lib.hid (show Blk V w1.heap.size 53 (bvs key0).toArray from EZ.out ▸ hV.1)
    replace HR := Lib.hid (HR.out.below hV.2)
    replace HC := Lib.hid (rc_below HC.out hV.2 (by have := HW1.out; have := HB.out; omega))
    replace HG := Lib.hid (g_then HG.out hV.2)
    have HRV := Lib.hid (HRD.out.below (hV.2.mono (by have := HW1.out; have := HB.out; omega)))
    have HVS := Lib.hid (show w1.heap.size < V.heap.size from hV.1.lt)
    clear hV HRD
    have hcc := rc_cell HC.out
    have k1 := hcc.1
    have f1 := hcc.2
    clear hcc HRV
    obtain ⟨bo, ebo⟩ : ∃ bo, bo = (!r.isSome) := ⟨_, rfl⟩
    rw [← ebo] at k1
    clear ebo
    go_upto_region 5 with fail
    have HE := Lib.hid (rc_err HC.out)
    have hp1 := g_set (World.grownBy.refl V (some g)) (p := ⟨g, 1, none⟩) (.inl rfl) (.bool true)
    obtain ⟨V2, eV2⟩ : ∃ V2, V2 = V.setCell ⟨g, 1, none⟩ (.bool true) := ⟨_, rfl⟩
    rw [← eV2] at HE hp1 ⊢
    replace HR := Lib.hid (HR.out.grown hp1 (by intro e; injection e with e; have := HLT.out; omega))
    replace HK := Lib.hid (HK.out.grown hp1 (by intro e; injection e with e; have := HLT.out; have := HW1.out; omega))
    replace HG := Lib.hid (g_same HG.out hp1)
    have HWR := Lib.hid (show w1.heap.size < V2.heap.size from Nat.lt_of_lt_of_le HVS.out hp1.size)
    have HKZ := Lib.hid (show Blk V2 w1.heap.size 53 zz from EZ.out ▸ HK.out)
    clear eV2 hp1 HC k1 f1 HK
    go_wp2_with (first
      | (refine load_cells (by rfl) 53 (.tmp 4) (by rfl) w1.heap.size 0 (by rfl) zz _ (range_blk HKZ.out) Tryz.underlying53 (by rfl) HZI.out ?_)
      | (refine wpList_store_mid (by rfl) 53 (.tmp 2) (.tmp 15) (by rfl) w.heap.size 0 zz (by rfl) (by rfl) (there_blk HR.out _ (Nat.le_refl _)) HZI.out HZO.out ?_)
      | fail)
    have hE := blk_cells (ds := zz) HR.out rfl
    have hp := put_cells V2 w.heap.size zz.toList
    have hq := load_blk (P := Tryz.prog) hE Tryz.underlying53 rfl HZI.out
    refine bodyPost_ret (v := .agg zz) ?_ ?_ ?_
    · exact results_cell 2 53 ⟨w.heap.size, 0, none⟩ Tryz.results63 rfl hq
    · rfl
    exact ⟨by rw [EZ.out], rc_far HE.out hp (by have := HLT.out; omega) (by have := HB.out; have := HW1.out; have := HWR.out; omega) HB.out, g_new HG.out hp (Nat.le_refl _)⟩
end Go.Proofs.YteeabfplnaknfaaGreat.Mc
end

section
set_option linter.unusedVariables false
set_option linter.unusedSimpArgs false
namespace Go.Proofs.YteeabfplnaknfaaGreat.Mc
open Go.RowKit Go.Proofs.YteeabfplnaknfaaGreat.Mem Go.Proofs.YteeabfplnaknfaaGreat.DerP Go.Proofs.YteeabfplnaknfaaGreat.DerR Go.Proofs.YteeabfplnaknfaaGreat.Ms

section
variable {w : World} {g : Nat} {t : TypeId} {v1 : Pr} {v2 x : L} {st en no y : Int} {tr : L}
theorem pt_put2 (hx : x.length = 32) (hk : v2.length = 32) (h : Blk w g t (ptC ⟨v1, v2, tr, st, en⟩).toArray) : Blk (w.setCells g 2 (bvs x).toArray.toList) g t (ptC ⟨v1, x, tr, st, en⟩).toArray :=
  blk_mid (ps := (bvs x).toArray) (pre := prC v1) (mid := bvs v2) (post := [.string ⟨tr.toArray⟩, .int .i64 st, .int .i64 en]) h (by simp [ptC]) rfl (by simp [bvs_length, hk, hx]) (by simp [ptC])
theorem pt_put34 (hk : v2.length = 32) (h : Blk w g t (ptC ⟨v1, v2, tr, st, en⟩).toArray) : Blk (w.setCell ⟨g, 34, none⟩ (.string ⟨x.toArray⟩)) g t (ptC ⟨v1, v2, x, st, en⟩).toArray :=
  blk_mid (ps := #[.string ⟨x.toArray⟩]) (pre := prC v1 ++ bvs v2) (mid := [.string ⟨tr.toArray⟩]) (post := [.int .i64 st, .int .i64 en]) h (by simp [ptC]) (by simp [prC, bvs_length, hk]) rfl (by simp [ptC])
theorem pt_put35 (hk : v2.length = 32) (h : Blk w g t (ptC ⟨v1, v2, tr, st, en⟩).toArray) : Blk (w.setCell ⟨g, 35, none⟩ (.int .i64 y)) g t (ptC ⟨v1, v2, tr, y, en⟩).toArray :=
  blk_mid (ps := #[.int .i64 y]) (pre := prC v1 ++ (bvs v2 ++ [.string ⟨tr.toArray⟩])) (mid := [.int .i64 st]) (post := [.int .i64 en]) h (by simp [ptC]) (by simp [prC, bvs_length, hk]) rfl (by simp [ptC])
theorem pt_put36 (hk : v2.length = 32) (h : Blk w g t (ptC ⟨v1, v2, tr, st, en⟩).toArray) : Blk (w.setCell ⟨g, 36, none⟩ (.int .i64 y)) g t (ptC ⟨v1, v2, tr, st, y⟩).toArray :=
  blk_mid (ps := #[.int .i64 y]) (pre := prC v1 ++ (bvs v2 ++ [.string ⟨tr.toArray⟩, .int .i64 st])) (mid := [.int .i64 en]) (post := []) h (by simp [ptC]) (by simp [prC, bvs_length, hk]) rfl (by simp [ptC])
theorem rp_put32 {p : Pr} (hk : v2.length = 32) (h : Blk w g t (rpC ⟨v2, v1, st, en, no⟩).toArray) : Blk ((w.setCell ⟨g, 32, none⟩ (.string ⟨p.1.toArray⟩)).setCell ⟨g, 33, none⟩ (.string ⟨p.2.toArray⟩)) g t (rpC ⟨v2, p, st, en, no⟩).toArray :=
  blk_mid (ps := #[.string ⟨p.1.toArray⟩, .string ⟨p.2.toArray⟩]) (pre := bvs v2) (mid := prC v1) (post := [.int .i64 st, .int .i64 en, .int .i64 no]) h (by simp [rpC]) (by simp [bvs_length, hk]) rfl (by simp [rpC, prC])
theorem rp_put34 (hk : v2.length = 32) (h : Blk w g t (rpC ⟨v2, v1, st, en, no⟩).toArray) : Blk (w.setCell ⟨g, 34, none⟩ (.int .i64 y)) g t (rpC ⟨v2, v1, y, en, no⟩).toArray :=
  blk_mid (ps := #[.int .i64 y]) (pre := bvs v2 ++ prC v1) (mid := [.int .i64 st]) (post := [.int .i64 en, .int .i64 no]) h (by simp [rpC]) (by simp [prC, bvs_length, hk]) rfl (by simp [rpC])
theorem rp_put35 (hk : v2.length = 32) (h : Blk w g t (rpC ⟨v2, v1, st, en, no⟩).toArray) : Blk (w.setCell ⟨g, 35, none⟩ (.int .i64 y)) g t (rpC ⟨v2, v1, st, y, no⟩).toArray :=
  blk_mid (ps := #[.int .i64 y]) (pre := bvs v2 ++ (prC v1 ++ [.int .i64 st])) (mid := [.int .i64 en]) (post := [.int .i64 no]) h (by simp [rpC]) (by simp [prC, bvs_length, hk]) rfl (by simp [rpC])
theorem rp_put36 (hk : v2.length = 32) (h : Blk w g t (rpC ⟨v2, v1, st, en, no⟩).toArray) : Blk (w.setCell ⟨g, 36, none⟩ (.int .i64 y)) g t (rpC ⟨v2, v1, st, en, y⟩).toArray :=
  blk_mid (ps := #[.int .i64 y]) (pre := bvs v2 ++ (prC v1 ++ [.int .i64 st, .int .i64 en])) (mid := [.int .i64 no]) (post := []) h (by simp [rpC]) (by simp [prC, bvs_length, hk]) rfl (by simp [rpC])
end
set_option maxRecDepth 10000 in
theorem built_pt0 (p : Pr) : Tryz.prog.built 55 [(0, .agg #[.string ⟨p.1.toArray⟩, .string ⟨p.2.toArray⟩])] = some (ptC ⟨p, key0, [], 0, 0⟩).toArray := by kernel_rfl
set_option maxRecDepth 10000 in
theorem built_ptn : Tryz.prog.built 55 [] = some (ptC pt0).toArray := by kernel_rfl
set_option maxRecDepth 10000 in
theorem built_rp0 (k : L) (hk : k.length = 32) : Tryz.prog.built 59 [(0, .agg (bvs k).toArray)] = some (rpC ⟨k, pr0, 0, 0, 0⟩).toArray := by
  obtain ⟨k0, k1, k2, k3, k4, k5, k6, k7, k8, k9, k10, k11, k12, k13, k14, k15, k16, k17, k18, k19, k20, k21, k22, k23, k24, k25, k26, k27, k28, k29, k30, k31, rfl⟩ := len32 hk
  kernel_rfl
set_option maxRecDepth 10000 in
theorem built_rpn : Tryz.prog.built 59 [] = some (rpC rp0).toArray := by kernel_rfl
theorem prP_sm {c : Option L} (h : (c.getD []).length ≤ 100000) : pSm (prP c).1 := prQ_sm h
theorem keP_len2 {c : Option L} {n : Nat} (h : (c.getD []).length ≤ n) : ((keP c).2.getD []).length ≤ n := by
  unfold keP
  split
  · exact nx_len 4 h
  · simp
theorem prP_len2 {c : Option L} {n : Nat} (h : (c.getD []).length ≤ n) : ((prP c).2.getD []).length ≤ n := Nat.le_trans (prP_len c) h
end Go.Proofs.YteeabfplnaknfaaGreat.Mc
end
