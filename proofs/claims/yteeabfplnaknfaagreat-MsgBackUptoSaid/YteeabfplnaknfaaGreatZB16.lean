import Derived.Deep.LoopGhost
import Derived.Test.YteeabfplnaknfaaGreatZB1
import Derived.Test.YteeabfplnaknfaaGreatZB2
import Derived.Test.YteeabfplnaknfaaGreatZB3
import Derived.Test.YteeabfplnaknfaaGreatZB4
import Derived.Test.YteeabfplnaknfaaGreatZB5
import Derived.Test.YteeabfplnaknfaaGreatZB6
import Derived.Test.YteeabfplnaknfaaGreatZB7
import Derived.Test.YteeabfplnaknfaaGreatZB10
import Derived.Test.YteeabfplnaknfaaGreatZB15
section
set_option linter.unusedVariables false
set_option linter.unusedSimpArgs false
namespace Go.Proofs.YteeabfplnaknfaaGreat.Mc
open Go.RowKit Go.Proofs.YteeabfplnaknfaaGreat.Mem Go.Proofs.YteeabfplnaknfaaGreat.DerP Go.Proofs.YteeabfplnaknfaaGreat.DerC Go.Proofs.YteeabfplnaknfaaGreat.Ms

set_option maxHeartbeats 3200000 in
theorem takeprinc_any (g : Nat) (c : Option L) (w : World) (h : Cur w g c) (hs : (c.getD []).length ≤ 100000) : Calls Tryz.prog 109 #[.pointer (some ⟨g, 0, none⟩)] w fun e w' => e = .returned (.agg #[.string ⟨(prQ c).1.1.toArray⟩, .string ⟨(prQ c).1.2.toArray⟩]) ∧ Cur w' g (prQ c).2 ∧ w.grownBy w' (some g) := by
  obtain ⟨W, eW⟩ : ∃ W, W = w.alloc (.cells #[.string ⟨#[]⟩, .string ⟨#[]⟩] 23) := ⟨_, rfl⟩
  have hWs : W.heap.size = w.heap.size + 1 := by rw [eW]; simp
  have HR := Lib.hid (show Blk W w.heap.size 23 #[.string ⟨#[]⟩, .string ⟨#[]⟩] by rw [eW]; exact Blk.new _ _ _)
  have hlt := cur_lt h
  have hc0 : Cur W g c := by rw [eW]; exact h.alloc _
  have HG := Lib.hid (show w.grownBy W (some g) by rw [eW]; exact g_alloc (World.grownBy.refl _ _) _)
  have c1 := into_any 48 g c W hc0 (by omega)
  have hs0 := bd_len 48 hs
  obtain ⟨s0, es0⟩ : ∃ s, s = bodyC 48 c := ⟨_, rfl⟩
  obtain ⟨r, er⟩ : ∃ s, s = nextC 48 c := ⟨_, rfl⟩
  rw [← es0] at c1 hs0
  rw [← er] at c1
  have HLT := Lib.hid hlt
  have hs1 : ((nextC 27 s0).getD []).length ≤ 100000 := nx_len 27 hs0
  have T1 := Lib.hid (fun g w h => taketext_any g s0 w h (by omega))
  obtain ⟨v1, ev1⟩ : ∃ x : L, x = txC s0 := ⟨_, rfl⟩
  obtain ⟨s1, es1⟩ : ∃ s, s = nextC 27 s0 := ⟨_, rfl⟩
  rw [← ev1, ← es1] at T1
  rw [← es1] at hs1
  have hs2 : ((nextC 27 s1).getD []).length ≤ 100000 := nx_len 27 hs1
  have T2 := Lib.hid (fun g w h => taketext_any g s1 w h (by omega))
  obtain ⟨v2, ev2⟩ : ∃ x : L, x = txC s1 := ⟨_, rfl⟩
  obtain ⟨s2, es2⟩ : ∃ s, s = nextC 27 s1 := ⟨_, rfl⟩
  rw [← ev2, ← es2] at T2
  rw [← es2] at hs2
  have FV1 := Lib.hid (show (prQ c).1.1 = v1 by rw [ev1, es0]; rfl)
  have FV2 := Lib.hid (show (prQ c).1.2 = v2 by rw [ev2, es1, es0]; rfl)
  have FS := Lib.hid (show (prQ c).2 = r by rw [er]; rfl)
  rw [FV1.out, FV2.out, FS.out]
  clear h hs hs0 hs1 hs2 FV1 ev1 es1 FV2 ev2 es2 es0 FS hlt er hc0
  have HWS := Lib.hid hWs
  clear hWs
  subst eW
  go_enter Tryz.func109, Tryz.ntmps109
  go_wp2_with (first
    | (go_at_call 89; refine Calls.mono c1 ?_; rintro e wi ⟨⟨gd, rfl, hgd, hd⟩, hc, hg⟩; clear c1; have HD := Lib.hid hd; have HC := Lib.hid hc; have HGD := Lib.hid (show w.heap.size + 1 ≤ gd by have := HWS.out; omega); have HDL := Lib.hid (cur_lt hd); replace HR := Lib.hid (HR.out.grown hg (by intro e; injection e with e; have := HLT.out; omega)); replace HG := Lib.hid (g_same HG.out hg); clear hgd hd hc hg)
    | (go_at_call 111; (with_reducible refine Calls.mono (T1.out _ _ HD.out) ?_); rintro e w1 ⟨rfl, hd, hg⟩; clear T1; replace HD := Lib.hid hd; replace HR := Lib.hid (HR.out.grown hg (by intro e; injection e with e; have := HGD.out; omega)); replace HC := Lib.hid (cur_far HC.out hg (by have := HGD.out; have := HLT.out; omega)); replace HG := Lib.hid (g_new HG.out hg (by have := HGD.out; omega)); replace HDL := Lib.hid (Nat.lt_of_lt_of_le HDL.out hg.size); clear hd hg)
    | (go_at_call 111; (with_reducible refine Calls.mono (T2.out _ _ HD.out) ?_); rintro e w2 ⟨rfl, hd, hg⟩; clear T2; replace HD := Lib.hid hd; replace HR := Lib.hid (HR.out.grown hg (by intro e; injection e with e; have := HGD.out; omega)); replace HC := Lib.hid (cur_far HC.out hg (by have := HGD.out; have := HLT.out; omega)); replace HG := Lib.hid (g_new HG.out hg (by have := HGD.out; omega)); replace HDL := Lib.hid (Nat.lt_of_lt_of_le HDL.out hg.size); clear hd hg; have n0 : w2.cell? ⟨w.heap.size, 0, none⟩ = some (.string ⟨#[]⟩) := HR.out.cell 0; have y0 := HR.out.frozen 0; have n1 : w2.cell? ⟨w.heap.size, 1, none⟩ = some (.string ⟨#[]⟩) := HR.out.cell 1; have y1 := HR.out.frozen 1)
    | fail)
  have hE : Blk ((w2.setCell ⟨w.heap.size, 0, none⟩ (.string ⟨v1.toArray⟩)).setCell ⟨w.heap.size, 1, none⟩ (.string ⟨v2.toArray⟩)) w.heap.size 23 #[.string ⟨v1.toArray⟩, .string ⟨v2.toArray⟩] := ((HR.out.set 0 (.string ⟨v1.toArray⟩)).set 1 (.string ⟨v2.toArray⟩))
  have hp := (g_set (g_set (World.grownBy.refl w2 (some w.heap.size)) (p := ⟨w.heap.size, 0, none⟩) (.inl rfl) (.string ⟨v1.toArray⟩)) (p := ⟨w.heap.size, 1, none⟩) (.inl rfl) (.string ⟨v2.toArray⟩))
  have hq := load_blk (P := Tryz.prog) hE Tryz.underlying23 rfl (by kernel_rfl)
  refine bodyPost_ret (v := .agg #[.string ⟨v1.toArray⟩, .string ⟨v2.toArray⟩]) ?_ ?_ ?_
  · exact results_cell 2 23 ⟨w.heap.size, 0, none⟩ Tryz.results109 rfl hq
  · rfl
  exact ⟨rfl, cur_far HC.out hp (by have := HLT.out; omega), g_new HG.out hp (Nat.le_refl _)⟩
set_option maxHeartbeats 3200000 in
theorem taketicket_any (g : Nat) (c : Option L) (w : World) (h : Cur w g c) (hs : (c.getD []).length ≤ 100000) : Calls Tryz.prog 121 #[.pointer (some ⟨g, 0, none⟩)] w fun e w' => ∃ z3, e = .returned (.agg #[.string ⟨(tkQ c).1.s.1.toArray⟩, .string ⟨(tkQ c).1.s.2.toArray⟩, .int .i64 (tkQ c).1.k, z3]) ∧ OwnB w' w.heap.size z3 (tkQ c).1.b ∧ Cur w' g (tkQ c).2 ∧ w.grownBy w' (some g) := by
  obtain ⟨W, eW⟩ : ∃ W, W = w.alloc (.cells #[.string ⟨#[]⟩, .string ⟨#[]⟩, .int .i64 0, .slice none 0 0] 28) := ⟨_, rfl⟩
  have hWs : W.heap.size = w.heap.size + 1 := by rw [eW]; simp
  have HR := Lib.hid (show Blk W w.heap.size 28 #[.string ⟨#[]⟩, .string ⟨#[]⟩, .int .i64 0, .slice none 0 0] by rw [eW]; exact Blk.new _ _ _)
  have hlt := cur_lt h
  have hc0 : Cur W g c := by rw [eW]; exact h.alloc _
  have HG := Lib.hid (show w.grownBy W (some g) by rw [eW]; exact g_alloc (World.grownBy.refl _ _) _)
  have c1 := into_any 97 g c W hc0 (by omega)
  have hs0 := bd_len 97 hs
  obtain ⟨s0, es0⟩ : ∃ s, s = bodyC 97 c := ⟨_, rfl⟩
  obtain ⟨r, er⟩ : ∃ s, s = nextC 97 c := ⟨_, rfl⟩
  rw [← es0] at c1 hs0
  rw [← er] at c1
  have HLT := Lib.hid hlt
  have hs1 : (((prQ s0).2).getD []).length ≤ 100000 := nx_len 48 hs0
  have T1 := Lib.hid (fun g w h => takeprinc_any g s0 w h hs0)
  obtain ⟨v1, ev1⟩ : ∃ x : Pr, x = (prQ s0).1 := ⟨_, rfl⟩
  obtain ⟨s1, es1⟩ : ∃ s, s = (prQ s0).2 := ⟨_, rfl⟩
  rw [← ev1, ← es1] at T1
  rw [← es1] at hs1
  have hs2 : (((intC s1).2).getD []).length ≤ 100000 := it_len hs1
  have T2 := Lib.hid (fun g w h => int_any g s1 w h (by omega))
  obtain ⟨v2, ev2⟩ : ∃ x : Int, x = ((intC s1).1 : Int) := ⟨_, rfl⟩
  obtain ⟨s2, es2⟩ : ∃ s, s = (intC s1).2 := ⟨_, rfl⟩
  rw [← ev2, ← es2] at T2
  rw [← es2] at hs2
  have hs3 : ((nextC 4 s2).getD []).length ≤ 100000 := nx_len 4 hs2
  have T3 := Lib.hid (fun g w h => takeoct_any g s2 w h (by omega))
  obtain ⟨v3, ev3⟩ : ∃ x : L, x = ocC s2 := ⟨_, rfl⟩
  obtain ⟨s3, es3⟩ : ∃ s, s = nextC 4 s2 := ⟨_, rfl⟩
  rw [← ev3, ← es3] at T3
  rw [← es3] at hs3
  have FV1 := Lib.hid (show (tkQ c).1.s = v1 by rw [ev1, es0]; rfl)
  have FV2 := Lib.hid (show (tkQ c).1.k = v2 by rw [ev2, es1, es0]; rfl)
  have FV3 := Lib.hid (show (tkQ c).1.b = v3 by rw [ev3, es2, es1, es0]; rfl)
  have FS := Lib.hid (show (tkQ c).2 = r by rw [er]; rfl)
  rw [FV1.out, FV2.out, FV3.out, FS.out]
  clear h hs hs0 hs1 hs2 hs3 FV1 ev1 es1 FV2 ev2 es2 FV3 ev3 es3 es0 FS hlt er hc0
  have HWS := Lib.hid hWs
  clear hWs
  subst eW
  go_enter Tryz.func121, Tryz.ntmps121
  go_wp2_with (first
    | (go_at_call 89; refine Calls.mono c1 ?_; rintro e wi ⟨⟨gd, rfl, hgd, hd⟩, hc, hg⟩; clear c1; have HD := Lib.hid hd; have HC := Lib.hid hc; have HGD := Lib.hid (show w.heap.size + 1 ≤ gd by have := HWS.out; omega); have HDL := Lib.hid (cur_lt hd); replace HR := Lib.hid (HR.out.grown hg (by intro e; injection e with e; have := HLT.out; omega)); replace HG := Lib.hid (g_same HG.out hg); clear hgd hd hc hg)
    | (go_at_call 109; (with_reducible refine Calls.mono (T1.out _ _ HD.out) ?_); rintro e w1 ⟨rfl, hd, hg⟩; clear T1; replace HD := Lib.hid hd; replace HR := Lib.hid (HR.out.grown hg (by intro e; injection e with e; have := HGD.out; omega)); replace HC := Lib.hid (cur_far HC.out hg (by have := HGD.out; have := HLT.out; omega)); replace HG := Lib.hid (g_new HG.out hg (by have := HGD.out; omega)); replace HDL := Lib.hid (Nat.lt_of_lt_of_le HDL.out hg.size); clear hd hg)
    | (go_at_call 112; (with_reducible refine Calls.mono (T2.out _ _ HD.out) ?_); rintro e w2 ⟨rfl, hd, hg⟩; clear T2; replace HD := Lib.hid hd; replace HR := Lib.hid (HR.out.grown hg (by intro e; injection e with e; have := HGD.out; omega)); replace HC := Lib.hid (cur_far HC.out hg (by have := HGD.out; have := HLT.out; omega)); replace HG := Lib.hid (g_new HG.out hg (by have := HGD.out; omega)); replace HDL := Lib.hid (Nat.lt_of_lt_of_le HDL.out hg.size); clear hd hg)
    | (go_at_call 122; (with_reducible refine Calls.mono (T3.out _ _ HD.out) ?_); rintro e w3 ⟨⟨y, rfl, ho⟩, hd, hg⟩; clear T3; replace ho := ho.less (show gd + 1 ≤ _ from HDL.out); obtain ⟨b3, c3, rfl, x1, x2, x3, x4⟩ := ho; have HO3 : Hid (OwnB w3 (gd + 1) (.slice (some ⟨b3, 0, none⟩) _ c3) _) := Lib.hid ⟨b3, c3, rfl, x1, x2, x3, x4⟩; clear x1 x2 x3 x4; replace HD := Lib.hid hd; replace HR := Lib.hid (HR.out.grown hg (by intro e; injection e with e; have := HGD.out; omega)); replace HC := Lib.hid (cur_far HC.out hg (by have := HGD.out; have := HLT.out; omega)); replace HG := Lib.hid (g_new HG.out hg (by have := HGD.out; omega)); replace HDL := Lib.hid (Nat.lt_of_lt_of_le HDL.out hg.size); clear hd hg; have n0 : w3.cell? ⟨w.heap.size, 0, none⟩ = some (.string ⟨#[]⟩) := HR.out.cell 0; have y0 := HR.out.frozen 0; have n1 : w3.cell? ⟨w.heap.size, 1, none⟩ = some (.string ⟨#[]⟩) := HR.out.cell 1; have y1 := HR.out.frozen 1; have n2 : w3.cell? ⟨w.heap.size, 2, none⟩ = some (.int .i64 0) := HR.out.cell 2; have y2 := HR.out.frozen 2; have n3 : w3.cell? ⟨w.heap.size, 3, none⟩ = some (.slice none 0 0) := HR.out.cell 3; have y3 := HR.out.frozen 3)
    | fail)
  have hE : Blk ((((w3.setCell ⟨w.heap.size, 0, none⟩ (.string ⟨v1.1.toArray⟩)).setCell ⟨w.heap.size, 1, none⟩ (.string ⟨v1.2.toArray⟩)).setCell ⟨w.heap.size, 2, none⟩ (.int .i64 v2)).setCell ⟨w.heap.size, 3, none⟩ (.slice (some ⟨b3, 0, none⟩) v3.length c3)) w.heap.size 28 #[.string ⟨v1.1.toArray⟩, .string ⟨v1.2.toArray⟩, .int .i64 v2, .slice (some ⟨b3, 0, none⟩) v3.length c3] := ((((HR.out.set 0 (.string ⟨v1.1.toArray⟩)).set 1 (.string ⟨v1.2.toArray⟩)).set 2 (.int .i64 v2)).set 3 (.slice (some ⟨b3, 0, none⟩) v3.length c3))
  have hp := (g_set (g_set (g_set (g_set (World.grownBy.refl w3 (some w.heap.size)) (p := ⟨w.heap.size, 0, none⟩) (.inl rfl) (.string ⟨v1.1.toArray⟩)) (p := ⟨w.heap.size, 1, none⟩) (.inl rfl) (.string ⟨v1.2.toArray⟩)) (p := ⟨w.heap.size, 2, none⟩) (.inl rfl) (.int .i64 v2)) (p := ⟨w.heap.size, 3, none⟩) (.inl rfl) (.slice (some ⟨b3, 0, none⟩) v3.length c3))
  have hq := load_blk (P := Tryz.prog) hE Tryz.underlying28 rfl (by kernel_rfl)
  refine bodyPost_ret (v := .agg #[.string ⟨v1.1.toArray⟩, .string ⟨v1.2.toArray⟩, .int .i64 v2, .slice (some ⟨b3, 0, none⟩) v3.length c3]) ?_ ?_ ?_
  · exact results_cell 2 28 ⟨w.heap.size, 0, none⟩ Tryz.results121 rfl hq
  · rfl
  exact ⟨_, rfl, (HO3.out.keep hp (by have := HGD.out; omega)).less (by have := HGD.out; omega), cur_far HC.out hp (by have := HLT.out; omega), g_new HG.out hp (Nat.le_refl _)⟩
set_option maxHeartbeats 3200000 in
theorem takeas_any (g : Nat) (c : Option L) (w : World) (h : Cur w g c) (hs : (c.getD []).length ≤ 100000) : Calls Tryz.prog 90 #[.pointer (some ⟨g, 0, none⟩)] w fun e w' => e = .returned (.agg #[.string ⟨(asQ c).1.c.1.toArray⟩, .string ⟨(asQ c).1.c.2.toArray⟩, .string ⟨(asQ c).1.s.1.toArray⟩, .string ⟨(asQ c).1.s.2.toArray⟩, .int .i64 (asQ c).1.t, .int .i64 (asQ c).1.no]) ∧ Cur w' g (asQ c).2 ∧ w.grownBy w' (some g) := by
  obtain ⟨W, eW⟩ : ∃ W, W = w.alloc (.cells #[.string ⟨#[]⟩, .string ⟨#[]⟩, .string ⟨#[]⟩, .string ⟨#[]⟩, .int .i64 0, .int .i64 0] 25) := ⟨_, rfl⟩
  have hWs : W.heap.size = w.heap.size + 1 := by rw [eW]; simp
  have HR := Lib.hid (show Blk W w.heap.size 25 #[.string ⟨#[]⟩, .string ⟨#[]⟩, .string ⟨#[]⟩, .string ⟨#[]⟩, .int .i64 0, .int .i64 0] by rw [eW]; exact Blk.new _ _ _)
  have hlt := cur_lt h
  have HC := Lib.hid (show Cur W g c by rw [eW]; exact h.alloc _)
  have HG := Lib.hid (show w.grownBy W (some g) by rw [eW]; exact g_alloc (World.grownBy.refl _ _) _)
  have hs0 := hs
  obtain ⟨s0, es0⟩ : ∃ s, s = c := ⟨_, rfl⟩
  rw [← es0] at HC hs0
  have HLT := Lib.hid hlt
  have HDL := Lib.hid (show w.heap.size < W.heap.size by omega)
  have hs1 : (((prQ s0).2).getD []).length ≤ 100000 := nx_len 48 hs0
  have T1 := Lib.hid (fun g w h => takeprinc_any g s0 w h hs0)
  obtain ⟨v1, ev1⟩ : ∃ x : Pr, x = (prQ s0).1 := ⟨_, rfl⟩
  obtain ⟨s1, es1⟩ : ∃ s, s = (prQ s0).2 := ⟨_, rfl⟩
  rw [← ev1, ← es1] at T1
  rw [← es1] at hs1
  have hs2 : (((prQ s1).2).getD []).length ≤ 100000 := nx_len 48 hs1
  have T2 := Lib.hid (fun g w h => takeprinc_any g s1 w h hs1)
  obtain ⟨v2, ev2⟩ : ∃ x : Pr, x = (prQ s1).1 := ⟨_, rfl⟩
  obtain ⟨s2, es2⟩ : ∃ s, s = (prQ s1).2 := ⟨_, rfl⟩
  rw [← ev2, ← es2] at T2
  rw [← es2] at hs2
  have hs3 : (((intC s2).2).getD []).length ≤ 100000 := it_len hs2
  have T3 := Lib.hid (fun g w h => int_any g s2 w h (by omega))
  obtain ⟨v3, ev3⟩ : ∃ x : Int, x = ((intC s2).1 : Int) := ⟨_, rfl⟩
  obtain ⟨s3, es3⟩ : ∃ s, s = (intC s2).2 := ⟨_, rfl⟩
  rw [← ev3, ← es3] at T3
  rw [← es3] at hs3
  have hs4 : (((intC s3).2).getD []).length ≤ 100000 := it_len hs3
  have T4 := Lib.hid (fun g w h => int_any g s3 w h (by omega))
  obtain ⟨v4, ev4⟩ : ∃ x : Int, x = ((intC s3).1 : Int) := ⟨_, rfl⟩
  obtain ⟨s4, es4⟩ : ∃ s, s = (intC s3).2 := ⟨_, rfl⟩
  rw [← ev4, ← es4] at T4
  rw [← es4] at hs4
  have FV1 := Lib.hid (show (asQ c).1.c = v1 by rw [ev1, es0]; rfl)
  have FV2 := Lib.hid (show (asQ c).1.s = v2 by rw [ev2, es1, es0]; rfl)
  have FV3 := Lib.hid (show (asQ c).1.t = v3 by rw [ev3, es2, es1, es0]; rfl)
  have FV4 := Lib.hid (show (asQ c).1.no = v4 by rw [ev4, es3, es2, es1, es0]; rfl)
  have FS := Lib.hid (show (asQ c).2 = s4 by rw [es4, es3, es2, es1, es0]; rfl)
  rw [FV1.out, FV2.out, FV3.out, FV4.out, FS.out]
  clear h hs hs0 hs1 hs2 hs3 hs4 FV1 ev1 es1 FV2 ev2 es2 FV3 ev3 es3 FV4 ev4 es4 es0 FS hlt
  have HWS := Lib.hid hWs
  clear hWs
  subst eW
  go_enter Tryz.func90, Tryz.ntmps90
  go_wp2_with (first
    | (go_at_call 109; (with_reducible refine Calls.mono (T1.out _ _ HC.out) ?_); rintro e w1 ⟨rfl, hd, hg⟩; clear T1; replace HC := Lib.hid hd; replace HR := Lib.hid (HR.out.grown hg (by intro e; injection e with e; have := HLT.out; omega)); replace HG := Lib.hid (g_same HG.out hg); replace HDL := Lib.hid (Nat.lt_of_lt_of_le HDL.out hg.size); clear hd hg)
    | (go_at_call 109; (with_reducible refine Calls.mono (T2.out _ _ HC.out) ?_); rintro e w2 ⟨rfl, hd, hg⟩; clear T2; replace HC := Lib.hid hd; replace HR := Lib.hid (HR.out.grown hg (by intro e; injection e with e; have := HLT.out; omega)); replace HG := Lib.hid (g_same HG.out hg); replace HDL := Lib.hid (Nat.lt_of_lt_of_le HDL.out hg.size); clear hd hg)
    | (go_at_call 112; (with_reducible refine Calls.mono (T3.out _ _ HC.out) ?_); rintro e w3 ⟨rfl, hd, hg⟩; clear T3; replace HC := Lib.hid hd; replace HR := Lib.hid (HR.out.grown hg (by intro e; injection e with e; have := HLT.out; omega)); replace HG := Lib.hid (g_same HG.out hg); replace HDL := Lib.hid (Nat.lt_of_lt_of_le HDL.out hg.size); clear hd hg)
    | (go_at_call 112; (with_reducible refine Calls.mono (T4.out _ _ HC.out) ?_); rintro e w4 ⟨rfl, hd, hg⟩; clear T4; replace HC := Lib.hid hd; replace HR := Lib.hid (HR.out.grown hg (by intro e; injection e with e; have := HLT.out; omega)); replace HG := Lib.hid (g_same HG.out hg); replace HDL := Lib.hid (Nat.lt_of_lt_of_le HDL.out hg.size); clear hd hg; have n0 : w4.cell? ⟨w.heap.size, 0, none⟩ = some (.string ⟨#[]⟩) := HR.out.cell 0; have y0 := HR.out.frozen 0; have n1 : w4.cell? ⟨w.heap.size, 1, none⟩ = some (.string ⟨#[]⟩) := HR.out.cell 1; have y1 := HR.out.frozen 1; have n2 : w4.cell? ⟨w.heap.size, 2, none⟩ = some (.string ⟨#[]⟩) := HR.out.cell 2; have y2 := HR.out.frozen 2; have n3 : w4.cell? ⟨w.heap.size, 3, none⟩ = some (.string ⟨#[]⟩) := HR.out.cell 3; have y3 := HR.out.frozen 3; have n4 : w4.cell? ⟨w.heap.size, 4, none⟩ = some (.int .i64 0) := HR.out.cell 4; have y4 := HR.out.frozen 4; have n5 : w4.cell? ⟨w.heap.size, 5, none⟩ = some (.int .i64 0) := HR.out.cell 5; have y5 := HR.out.frozen 5)
    | fail)
  have hE : Blk ((((((w4.setCell ⟨w.heap.size, 0, none⟩ (.string ⟨v1.1.toArray⟩)).setCell ⟨w.heap.size, 1, none⟩ (.string ⟨v1.2.toArray⟩)).setCell ⟨w.heap.size, 2, none⟩ (.string ⟨v2.1.toArray⟩)).setCell ⟨w.heap.size, 3, none⟩ (.string ⟨v2.2.toArray⟩)).setCell ⟨w.heap.size, 4, none⟩ (.int .i64 v3)).setCell ⟨w.heap.size, 5, none⟩ (.int .i64 v4)) w.heap.size 25 #[.string ⟨v1.1.toArray⟩, .string ⟨v1.2.toArray⟩, .string ⟨v2.1.toArray⟩, .string ⟨v2.2.toArray⟩, .int .i64 v3, .int .i64 v4] := ((((((HR.out.set 0 (.string ⟨v1.1.toArray⟩)).set 1 (.string ⟨v1.2.toArray⟩)).set 2 (.string ⟨v2.1.toArray⟩)).set 3 (.string ⟨v2.2.toArray⟩)).set 4 (.int .i64 v3)).set 5 (.int .i64 v4))
  have hp := (g_set (g_set (g_set (g_set (g_set (g_set (World.grownBy.refl w4 (some w.heap.size)) (p := ⟨w.heap.size, 0, none⟩) (.inl rfl) (.string ⟨v1.1.toArray⟩)) (p := ⟨w.heap.size, 1, none⟩) (.inl rfl) (.string ⟨v1.2.toArray⟩)) (p := ⟨w.heap.size, 2, none⟩) (.inl rfl) (.string ⟨v2.1.toArray⟩)) (p := ⟨w.heap.size, 3, none⟩) (.inl rfl) (.string ⟨v2.2.toArray⟩)) (p := ⟨w.heap.size, 4, none⟩) (.inl rfl) (.int .i64 v3)) (p := ⟨w.heap.size, 5, none⟩) (.inl rfl) (.int .i64 v4))
  have hq := load_blk (P := Tryz.prog) hE Tryz.underlying25 rfl (by kernel_rfl)
  refine bodyPost_ret (v := .agg #[.string ⟨v1.1.toArray⟩, .string ⟨v1.2.toArray⟩, .string ⟨v2.1.toArray⟩, .string ⟨v2.2.toArray⟩, .int .i64 v3, .int .i64 v4]) ?_ ?_ ?_
  · exact results_cell 2 25 ⟨w.heap.size, 0, none⟩ Tryz.results90 rfl hq
  · rfl
  exact ⟨rfl, cur_far HC.out hp (by have := HLT.out; omega), g_new HG.out hp (Nat.le_refl _)⟩
set_option maxHeartbeats 3200000 in
theorem takere_any (g : Nat) (c : Option L) (w : World) (h : Cur w g c) (hs : (c.getD []).length ≤ 100000) : Calls Tryz.prog 92 #[.pointer (some ⟨g, 0, none⟩)] w fun e w' => ∃ z2, ∃ z3, e = .returned (.agg #[.string ⟨(reQ c).1.c.1.toArray⟩, .string ⟨(reQ c).1.c.2.toArray⟩, .string ⟨(reQ c).1.t.s.1.toArray⟩, .string ⟨(reQ c).1.t.s.2.toArray⟩, .int .i64 (reQ c).1.t.k, z2, z3]) ∧ OwnB w' w.heap.size z2 (reQ c).1.t.b ∧ OwnB w' w.heap.size z3 (reQ c).1.b ∧ Cur w' g (reQ c).2 ∧ w.grownBy w' (some g) := by
  obtain ⟨W, eW⟩ : ∃ W, W = w.alloc (.cells #[.string ⟨#[]⟩, .string ⟨#[]⟩, .string ⟨#[]⟩, .string ⟨#[]⟩, .int .i64 0, .slice none 0 0, .slice none 0 0] 32) := ⟨_, rfl⟩
  have hWs : W.heap.size = w.heap.size + 1 := by rw [eW]; simp
  have HR := Lib.hid (show Blk W w.heap.size 32 #[.string ⟨#[]⟩, .string ⟨#[]⟩, .string ⟨#[]⟩, .string ⟨#[]⟩, .int .i64 0, .slice none 0 0, .slice none 0 0] by rw [eW]; exact Blk.new _ _ _)
  have hlt := cur_lt h
  have HC := Lib.hid (show Cur W g c by rw [eW]; exact h.alloc _)
  have HG := Lib.hid (show w.grownBy W (some g) by rw [eW]; exact g_alloc (World.grownBy.refl _ _) _)
  have hs0 := hs
  obtain ⟨s0, es0⟩ : ∃ s, s = c := ⟨_, rfl⟩
  rw [← es0] at HC hs0
  have HLT := Lib.hid hlt
  have HDL := Lib.hid (show w.heap.size < W.heap.size by omega)
  have hs1 : (((prQ s0).2).getD []).length ≤ 100000 := nx_len 48 hs0
  have T1 := Lib.hid (fun g w h => takeprinc_any g s0 w h hs0)
  obtain ⟨v1, ev1⟩ : ∃ x : Pr, x = (prQ s0).1 := ⟨_, rfl⟩
  obtain ⟨s1, es1⟩ : ∃ s, s = (prQ s0).2 := ⟨_, rfl⟩
  rw [← ev1, ← es1] at T1
  rw [← es1] at hs1
  have hs2 : (((tkQ s1).2).getD []).length ≤ 100000 := nx_len 97 hs1
  have T2 := Lib.hid (fun g w h => taketicket_any g s1 w h hs1)
  obtain ⟨v2, ev2⟩ : ∃ x : Tk, x = (tkQ s1).1 := ⟨_, rfl⟩
  obtain ⟨s2, es2⟩ : ∃ s, s = (tkQ s1).2 := ⟨_, rfl⟩
  rw [← ev2, ← es2] at T2
  rw [← es2] at hs2
  have hs3 : ((nextC 4 s2).getD []).length ≤ 100000 := nx_len 4 hs2
  have T3 := Lib.hid (fun g w h => takeoct_any g s2 w h (by omega))
  obtain ⟨v3, ev3⟩ : ∃ x : L, x = ocC s2 := ⟨_, rfl⟩
  obtain ⟨s3, es3⟩ : ∃ s, s = nextC 4 s2 := ⟨_, rfl⟩
  rw [← ev3, ← es3] at T3
  rw [← es3] at hs3
  have FV1 := Lib.hid (show (reQ c).1.c = v1 by rw [ev1, es0]; rfl)
  have FV2 := Lib.hid (show (reQ c).1.t = v2 by rw [ev2, es1, es0]; rfl)
  have FV3 := Lib.hid (show (reQ c).1.b = v3 by rw [ev3, es2, es1, es0]; rfl)
  have FS := Lib.hid (show (reQ c).2 = s3 by rw [es3, es2, es1, es0]; rfl)
  rw [FV1.out, FV2.out, FV3.out, FS.out]
  clear h hs hs0 hs1 hs2 hs3 FV1 ev1 es1 FV2 ev2 es2 FV3 ev3 es3 es0 FS hlt
  have HWS := Lib.hid hWs
  clear hWs
  subst eW
  go_enter Tryz.func92, Tryz.ntmps92
  go_wp2_with (first
    | (go_at_call 109; (with_reducible refine Calls.mono (T1.out _ _ HC.out) ?_); rintro e w1 ⟨rfl, hd, hg⟩; clear T1; replace HC := Lib.hid hd; replace HR := Lib.hid (HR.out.grown hg (by intro e; injection e with e; have := HLT.out; omega)); replace HG := Lib.hid (g_same HG.out hg); replace HDL := Lib.hid (Nat.lt_of_lt_of_le HDL.out hg.size); clear hd hg)
    | (go_at_call 121; (with_reducible refine Calls.mono (T2.out _ _ HC.out) ?_); rintro e w2 ⟨y, rfl, ho, hd, hg⟩; clear T2; replace ho := ho.less (show w.heap.size + 1 ≤ _ from HDL.out); obtain ⟨b2, c2, rfl, x1, x2, x3, x4⟩ := ho; have HO2 : Hid (OwnB w2 (w.heap.size + 1) (.slice (some ⟨b2, 0, none⟩) _ c2) _) := Lib.hid ⟨b2, c2, rfl, x1, x2, x3, x4⟩; clear x1 x2 x3 x4; replace HC := Lib.hid hd; replace HR := Lib.hid (HR.out.grown hg (by intro e; injection e with e; have := HLT.out; omega)); replace HG := Lib.hid (g_same HG.out hg); replace HDL := Lib.hid (Nat.lt_of_lt_of_le HDL.out hg.size); clear hd hg)
    | (go_at_call 122; (with_reducible refine Calls.mono (T3.out _ _ HC.out) ?_); rintro e w3 ⟨⟨y, rfl, ho⟩, hd, hg⟩; clear T3; replace ho := ho.less (show w.heap.size + 1 ≤ _ from HDL.out); obtain ⟨b3, c3, rfl, x1, x2, x3, x4⟩ := ho; have HO3 : Hid (OwnB w3 (w.heap.size + 1) (.slice (some ⟨b3, 0, none⟩) _ c3) _) := Lib.hid ⟨b3, c3, rfl, x1, x2, x3, x4⟩; clear x1 x2 x3 x4; replace HC := Lib.hid hd; replace HO2 := Lib.hid (HO2.out.keep hg (by have := HLT.out; omega)); replace HR := Lib.hid (HR.out.grown hg (by intro e; injection e with e; have := HLT.out; omega)); replace HG := Lib.hid (g_same HG.out hg); replace HDL := Lib.hid (Nat.lt_of_lt_of_le HDL.out hg.size); clear hd hg; have n0 : w3.cell? ⟨w.heap.size, 0, none⟩ = some (.string ⟨#[]⟩) := HR.out.cell 0; have y0 := HR.out.frozen 0; have n1 : w3.cell? ⟨w.heap.size, 1, none⟩ = some (.string ⟨#[]⟩) := HR.out.cell 1; have y1 := HR.out.frozen 1; have n2 : w3.cell? ⟨w.heap.size, 2, none⟩ = some (.string ⟨#[]⟩) := HR.out.cell 2; have y2 := HR.out.frozen 2; have n3 : w3.cell? ⟨w.heap.size, 3, none⟩ = some (.string ⟨#[]⟩) := HR.out.cell 3; have y3 := HR.out.frozen 3; have n4 : w3.cell? ⟨w.heap.size, 4, none⟩ = some (.int .i64 0) := HR.out.cell 4; have y4 := HR.out.frozen 4; have n5 : w3.cell? ⟨w.heap.size, 5, none⟩ = some (.slice none 0 0) := HR.out.cell 5; have y5 := HR.out.frozen 5; have n6 : w3.cell? ⟨w.heap.size, 6, none⟩ = some (.slice none 0 0) := HR.out.cell 6; have y6 := HR.out.frozen 6)
    | fail)
  have hE : Blk (((((((w3.setCell ⟨w.heap.size, 0, none⟩ (.string ⟨v1.1.toArray⟩)).setCell ⟨w.heap.size, 1, none⟩ (.string ⟨v1.2.toArray⟩)).setCell ⟨w.heap.size, 2, none⟩ (.string ⟨v2.s.1.toArray⟩)).setCell ⟨w.heap.size, 3, none⟩ (.string ⟨v2.s.2.toArray⟩)).setCell ⟨w.heap.size, 4, none⟩ (.int .i64 v2.k)).setCell ⟨w.heap.size, 5, none⟩ (.slice (some ⟨b2, 0, none⟩) v2.b.length c2)).setCell ⟨w.heap.size, 6, none⟩ (.slice (some ⟨b3, 0, none⟩) v3.length c3)) w.heap.size 32 #[.string ⟨v1.1.toArray⟩, .string ⟨v1.2.toArray⟩, .string ⟨v2.s.1.toArray⟩, .string ⟨v2.s.2.toArray⟩, .int .i64 v2.k, .slice (some ⟨b2, 0, none⟩) v2.b.length c2, .slice (some ⟨b3, 0, none⟩) v3.length c3] := (((((((HR.out.set 0 (.string ⟨v1.1.toArray⟩)).set 1 (.string ⟨v1.2.toArray⟩)).set 2 (.string ⟨v2.s.1.toArray⟩)).set 3 (.string ⟨v2.s.2.toArray⟩)).set 4 (.int .i64 v2.k)).set 5 (.slice (some ⟨b2, 0, none⟩) v2.b.length c2)).set 6 (.slice (some ⟨b3, 0, none⟩) v3.length c3))
  have hp := (g_set (g_set (g_set (g_set (g_set (g_set (g_set (World.grownBy.refl w3 (some w.heap.size)) (p := ⟨w.heap.size, 0, none⟩) (.inl rfl) (.string ⟨v1.1.toArray⟩)) (p := ⟨w.heap.size, 1, none⟩) (.inl rfl) (.string ⟨v1.2.toArray⟩)) (p := ⟨w.heap.size, 2, none⟩) (.inl rfl) (.string ⟨v2.s.1.toArray⟩)) (p := ⟨w.heap.size, 3, none⟩) (.inl rfl) (.string ⟨v2.s.2.toArray⟩)) (p := ⟨w.heap.size, 4, none⟩) (.inl rfl) (.int .i64 v2.k)) (p := ⟨w.heap.size, 5, none⟩) (.inl rfl) (.slice (some ⟨b2, 0, none⟩) v2.b.length c2)) (p := ⟨w.heap.size, 6, none⟩) (.inl rfl) (.slice (some ⟨b3, 0, none⟩) v3.length c3))
  have hq := load_blk (P := Tryz.prog) hE Tryz.underlying32 rfl (by kernel_rfl)
  refine bodyPost_ret (v := .agg #[.string ⟨v1.1.toArray⟩, .string ⟨v1.2.toArray⟩, .string ⟨v2.s.1.toArray⟩, .string ⟨v2.s.2.toArray⟩, .int .i64 v2.k, .slice (some ⟨b2, 0, none⟩) v2.b.length c2, .slice (some ⟨b3, 0, none⟩) v3.length c3]) ?_ ?_ ?_
  · exact results_cell 2 32 ⟨w.heap.size, 0, none⟩ Tryz.results92 rfl hq
  · rfl
  exact ⟨_, _, rfl, (HO2.out.keep hp (by omega)).less (by omega), (HO3.out.keep hp (by omega)).less (by omega), cur_far HC.out hp (by have := HLT.out; omega), g_new HG.out hp (Nat.le_refl _)⟩
set_option maxHeartbeats 3200000 in
theorem takeap_any (g : Nat) (c : Option L) (w : World) (h : Cur w g c) (hs : (c.getD []).length ≤ 100000) : Calls Tryz.prog 93 #[.pointer (some ⟨g, 0, none⟩)] w fun e w' => ∃ z1, ∃ z2, e = .returned (.agg #[.string ⟨(apQ c).1.t.s.1.toArray⟩, .string ⟨(apQ c).1.t.s.2.toArray⟩, .int .i64 (apQ c).1.t.k, z1, z2]) ∧ OwnB w' w.heap.size z1 (apQ c).1.t.b ∧ OwnB w' w.heap.size z2 (apQ c).1.a ∧ Cur w' g (apQ c).2 ∧ w.grownBy w' (some g) := by
  obtain ⟨W, eW⟩ : ∃ W, W = w.alloc (.cells #[.string ⟨#[]⟩, .string ⟨#[]⟩, .int .i64 0, .slice none 0 0, .slice none 0 0] 34) := ⟨_, rfl⟩
  have hWs : W.heap.size = w.heap.size + 1 := by rw [eW]; simp
  have HR := Lib.hid (show Blk W w.heap.size 34 #[.string ⟨#[]⟩, .string ⟨#[]⟩, .int .i64 0, .slice none 0 0, .slice none 0 0] by rw [eW]; exact Blk.new _ _ _)
  have hlt := cur_lt h
  have HC := Lib.hid (show Cur W g c by rw [eW]; exact h.alloc _)
  have HG := Lib.hid (show w.grownBy W (some g) by rw [eW]; exact g_alloc (World.grownBy.refl _ _) _)
  have hs0 := hs
  obtain ⟨s0, es0⟩ : ∃ s, s = c := ⟨_, rfl⟩
  rw [← es0] at HC hs0
  have HLT := Lib.hid hlt
  have HDL := Lib.hid (show w.heap.size < W.heap.size by omega)
  have hs1 : (((tkQ s0).2).getD []).length ≤ 100000 := nx_len 97 hs0
  have T1 := Lib.hid (fun g w h => taketicket_any g s0 w h hs0)
  obtain ⟨v1, ev1⟩ : ∃ x : Tk, x = (tkQ s0).1 := ⟨_, rfl⟩
  obtain ⟨s1, es1⟩ : ∃ s, s = (tkQ s0).2 := ⟨_, rfl⟩
  rw [← ev1, ← es1] at T1
  rw [← es1] at hs1
  have hs2 : ((nextC 4 s1).getD []).length ≤ 100000 := nx_len 4 hs1
  have T2 := Lib.hid (fun g w h => takeoct_any g s1 w h (by omega))
  obtain ⟨v2, ev2⟩ : ∃ x : L, x = ocC s1 := ⟨_, rfl⟩
  obtain ⟨s2, es2⟩ : ∃ s, s = nextC 4 s1 := ⟨_, rfl⟩
  rw [← ev2, ← es2] at T2
  rw [← es2] at hs2
  have FV1 := Lib.hid (show (apQ c).1.t = v1 by rw [ev1, es0]; rfl)
  have FV2 := Lib.hid (show (apQ c).1.a = v2 by rw [ev2, es1, es0]; rfl)
  have FS := Lib.hid (show (apQ c).2 = s2 by rw [es2, es1, es0]; rfl)
  rw [FV1.out, FV2.out, FS.out]
  clear h hs hs0 hs1 hs2 FV1 ev1 es1 FV2 ev2 es2 es0 FS hlt
  have HWS := Lib.hid hWs
  clear hWs
  subst eW
  go_enter Tryz.func93, Tryz.ntmps93
  go_wp2_with (first
    | (go_at_call 121; (with_reducible refine Calls.mono (T1.out _ _ HC.out) ?_); rintro e w1 ⟨y, rfl, ho, hd, hg⟩; clear T1; replace ho := ho.less (show w.heap.size + 1 ≤ _ from HDL.out); obtain ⟨b1, c1, rfl, x1, x2, x3, x4⟩ := ho; have HO1 : Hid (OwnB w1 (w.heap.size + 1) (.slice (some ⟨b1, 0, none⟩) _ c1) _) := Lib.hid ⟨b1, c1, rfl, x1, x2, x3, x4⟩; clear x1 x2 x3 x4; replace HC := Lib.hid hd; replace HR := Lib.hid (HR.out.grown hg (by intro e; injection e with e; have := HLT.out; omega)); replace HG := Lib.hid (g_same HG.out hg); replace HDL := Lib.hid (Nat.lt_of_lt_of_le HDL.out hg.size); clear hd hg)
    | (go_at_call 122; (with_reducible refine Calls.mono (T2.out _ _ HC.out) ?_); rintro e w2 ⟨⟨y, rfl, ho⟩, hd, hg⟩; clear T2; replace ho := ho.less (show w.heap.size + 1 ≤ _ from HDL.out); obtain ⟨b2, c2, rfl, x1, x2, x3, x4⟩ := ho; have HO2 : Hid (OwnB w2 (w.heap.size + 1) (.slice (some ⟨b2, 0, none⟩) _ c2) _) := Lib.hid ⟨b2, c2, rfl, x1, x2, x3, x4⟩; clear x1 x2 x3 x4; replace HC := Lib.hid hd; replace HO1 := Lib.hid (HO1.out.keep hg (by have := HLT.out; omega)); replace HR := Lib.hid (HR.out.grown hg (by intro e; injection e with e; have := HLT.out; omega)); replace HG := Lib.hid (g_same HG.out hg); replace HDL := Lib.hid (Nat.lt_of_lt_of_le HDL.out hg.size); clear hd hg; have n0 : w2.cell? ⟨w.heap.size, 0, none⟩ = some (.string ⟨#[]⟩) := HR.out.cell 0; have y0 := HR.out.frozen 0; have n1 : w2.cell? ⟨w.heap.size, 1, none⟩ = some (.string ⟨#[]⟩) := HR.out.cell 1; have y1 := HR.out.frozen 1; have n2 : w2.cell? ⟨w.heap.size, 2, none⟩ = some (.int .i64 0) := HR.out.cell 2; have y2 := HR.out.frozen 2; have n3 : w2.cell? ⟨w.heap.size, 3, none⟩ = some (.slice none 0 0) := HR.out.cell 3; have y3 := HR.out.frozen 3; have n4 : w2.cell? ⟨w.heap.size, 4, none⟩ = some (.slice none 0 0) := HR.out.cell 4; have y4 := HR.out.frozen 4)
    | fail)
  have hE : Blk (((((w2.setCell ⟨w.heap.size, 0, none⟩ (.string ⟨v1.s.1.toArray⟩)).setCell ⟨w.heap.size, 1, none⟩ (.string ⟨v1.s.2.toArray⟩)).setCell ⟨w.heap.size, 2, none⟩ (.int .i64 v1.k)).setCell ⟨w.heap.size, 3, none⟩ (.slice (some ⟨b1, 0, none⟩) v1.b.length c1)).setCell ⟨w.heap.size, 4, none⟩ (.slice (some ⟨b2, 0, none⟩) v2.length c2)) w.heap.size 34 #[.string ⟨v1.s.1.toArray⟩, .string ⟨v1.s.2.toArray⟩, .int .i64 v1.k, .slice (some ⟨b1, 0, none⟩) v1.b.length c1, .slice (some ⟨b2, 0, none⟩) v2.length c2] := (((((HR.out.set 0 (.string ⟨v1.s.1.toArray⟩)).set 1 (.string ⟨v1.s.2.toArray⟩)).set 2 (.int .i64 v1.k)).set 3 (.slice (some ⟨b1, 0, none⟩) v1.b.length c1)).set 4 (.slice (some ⟨b2, 0, none⟩) v2.length c2))
  have hp := (g_set (g_set (g_set (g_set (g_set (World.grownBy.refl w2 (some w.heap.size)) (p := ⟨w.heap.size, 0, none⟩) (.inl rfl) (.string ⟨v1.s.1.toArray⟩)) (p := ⟨w.heap.size, 1, none⟩) (.inl rfl) (.string ⟨v1.s.2.toArray⟩)) (p := ⟨w.heap.size, 2, none⟩) (.inl rfl) (.int .i64 v1.k)) (p := ⟨w.heap.size, 3, none⟩) (.inl rfl) (.slice (some ⟨b1, 0, none⟩) v1.b.length c1)) (p := ⟨w.heap.size, 4, none⟩) (.inl rfl) (.slice (some ⟨b2, 0, none⟩) v2.length c2))
  have hq := load_blk (P := Tryz.prog) hE Tryz.underlying34 rfl (by kernel_rfl)
  refine bodyPost_ret (v := .agg #[.string ⟨v1.s.1.toArray⟩, .string ⟨v1.s.2.toArray⟩, .int .i64 v1.k, .slice (some ⟨b1, 0, none⟩) v1.b.length c1, .slice (some ⟨b2, 0, none⟩) v2.length c2]) ?_ ?_ ?_
  · exact results_cell 2 34 ⟨w.heap.size, 0, none⟩ Tryz.results93 rfl hq
  · rfl
  exact ⟨_, _, rfl, (HO1.out.keep hp (by omega)).less (by omega), (HO2.out.keep hp (by omega)).less (by omega), cur_far HC.out hp (by have := HLT.out; omega), g_new HG.out hp (Nat.le_refl _)⟩
set_option maxHeartbeats 3200000 in
theorem takefa_any (g : Nat) (c : Option L) (w : World) (h : Cur w g c) (hs : (c.getD []).length ≤ 100000) : Calls Tryz.prog 94 #[.pointer (some ⟨g, 0, none⟩)] w fun e w' => e = .returned (.agg #[.int .i64 (faQ c).1.e, .int .i64 (faQ c).1.no]) ∧ Cur w' g (faQ c).2 ∧ w.grownBy w' (some g) := by
  obtain ⟨W, eW⟩ : ∃ W, W = w.alloc (.cells #[.int .i64 0, .int .i64 0] 37) := ⟨_, rfl⟩
  have hWs : W.heap.size = w.heap.size + 1 := by rw [eW]; simp
  have HR := Lib.hid (show Blk W w.heap.size 37 #[.int .i64 0, .int .i64 0] by rw [eW]; exact Blk.new _ _ _)
  have hlt := cur_lt h
  have HC := Lib.hid (show Cur W g c by rw [eW]; exact h.alloc _)
  have HG := Lib.hid (show w.grownBy W (some g) by rw [eW]; exact g_alloc (World.grownBy.refl _ _) _)
  have hs0 := hs
  obtain ⟨s0, es0⟩ : ∃ s, s = c := ⟨_, rfl⟩
  rw [← es0] at HC hs0
  have HLT := Lib.hid hlt
  have HDL := Lib.hid (show w.heap.size < W.heap.size by omega)
  have hs1 : (((intC s0).2).getD []).length ≤ 100000 := it_len hs0
  have T1 := Lib.hid (fun g w h => int_any g s0 w h (by omega))
  obtain ⟨v1, ev1⟩ : ∃ x : Int, x = ((intC s0).1 : Int) := ⟨_, rfl⟩
  obtain ⟨s1, es1⟩ : ∃ s, s = (intC s0).2 := ⟨_, rfl⟩
  rw [← ev1, ← es1] at T1
  rw [← es1] at hs1
  have hs2 : (((intC s1).2).getD []).length ≤ 100000 := it_len hs1
  have T2 := Lib.hid (fun g w h => int_any g s1 w h (by omega))
  obtain ⟨v2, ev2⟩ : ∃ x : Int, x = ((intC s1).1 : Int) := ⟨_, rfl⟩
  obtain ⟨s2, es2⟩ : ∃ s, s = (intC s1).2 := ⟨_, rfl⟩
  rw [← ev2, ← es2] at T2
  rw [← es2] at hs2
  have FV1 := Lib.hid (show (faQ c).1.e = v1 by rw [ev1, es0]; rfl)
  have FV2 := Lib.hid (show (faQ c).1.no = v2 by rw [ev2, es1, es0]; rfl)
  have FS := Lib.hid (show (faQ c).2 = s2 by rw [es2, es1, es0]; rfl)
  rw [FV1.out, FV2.out, FS.out]
  clear h hs hs0 hs1 hs2 FV1 ev1 es1 FV2 ev2 es2 es0 FS hlt
  have HWS := Lib.hid hWs
  clear hWs
  subst eW
  go_enter Tryz.func94, Tryz.ntmps94
  go_wp2_with (first
    | (go_at_call 112; (with_reducible refine Calls.mono (T1.out _ _ HC.out) ?_); rintro e w1 ⟨rfl, hd, hg⟩; clear T1; replace HC := Lib.hid hd; replace HR := Lib.hid (HR.out.grown hg (by intro e; injection e with e; have := HLT.out; omega)); replace HG := Lib.hid (g_same HG.out hg); replace HDL := Lib.hid (Nat.lt_of_lt_of_le HDL.out hg.size); clear hd hg)
    | (go_at_call 112; (with_reducible refine Calls.mono (T2.out _ _ HC.out) ?_); rintro e w2 ⟨rfl, hd, hg⟩; clear T2; replace HC := Lib.hid hd; replace HR := Lib.hid (HR.out.grown hg (by intro e; injection e with e; have := HLT.out; omega)); replace HG := Lib.hid (g_same HG.out hg); replace HDL := Lib.hid (Nat.lt_of_lt_of_le HDL.out hg.size); clear hd hg; have n0 : w2.cell? ⟨w.heap.size, 0, none⟩ = some (.int .i64 0) := HR.out.cell 0; have y0 := HR.out.frozen 0; have n1 : w2.cell? ⟨w.heap.size, 1, none⟩ = some (.int .i64 0) := HR.out.cell 1; have y1 := HR.out.frozen 1)
    | fail)
  have hE : Blk ((w2.setCell ⟨w.heap.size, 0, none⟩ (.int .i64 v1)).setCell ⟨w.heap.size, 1, none⟩ (.int .i64 v2)) w.heap.size 37 #[.int .i64 v1, .int .i64 v2] := ((HR.out.set 0 (.int .i64 v1)).set 1 (.int .i64 v2))
  have hp := (g_set (g_set (World.grownBy.refl w2 (some w.heap.size)) (p := ⟨w.heap.size, 0, none⟩) (.inl rfl) (.int .i64 v1)) (p := ⟨w.heap.size, 1, none⟩) (.inl rfl) (.int .i64 v2))
  have hq := load_blk (P := Tryz.prog) hE Tryz.underlying37 rfl (by kernel_rfl)
  refine bodyPost_ret (v := .agg #[.int .i64 v1, .int .i64 v2]) ?_ ?_ ?_
  · exact results_cell 2 37 ⟨w.heap.size, 0, none⟩ Tryz.results94 rfl hq
  · rfl
  exact ⟨rfl, cur_far HC.out hp (by have := HLT.out; omega), g_new HG.out hp (Nat.le_refl _)⟩
set_option maxHeartbeats 3200000 in
theorem takean_any (A : Option Addr) (b : L) (cap : Nat) (w : World) (h : Rd w w.heap.size A (bvs b)) (hs : b.length ≤ 100000) : Calls Tryz.prog 66 #[.slice A b.length cap] w fun e w' => e = .returned (.agg #[.string ⟨(anQ b).1.c.1.toArray⟩, .string ⟨(anQ b).1.c.2.toArray⟩, .int .i64 (anQ b).1.t, .int .i64 (anQ b).1.q]) ∧ Below w.heap.size w w' := by
  obtain ⟨W, eW⟩ : ∃ W, W = w.alloc (.cells #[.string ⟨#[]⟩, .string ⟨#[]⟩, .int .i64 0, .int .i64 0] 57) := ⟨_, rfl⟩
  have hWs : W.heap.size = w.heap.size + 1 := by rw [eW]; simp
  have HR := Lib.hid (show Blk W w.heap.size 57 #[.string ⟨#[]⟩, .string ⟨#[]⟩, .int .i64 0, .int .i64 0] by rw [eW]; exact Blk.new _ _ _)
  have HG := Lib.hid (show Below w.heap.size w W by rw [eW]; exact (Below.refl _ _).alloc (Nat.le_refl _) _)
  have c0 := open_any w.heap.size A b b.length cap W (by rw [eW]; exact h.alloc (Nat.le_refl _) _) rfl
  have c1 := Lib.hid (fun g w h => into_any 98 g (some b) w h (by show ((b.length : Int)) ≤ 100000; omega))
  have hs0 : ((bodyC 98 (some b)).getD []).length ≤ 100000 := bd_len 98 (show ((some b : Option L).getD []).length ≤ 100000 from hs)
  obtain ⟨s0, es0⟩ : ∃ s, s = bodyC 98 (some b) := ⟨_, rfl⟩
  rw [← es0] at c1 hs0
  have hs1 : (((prQ s0).2).getD []).length ≤ 100000 := nx_len 48 hs0
  have T1 := Lib.hid (fun g w h => takeprinc_any g s0 w h hs0)
  obtain ⟨v1, ev1⟩ : ∃ x : Pr, x = (prQ s0).1 := ⟨_, rfl⟩
  obtain ⟨s1, es1⟩ : ∃ s, s = (prQ s0).2 := ⟨_, rfl⟩
  rw [← ev1, ← es1] at T1
  rw [← es1] at hs1
  have hs2 : (((intC s1).2).getD []).length ≤ 100000 := it_len hs1
  have T2 := Lib.hid (fun g w h => int_any g s1 w h (by omega))
  obtain ⟨v2, ev2⟩ : ∃ x : Int, x = ((intC s1).1 : Int) := ⟨_, rfl⟩
  obtain ⟨s2, es2⟩ : ∃ s, s = (intC s1).2 := ⟨_, rfl⟩
  rw [← ev2, ← es2] at T2
  rw [← es2] at hs2
  have hs3 : (((intC s2).2).getD []).length ≤ 100000 := it_len hs2
  have T3 := Lib.hid (fun g w h => int_any g s2 w h (by omega))
  obtain ⟨v3, ev3⟩ : ∃ x : Int, x = ((intC s2).1 : Int) := ⟨_, rfl⟩
  obtain ⟨s3, es3⟩ : ∃ s, s = (intC s2).2 := ⟨_, rfl⟩
  rw [← ev3, ← es3] at T3
  rw [← es3] at hs3
  have FV1 := Lib.hid (show (anQ b).1.c = v1 by rw [ev1, es0]; rfl)
  have FV2 := Lib.hid (show (anQ b).1.t = v2 by rw [ev2, es1, es0]; rfl)
  have FV3 := Lib.hid (show (anQ b).1.q = v3 by rw [ev3, es2, es1, es0]; rfl)
  rw [FV1.out, FV2.out, FV3.out]
  clear h hs hs0 hs1 hs2 hs3 FV1 ev1 es1 FV2 ev2 es2 FV3 ev3 es3 es0
  have HWS := Lib.hid hWs
  clear hWs
  subst eW
  go_enter Tryz.func66, Tryz.ntmps66
  go_wp2_with (first
    | (go_at_call 88; refine Calls.mono c0 ?_; rintro e wo ⟨go, rfl, hgo, hco, hb⟩; clear c0; have HC := Lib.hid hco; have HGO := Lib.hid (show w.heap.size + 1 ≤ go by have := HWS.out; omega); replace HR := Lib.hid (HR.out.below hb); replace HG := Lib.hid (below_then HG.out (by have := HWS.out; omega) hb); have HWO := Lib.hid (show w.heap.size + 1 ≤ wo.heap.size by have := hb.size; have := HWS.out; omega); clear hgo hco hb)
    | (go_at_call 89; refine Calls.mono (c1.out _ _ HC.out) ?_; rintro e wi ⟨⟨gd, rfl, hgd, hd⟩, hc, hg⟩; clear c1 HC; have HD := Lib.hid hd; have HGD := Lib.hid (show w.heap.size + 1 ≤ gd by have := HWO.out; omega); have HDL := Lib.hid (cur_lt hd); replace HR := Lib.hid (HR.out.grown hg (by intro e; injection e with e; have := HGO.out; omega)); replace HG := Lib.hid (below_g HG.out hg (by have := HWO.out; omega) (by have := HGO.out; omega)); clear hgd hd hc hg HWO HGO)
    | (go_at_call 109; (with_reducible refine Calls.mono (T1.out _ _ HD.out) ?_); rintro e w1 ⟨rfl, hd, hg⟩; clear T1; replace HD := Lib.hid hd; replace HR := Lib.hid (HR.out.grown hg (by intro e; injection e with e; have := HGD.out; omega)); replace HG := Lib.hid (below_g HG.out hg (by have := HGD.out; have := HDL.out; omega) (by have := HGD.out; omega)); replace HDL := Lib.hid (Nat.lt_of_lt_of_le HDL.out hg.size); clear hd hg)
    | (go_at_call 112; (with_reducible refine Calls.mono (T2.out _ _ HD.out) ?_); rintro e w2 ⟨rfl, hd, hg⟩; clear T2; replace HD := Lib.hid hd; replace HR := Lib.hid (HR.out.grown hg (by intro e; injection e with e; have := HGD.out; omega)); replace HG := Lib.hid (below_g HG.out hg (by have := HGD.out; have := HDL.out; omega) (by have := HGD.out; omega)); replace HDL := Lib.hid (Nat.lt_of_lt_of_le HDL.out hg.size); clear hd hg)
    | (go_at_call 112; (with_reducible refine Calls.mono (T3.out _ _ HD.out) ?_); rintro e w3 ⟨rfl, hd, hg⟩; clear T3; replace HD := Lib.hid hd; replace HR := Lib.hid (HR.out.grown hg (by intro e; injection e with e; have := HGD.out; omega)); replace HG := Lib.hid (below_g HG.out hg (by have := HGD.out; have := HDL.out; omega) (by have := HGD.out; omega)); replace HDL := Lib.hid (Nat.lt_of_lt_of_le HDL.out hg.size); clear hd hg; have n0 : w3.cell? ⟨w.heap.size, 0, none⟩ = some (.string ⟨#[]⟩) := HR.out.cell 0; have y0 := HR.out.frozen 0; have n1 : w3.cell? ⟨w.heap.size, 1, none⟩ = some (.string ⟨#[]⟩) := HR.out.cell 1; have y1 := HR.out.frozen 1; have n2 : w3.cell? ⟨w.heap.size, 2, none⟩ = some (.int .i64 0) := HR.out.cell 2; have y2 := HR.out.frozen 2; have n3 : w3.cell? ⟨w.heap.size, 3, none⟩ = some (.int .i64 0) := HR.out.cell 3; have y3 := HR.out.frozen 3)
    | fail)
  have hE : Blk ((((w3.setCell ⟨w.heap.size, 0, none⟩ (.string ⟨v1.1.toArray⟩)).setCell ⟨w.heap.size, 1, none⟩ (.string ⟨v1.2.toArray⟩)).setCell ⟨w.heap.size, 2, none⟩ (.int .i64 v2)).setCell ⟨w.heap.size, 3, none⟩ (.int .i64 v3)) w.heap.size 57 #[.string ⟨v1.1.toArray⟩, .string ⟨v1.2.toArray⟩, .int .i64 v2, .int .i64 v3] := ((((HR.out.set 0 (.string ⟨v1.1.toArray⟩)).set 1 (.string ⟨v1.2.toArray⟩)).set 2 (.int .i64 v2)).set 3 (.int .i64 v3))
  have hp := (g_set (g_set (g_set (g_set (World.grownBy.refl w3 (some w.heap.size)) (p := ⟨w.heap.size, 0, none⟩) (.inl rfl) (.string ⟨v1.1.toArray⟩)) (p := ⟨w.heap.size, 1, none⟩) (.inl rfl) (.string ⟨v1.2.toArray⟩)) (p := ⟨w.heap.size, 2, none⟩) (.inl rfl) (.int .i64 v2)) (p := ⟨w.heap.size, 3, none⟩) (.inl rfl) (.int .i64 v3))
  have hq := load_blk (P := Tryz.prog) hE Tryz.underlying57 rfl (by kernel_rfl)
  refine bodyPost_ret (v := .agg #[.string ⟨v1.1.toArray⟩, .string ⟨v1.2.toArray⟩, .int .i64 v2, .int .i64 v3]) ?_ ?_ ?_
  · exact results_cell 2 57 ⟨w.heap.size, 0, none⟩ Tryz.results66 rfl hq
  · rfl
  exact ⟨rfl, below_g HG.out hp (by have := HR.out.lt; omega) (Nat.le_refl _)⟩
end Go.Proofs.YteeabfplnaknfaaGreat.Mc
end

section
set_option linter.unusedVariables false
set_option linter.unusedSimpArgs false
namespace Go.Proofs.YteeabfplnaknfaaGreat.Mc
open Go.RowKit Go.Proofs.YteeabfplnaknfaaGreat.Mem Go.Proofs.YteeabfplnaknfaaGreat.DerP Go.Proofs.YteeabfplnaknfaaGreat.DerC Go.Proofs.YteeabfplnaknfaaGreat.Ms

set_option maxHeartbeats 3200000 in
theorem taketg_any (g : Nat) (c : Option L) (w : World) (h : Cur w g c) (hs : (c.getD []).length ≤ 100000) : Calls Tryz.prog 91 #[.pointer (some ⟨g, 0, none⟩)] w fun e w' => ∃ z1, ∃ z2, e = .returned (.agg #[.string ⟨(tgQ c).1.t.s.1.toArray⟩, .string ⟨(tgQ c).1.t.s.2.toArray⟩, .int .i64 (tgQ c).1.t.k, z1, z2, .string ⟨(tgQ c).1.s.1.toArray⟩, .string ⟨(tgQ c).1.s.2.toArray⟩, .int .i64 (tgQ c).1.u, .int .i64 (tgQ c).1.no]) ∧ OwnB w' w.heap.size z1 (tgQ c).1.t.b ∧ OwnB w' w.heap.size z2 (tgQ c).1.a ∧ Cur w' g (tgQ c).2 ∧ w.grownBy w' (some g) := by
  obtain ⟨W, eW⟩ : ∃ W, W = w.alloc (.cells #[.string ⟨#[]⟩, .string ⟨#[]⟩, .int .i64 0, .slice none 0 0, .slice none 0 0, .string ⟨#[]⟩, .string ⟨#[]⟩, .int .i64 0, .int .i64 0] 30) := ⟨_, rfl⟩
  have hWs : W.heap.size = w.heap.size + 1 := by rw [eW]; simp
  have HR := Lib.hid (show Blk W w.heap.size 30 #[.string ⟨#[]⟩, .string ⟨#[]⟩, .int .i64 0, .slice none 0 0, .slice none 0 0, .string ⟨#[]⟩, .string ⟨#[]⟩, .int .i64 0, .int .i64 0] by rw [eW]; exact Blk.new _ _ _)
  have hlt := cur_lt h
  have HC := Lib.hid (show Cur W g c by rw [eW]; exact h.alloc _)
  have HG := Lib.hid (show w.grownBy W (some g) by rw [eW]; exact g_alloc (World.grownBy.refl _ _) _)
  have hs0 := hs
  obtain ⟨s0, es0⟩ : ∃ s, s = c := ⟨_, rfl⟩
  rw [← es0] at HC hs0
  have HLT := Lib.hid hlt
  have HDL := Lib.hid (show w.heap.size < W.heap.size by omega)
  have hs1 : (((tkQ s0).2).getD []).length ≤ 100000 := nx_len 97 hs0
  have T1 := Lib.hid (fun g w h => taketicket_any g s0 w h hs0)
  obtain ⟨v1, ev1⟩ : ∃ x : Tk, x = (tkQ s0).1 := ⟨_, rfl⟩
  obtain ⟨s1, es1⟩ : ∃ s, s = (tkQ s0).2 := ⟨_, rfl⟩
  rw [← ev1, ← es1] at T1
  rw [← es1] at hs1
  have hs2 : ((nextC 4 s1).getD []).length ≤ 100000 := nx_len 4 hs1
  have T2 := Lib.hid (fun g w h => takeoct_any g s1 w h (by omega))
  obtain ⟨v2, ev2⟩ : ∃ x : L, x = ocC s1 := ⟨_, rfl⟩
  obtain ⟨s2, es2⟩ : ∃ s, s = nextC 4 s1 := ⟨_, rfl⟩
  rw [← ev2, ← es2] at T2
  rw [← es2] at hs2
  have hs3 : (((prQ s2).2).getD []).length ≤ 100000 := nx_len 48 hs2
  have T3 := Lib.hid (fun g w h => takeprinc_any g s2 w h hs2)
  obtain ⟨v3, ev3⟩ : ∃ x : Pr, x = (prQ s2).1 := ⟨_, rfl⟩
  obtain ⟨s3, es3⟩ : ∃ s, s = (prQ s2).2 := ⟨_, rfl⟩
  rw [← ev3, ← es3] at T3
  rw [← es3] at hs3
  have hs4 : (((intC s3).2).getD []).length ≤ 100000 := it_len hs3
  have T4 := Lib.hid (fun g w h => int_any g s3 w h (by omega))
  obtain ⟨v4, ev4⟩ : ∃ x : Int, x = ((intC s3).1 : Int) := ⟨_, rfl⟩
  obtain ⟨s4, es4⟩ : ∃ s, s = (intC s3).2 := ⟨_, rfl⟩
  rw [← ev4, ← es4] at T4
  rw [← es4] at hs4
  have hs5 : (((intC s4).2).getD []).length ≤ 100000 := it_len hs4
  have T5 := Lib.hid (fun g w h => int_any g s4 w h (by omega))
  obtain ⟨v5, ev5⟩ : ∃ x : Int, x = ((intC s4).1 : Int) := ⟨_, rfl⟩
  obtain ⟨s5, es5⟩ : ∃ s, s = (intC s4).2 := ⟨_, rfl⟩
  rw [← ev5, ← es5] at T5
  rw [← es5] at hs5
  have FV1 := Lib.hid (show (tgQ c).1.t = v1 by rw [ev1, es0]; rfl)
  have FV2 := Lib.hid (show (tgQ c).1.a = v2 by rw [ev2, es1, es0]; rfl)
  have FV3 := Lib.hid (show (tgQ c).1.s = v3 by rw [ev3, es2, es1, es0]; rfl)
  have FV4 := Lib.hid (show (tgQ c).1.u = v4 by rw [ev4, es3, es2, es1, es0]; rfl)
  have FV5 := Lib.hid (show (tgQ c).1.no = v5 by rw [ev5, es4, es3, es2, es1, es0]; rfl)
  have FS := Lib.hid (show (tgQ c).2 = s5 by rw [es5, es4, es3, es2, es1, es0]; rfl)
  rw [FV1.out, FV2.out, FV3.out, FV4.out, FV5.out, FS.out]
  clear h hs hs0 hs1 hs2 hs3 hs4 hs5 FV1 ev1 es1 FV2 ev2 es2 FV3 ev3 es3 FV4 ev4 es4 FV5 ev5 es5 es0 FS hlt
  have HWS := Lib.hid hWs
  clear hWs
  subst eW
  go_enter Tryz.func91, Tryz.ntmps91
  go_wp2_with (first
    | (go_at_call 121; (with_reducible refine Calls.mono (T1.out _ _ HC.out) ?_); rintro e w1 ⟨y, rfl, ho, hd, hg⟩; clear T1; replace ho := ho.less (show w.heap.size + 1 ≤ _ from HDL.out); obtain ⟨b1, c1, rfl, x1, x2, x3, x4⟩ := ho; have HO1 : Hid (OwnB w1 (w.heap.size + 1) (.slice (some ⟨b1, 0, none⟩) _ c1) _) := Lib.hid ⟨b1, c1, rfl, x1, x2, x3, x4⟩; clear x1 x2 x3 x4; replace HC := Lib.hid hd; replace HR := Lib.hid (HR.out.grown hg (by intro e; injection e with e; have := HLT.out; omega)); replace HG := Lib.hid (g_same HG.out hg); replace HDL := Lib.hid (Nat.lt_of_lt_of_le HDL.out hg.size); clear hd hg)
    | (go_at_call 122; (with_reducible refine Calls.mono (T2.out _ _ HC.out) ?_); rintro e w2 ⟨⟨y, rfl, ho⟩, hd, hg⟩; clear T2; replace ho := ho.less (show w.heap.size + 1 ≤ _ from HDL.out); obtain ⟨b2, c2, rfl, x1, x2, x3, x4⟩ := ho; have HO2 : Hid (OwnB w2 (w.heap.size + 1) (.slice (some ⟨b2, 0, none⟩) _ c2) _) := Lib.hid ⟨b2, c2, rfl, x1, x2, x3, x4⟩; clear x1 x2 x3 x4; replace HC := Lib.hid hd; replace HO1 := Lib.hid (HO1.out.keep hg (by have := HLT.out; omega)); replace HR := Lib.hid (HR.out.grown hg (by intro e; injection e with e; have := HLT.out; omega)); replace HG := Lib.hid (g_same HG.out hg); replace HDL := Lib.hid (Nat.lt_of_lt_of_le HDL.out hg.size); clear hd hg)
    | (go_at_call 109; (with_reducible refine Calls.mono (T3.out _ _ HC.out) ?_); rintro e w3 ⟨rfl, hd, hg⟩; clear T3; replace HC := Lib.hid hd; replace HO1 := Lib.hid (HO1.out.keep hg (by have := HLT.out; omega)); replace HO2 := Lib.hid (HO2.out.keep hg (by have := HLT.out; omega)); replace HR := Lib.hid (HR.out.grown hg (by intro e; injection e with e; have := HLT.out; omega)); replace HG := Lib.hid (g_same HG.out hg); replace HDL := Lib.hid (Nat.lt_of_lt_of_le HDL.out hg.size); clear hd hg)
    | (go_at_call 112; (with_reducible refine Calls.mono (T4.out _ _ HC.out) ?_); rintro e w4 ⟨rfl, hd, hg⟩; clear T4; replace HC := Lib.hid hd; replace HO1 := Lib.hid (HO1.out.keep hg (by have := HLT.out; omega)); replace HO2 := Lib.hid (HO2.out.keep hg (by have := HLT.out; omega)); replace HR := Lib.hid (HR.out.grown hg (by intro e; injection e with e; have := HLT.out; omega)); replace HG := Lib.hid (g_same HG.out hg); replace HDL := Lib.hid (Nat.lt_of_lt_of_le HDL.out hg.size); clear hd hg)
    | (go_at_call 112; (with_reducible refine Calls.mono (T5.out _ _ HC.out) ?_); rintro e w5 ⟨rfl, hd, hg⟩; clear T5; replace HC := Lib.hid hd; replace HO1 := Lib.hid (HO1.out.keep hg (by have := HLT.out; omega)); replace HO2 := Lib.hid (HO2.out.keep hg (by have := HLT.out; omega)); replace HR := Lib.hid (HR.out.grown hg (by intro e; injection e with e; have := HLT.out; omega)); replace HG := Lib.hid (g_same HG.out hg); replace HDL := Lib.hid (Nat.lt_of_lt_of_le HDL.out hg.size); clear hd hg; have n0 : w5.cell? ⟨w.heap.size, 0, none⟩ = some (.string ⟨#[]⟩) := HR.out.cell 0; have y0 := HR.out.frozen 0; have n1 : w5.cell? ⟨w.heap.size, 1, none⟩ = some (.string ⟨#[]⟩) := HR.out.cell 1; have y1 := HR.out.frozen 1; have n2 : w5.cell? ⟨w.heap.size, 2, none⟩ = some (.int .i64 0) := HR.out.cell 2; have y2 := HR.out.frozen 2; have n3 : w5.cell? ⟨w.heap.size, 3, none⟩ = some (.slice none 0 0) := HR.out.cell 3; have y3 := HR.out.frozen 3; have n4 : w5.cell? ⟨w.heap.size, 4, none⟩ = some (.slice none 0 0) := HR.out.cell 4; have y4 := HR.out.frozen 4; have n5 : w5.cell? ⟨w.heap.size, 5, none⟩ = some (.string ⟨#[]⟩) := HR.out.cell 5; have y5 := HR.out.frozen 5; have n6 : w5.cell? ⟨w.heap.size, 6, none⟩ = some (.string ⟨#[]⟩) := HR.out.cell 6; have y6 := HR.out.frozen 6; have n7 : w5.cell? ⟨w.heap.size, 7, none⟩ = some (.int .i64 0) := HR.out.cell 7; have y7 := HR.out.frozen 7; have n8 : w5.cell? ⟨w.heap.size, 8, none⟩ = some (.int .i64 0) := HR.out.cell 8; have y8 := HR.out.frozen 8)
    | fail)
  have hE : Blk (((((((((w5.setCell ⟨w.heap.size, 0, none⟩ (.string ⟨v1.s.1.toArray⟩)).setCell ⟨w.heap.size, 1, none⟩ (.string ⟨v1.s.2.toArray⟩)).setCell ⟨w.heap.size, 2, none⟩ (.int .i64 v1.k)).setCell ⟨w.heap.size, 3, none⟩ (.slice (some ⟨b1, 0, none⟩) v1.b.length c1)).setCell ⟨w.heap.size, 4, none⟩ (.slice (some ⟨b2, 0, none⟩) v2.length c2)).setCell ⟨w.heap.size, 5, none⟩ (.string ⟨v3.1.toArray⟩)).setCell ⟨w.heap.size, 6, none⟩ (.string ⟨v3.2.toArray⟩)).setCell ⟨w.heap.size, 7, none⟩ (.int .i64 v4)).setCell ⟨w.heap.size, 8, none⟩ (.int .i64 v5)) w.heap.size 30 #[.string ⟨v1.s.1.toArray⟩, .string ⟨v1.s.2.toArray⟩, .int .i64 v1.k, .slice (some ⟨b1, 0, none⟩) v1.b.length c1, .slice (some ⟨b2, 0, none⟩) v2.length c2, .string ⟨v3.1.toArray⟩, .string ⟨v3.2.toArray⟩, .int .i64 v4, .int .i64 v5] := (((((((((HR.out.set 0 (.string ⟨v1.s.1.toArray⟩)).set 1 (.string ⟨v1.s.2.toArray⟩)).set 2 (.int .i64 v1.k)).set 3 (.slice (some ⟨b1, 0, none⟩) v1.b.length c1)).set 4 (.slice (some ⟨b2, 0, none⟩) v2.length c2)).set 5 (.string ⟨v3.1.toArray⟩)).set 6 (.string ⟨v3.2.toArray⟩)).set 7 (.int .i64 v4)).set 8 (.int .i64 v5))
  have hp := (g_set (g_set (g_set (g_set (g_set (g_set (g_set (g_set (g_set (World.grownBy.refl w5 (some w.heap.size)) (p := ⟨w.heap.size, 0, none⟩) (.inl rfl) (.string ⟨v1.s.1.toArray⟩)) (p := ⟨w.heap.size, 1, none⟩) (.inl rfl) (.string ⟨v1.s.2.toArray⟩)) (p := ⟨w.heap.size, 2, none⟩) (.inl rfl) (.int .i64 v1.k)) (p := ⟨w.heap.size, 3, none⟩) (.inl rfl) (.slice (some ⟨b1, 0, none⟩) v1.b.length c1)) (p := ⟨w.heap.size, 4, none⟩) (.inl rfl) (.slice (some ⟨b2, 0, none⟩) v2.length c2)) (p := ⟨w.heap.size, 5, none⟩) (.inl rfl) (.string ⟨v3.1.toArray⟩)) (p := ⟨w.heap.size, 6, none⟩) (.inl rfl) (.string ⟨v3.2.toArray⟩)) (p := ⟨w.heap.size, 7, none⟩) (.inl rfl) (.int .i64 v4)) (p := ⟨w.heap.size, 8, none⟩) (.inl rfl) (.int .i64 v5))
  have hq := load_blk (P := Tryz.prog) hE Tryz.underlying30 rfl (by kernel_rfl)
  refine bodyPost_ret (v := .agg #[.string ⟨v1.s.1.toArray⟩, .string ⟨v1.s.2.toArray⟩, .int .i64 v1.k, .slice (some ⟨b1, 0, none⟩) v1.b.length c1, .slice (some ⟨b2, 0, none⟩) v2.length c2, .string ⟨v3.1.toArray⟩, .string ⟨v3.2.toArray⟩, .int .i64 v4, .int .i64 v5]) ?_ ?_ ?_
  · exact results_cell 2 30 ⟨w.heap.size, 0, none⟩ Tryz.results91 rfl hq
  · rfl
  exact ⟨_, _, rfl, (HO1.out.keep hp (by omega)).less (by omega), (HO2.out.keep hp (by omega)).less (by omega), cur_far HC.out hp (by have := HLT.out; omega), g_new HG.out hp (Nat.le_refl _)⟩
end Go.Proofs.YteeabfplnaknfaaGreat.Mc
end
