import Derived.Deep.RegionHeld3
import Derived.Laws.IdiomCopy
import Derived.Deep.LoopGhost
import Derived.Laws.Tables
import Derived.Test.YteeabfplnaknfaaGreatZB1
import Derived.Test.YteeabfplnaknfaaGreatZB2
import Derived.Test.YteeabfplnaknfaaGreatZB3
import Derived.Test.YteeabfplnaknfaaGreatZB4
import Derived.Test.YteeabfplnaknfaaGreatZB5
import Derived.Test.YteeabfplnaknfaaGreatZB6
import Derived.Test.YteeabfplnaknfaaGreatZB7
import Derived.Test.YteeabfplnaknfaaGreatZB9
import Derived.Test.YteeabfplnaknfaaGreatZB10
import Derived.Test.YteeabfplnaknfaaGreatZB15
import Derived.Test.YteeabfplnaknfaaGreatZB16
section
set_option linter.unusedVariables false
set_option linter.unusedSimpArgs false
namespace Go.Proofs.YteeabfplnaknfaaGreat.Mc
open Go.RowKit Go.Proofs.YteeabfplnaknfaaGreat.Mem Go.Proofs.YteeabfplnaknfaaGreat.DerP Go.Proofs.YteeabfplnaknfaaGreat.DerC Go.Proofs.YteeabfplnaknfaaGreat.Ms

theorem u8_size : (Tryz.prog.info? 5).map (·.size) = some 1 := by kernel_rfl
theorem key_info : (Tryz.prog.info? 53).map (·.size) = some 32 := by kernel_rfl
theorem bvs_one' (l : L) : (bvs l).toArray.all (·.oneCell') = true := all_oneCell_toArray (bvs_one l)
theorem copied_run {W : World} {K b c : Nat} {t : TypeId} {x : L} (h : Blk W K t (bvs key0).toArray) (hx : ∀ i u, (bvs x)[i]? = some u → W.cell? ⟨b, i, none⟩ = some u) :
    (Builtin.copy_ #[26, 26] 3 #[.slice (some ⟨K, 0, none⟩) 32 32, .slice (some ⟨b, 0, none⟩) x.length c]).run Tryz.prog W = .ok (goInt (bvs (x.take 32)).length) (W.setCells K 0 (bvs (x.take 32))) := by
  refine run_copy_cells (P := Tryz.prog) W 26 26 3 5 K 0 32 32 ⟨b, 0, none⟩ x.length c (bvs (x.take 32)) Tryz.underlying26 u8_size ?_ ?_ ?_ ?_ (bvs_one _)
  · rw [bvs_length, List.length_take]; exact Nat.min_comm _ _
  · intro j v hv
    rw [addr_add, Nat.zero_add]
    apply hx
    have hj : j < (bvs (x.take 32)).length := (List.getElem?_eq_some_iff.1 hv).1
    rw [bvs_length, List.length_take] at hj
    rw [← hv]
    simp only [bvs, List.getElem?_map]
    rw [List.getElem?_take_of_lt (by omega)]
  · intro j hj
    rw [bvs_length, List.length_take] at hj
    exact (there_blk h 32 (by simp [bvs_length, key0]) j (by omega)).1
  · intro j hj
    rw [bvs_length, List.length_take] at hj
    exact (there_blk h 32 (by simp [bvs_length, key0]) j (by omega)).2
set_option maxHeartbeats 3200000 in
theorem takekey_any (g : Nat) (c : Option L) (w : World) (h : Cur w g c) (hs : (c.getD []).length ≤ 100000) : Calls Tryz.prog 110 #[.pointer (some ⟨g, 0, none⟩)] w fun e w' => e = .returned (.agg (bvs (keQ c).1).toArray) ∧ Cur w' g (keQ c).2 ∧ w.grownBy w' (some g) := by
  have ez : (bvs key0).toArray = #[.int .u8 0, .int .u8 0, .int .u8 0, .int .u8 0, .int .u8 0, .int .u8 0, .int .u8 0, .int .u8 0, .int .u8 0, .int .u8 0, .int .u8 0, .int .u8 0, .int .u8 0, .int .u8 0, .int .u8 0, .int .u8 0, .int .u8 0, .int .u8 0, .int .u8 0, .int .u8 0, .int .u8 0, .int .u8 0, .int .u8 0, .int .u8 0, .int .u8 0, .int .u8 0, .int .u8 0, .int .u8 0, .int .u8 0, .int .u8 0, .int .u8 0, .int .u8 0] := by rfl
  have T1 := Lib.hid (fun w1 (h : Cur w1 g c) => takeoct_any g c w1 h (by omega))
  have E1 := Lib.hid (show (keQ c).1 = (ocC c ++ key0).take 32 from rfl)
  have E2 := Lib.hid (show (keQ c).2 = nextC 4 c from rfl)
  rw [E1.out, E2.out]
  obtain ⟨x, ex⟩ : ∃ x, x = ocC c := ⟨_, rfl⟩
  obtain ⟨r, er⟩ : ∃ r, r = nextC 4 c := ⟨_, rfl⟩
  rw [← ex, ← er] at T1 ⊢
  go_enter Tryz.func110, Tryz.ntmps110
  go_upto_region 2 with fail
  rw [← ez]
  obtain ⟨W, eW⟩ : ∃ W, W = (w.alloc (.cells (bvs key0).toArray 53)).alloc (.cells (bvs key0).toArray 53) := ⟨_, rfl⟩
  have hq := Blk.new (w.alloc (.cells (bvs key0).toArray 53)) 53 (bvs key0).toArray
  rw [show (w.alloc (.cells (bvs key0).toArray 53)).heap.size = w.heap.size + 1 by simp, ← eW] at hq
  have HR := Lib.hid (show Blk W w.heap.size 53 (bvs key0).toArray by rw [eW]; exact (Blk.new _ _ _).alloc _)
  have HC := Lib.hid (show Cur W g c by rw [eW]; exact (h.alloc _).alloc _)
  have HG := Lib.hid (show w.grownBy W (some g) by rw [eW]; exact g_alloc (g_alloc (World.grownBy.refl _ _) _) _)
  have HLT := Lib.hid (cur_lt h)
  have HQ := Lib.hid hq
  rw [← eW]
  clear eW ez hq h hs E1 E2 ex er
  replace HR := Lib.hid (show Blk W.drew _ _ _ from HR.out.drewN 1)
  replace HQ := Lib.hid (show Blk W.drew _ _ _ from HQ.out.drewN 1)
  replace HC := Lib.hid (show Cur W.drew g c from Blk.drewN HC.out 1)
  replace HG := Lib.hid (show w.grownBy W.drew (some g) from g_drewN HG.out 1)
  go_region_held3 (fun w' => True) (trivial) ((go_at_call 122; refine Calls.mono (T1.out _ HC.out) ?_; rintro e w1 ⟨⟨v, rfl, ho⟩, hd, hg⟩; obtain ⟨b, cp, rfl, x1, x2, x3, x4⟩ := ho; clear T1; replace HC := Lib.hid hd; replace HR := Lib.hid (HR.out.grown hg (by intro e; injection e with e; have := HLT.out; omega)); replace HQ := Lib.hid (HQ.out.grown hg (by intro e; injection e with e; have := HLT.out; omega)); replace HG := Lib.hid (g_same HG.out hg); have hcp := copied_run (c := cp) HQ.out x4; clear hd hg x1 x2 x3 x4))
  have hks : (bvs ((x ++ key0).take 32)).toArray.size = 32 := by simp [bvs_length, key0]
  have hp := g_cells (a := w1) (.inl rfl : some (w.heap.size + 1) = some (w.heap.size + 1) ∨ _) (bvs (x.take 32)) 0 w1 (World.grownBy.refl _ _)
  replace HQ := Lib.hid (key_copied (x := x) HQ.out)
  have HO := Lib.hid (bvs_one' ((x ++ key0).take 32))
  obtain ⟨ks, eks⟩ : ∃ ks, ks = (bvs ((x ++ key0).take 32)).toArray := ⟨_, rfl⟩
  rw [← eks] at HQ hks HO
  obtain ⟨V, eV⟩ : ∃ V, V = w1.setCells (w.heap.size + 1) 0 (bvs (x.take 32)) := ⟨_, rfl⟩
  rw [← eV] at HQ hp ⊢
  replace HR := Lib.hid (HR.out.grown hp (by intro e; injection e with e; omega))
  replace HC := Lib.hid (cur_far HC.out hp (by have := HLT.out; omega))
  replace HG := Lib.hid (g_new HG.out hp (by omega))
  have HI := Lib.hid (show (Tryz.prog.info? 53).map (·.size) = some ks.size by rw [hks]; exact key_info)
  have HT := Lib.hid (there_blk HR.out ks.size (by rw [hks]; simp [bvs_length, key0]))
  have EK := Lib.hid eks
  have HS := Lib.hid hks
  clear hcp eV hp eks hks
  go_wp2_with (first
    | (refine load_cells (by rfl) 53 (.tmp 3) (by rfl) (w.heap.size + 1) 0 (by rfl) ks _ (range_blk HQ.out) Tryz.underlying53 (by rfl) HI.out ?_)
    | (refine wpList_store_mid (by rfl) 53 (.tmp 2) (.tmp 8) (by rfl) w.heap.size 0 ks (by rfl) (by rfl) HT.out HI.out HO.out ?_)
    | fail)
  have hE := blk_cells (ds := ks) HR.out (by rw [HS.out]; simp [bvs_length, key0])
  have hp := put_cells V w.heap.size ks.toList
  have hq := load_blk (P := Tryz.prog) hE Tryz.underlying53 rfl HI.out
  refine bodyPost_ret (v := .agg ks) ?_ ?_ ?_
  · exact results_cell 2 53 ⟨w.heap.size, 0, none⟩ Tryz.results110 rfl hq
  · rfl
  exact ⟨by rw [EK.out], cur_far HC.out hp (by have := HLT.out; omega), g_new HG.out hp (Nat.le_refl _)⟩
end Go.Proofs.YteeabfplnaknfaaGreat.Mc
end

section
set_option linter.unusedVariables false
set_option linter.unusedSimpArgs false
namespace Go.Proofs.YteeabfplnaknfaaGreat.Mc
open Go.RowKit Go.Proofs.YteeabfplnaknfaaGreat.Mem Go.Proofs.YteeabfplnaknfaaGreat.DerP Go.Proofs.YteeabfplnaknfaaGreat.DerC Go.Proofs.YteeabfplnaknfaaGreat.Ms

theorem wpList_built {P : Program} {ops : Array Oper} {rest : List Oper} {o : Oper} {a : Act} {w : World} {Q : Exit → Act → World → Prop} (hg : o.guard = none) (t : TypeId) (parts : Array (Nat × Operand)) (ho : o.op = .build t parts)
    (cells : Array Value) (hc : P.built t (parts.map fun (i, x) => (i, a.eval x)).toList = some cells) (h : wpList P ops Q rest (a.put o.dst (.agg cells)) w) : wpList P ops Q (o :: rest) a w :=
  wpList_build hg t parts ho (by rw [hc]; rfl) (by rw [hc]; exact h)
theorem len32 {v : L} (h : v.length = 32) : ∃ k0 k1 k2 k3 k4 k5 k6 k7 k8 k9 k10 k11 k12 k13 k14 k15 k16 k17 k18 k19 k20 k21 k22 k23 k24 k25 k26 k27 k28 k29 k30 k31 : UInt8, v = [k0, k1, k2, k3, k4, k5, k6, k7, k8, k9, k10, k11, k12, k13, k14, k15, k16, k17, k18, k19, k20, k21, k22, k23, k24, k25, k26, k27, k28, k29, k30, k31] := by
  rcases v with _ | ⟨k0, v⟩
  · simp at h
  rcases v with _ | ⟨k1, v⟩
  · simp at h
  rcases v with _ | ⟨k2, v⟩
  · simp at h
  rcases v with _ | ⟨k3, v⟩
  · simp at h
  rcases v with _ | ⟨k4, v⟩
  · simp at h
  rcases v with _ | ⟨k5, v⟩
  · simp at h
  rcases v with _ | ⟨k6, v⟩
  · simp at h
  rcases v with _ | ⟨k7, v⟩
  · simp at h
  rcases v with _ | ⟨k8, v⟩
  · simp at h
  rcases v with _ | ⟨k9, v⟩
  · simp at h
  rcases v with _ | ⟨k10, v⟩
  · simp at h
  rcases v with _ | ⟨k11, v⟩
  · simp at h
  rcases v with _ | ⟨k12, v⟩
  · simp at h
  rcases v with _ | ⟨k13, v⟩
  · simp at h
  rcases v with _ | ⟨k14, v⟩
  · simp at h
  rcases v with _ | ⟨k15, v⟩
  · simp at h
  rcases v with _ | ⟨k16, v⟩
  · simp at h
  rcases v with _ | ⟨k17, v⟩
  · simp at h
  rcases v with _ | ⟨k18, v⟩
  · simp at h
  rcases v with _ | ⟨k19, v⟩
  · simp at h
  rcases v with _ | ⟨k20, v⟩
  · simp at h
  rcases v with _ | ⟨k21, v⟩
  · simp at h
  rcases v with _ | ⟨k22, v⟩
  · simp at h
  rcases v with _ | ⟨k23, v⟩
  · simp at h
  rcases v with _ | ⟨k24, v⟩
  · simp at h
  rcases v with _ | ⟨k25, v⟩
  · simp at h
  rcases v with _ | ⟨k26, v⟩
  · simp at h
  rcases v with _ | ⟨k27, v⟩
  · simp at h
  rcases v with _ | ⟨k28, v⟩
  · simp at h
  rcases v with _ | ⟨k29, v⟩
  · simp at h
  rcases v with _ | ⟨k30, v⟩
  · simp at h
  rcases v with _ | ⟨k31, v⟩
  · simp at h
  rcases v with _ | ⟨x, v⟩
  · exact ⟨k0, k1, k2, k3, k4, k5, k6, k7, k8, k9, k10, k11, k12, k13, k14, k15, k16, k17, k18, k19, k20, k21, k22, k23, k24, k25, k26, k27, k28, k29, k30, k31, rfl⟩
  · simp at h
set_option maxRecDepth 10000 in
theorem built_ptQ (c : Pr) (k tr : L) (st en : Int) (hk : k.length = 32) : Tryz.prog.built 55 [(0, .agg #[.string ⟨c.1.toArray⟩, .string ⟨c.2.toArray⟩]), (1, .agg (bvs k).toArray), (2, .string ⟨tr.toArray⟩), (3, .int .i64 st), (4, .int .i64 en)] = some (ptC ⟨c, k, tr, st, en⟩).toArray := by
  obtain ⟨k0, k1, k2, k3, k4, k5, k6, k7, k8, k9, k10, k11, k12, k13, k14, k15, k16, k17, k18, k19, k20, k21, k22, k23, k24, k25, k26, k27, k28, k29, k30, k31, rfl⟩ := len32 hk
  kernel_rfl
set_option maxRecDepth 10000 in
theorem built_rpQ (k : L) (s : Pr) (st en no : Int) (hk : k.length = 32) : Tryz.prog.built 59 [(0, .agg (bvs k).toArray), (1, .agg #[.string ⟨s.1.toArray⟩, .string ⟨s.2.toArray⟩]), (2, .int .i64 st), (3, .int .i64 en), (4, .int .i64 no)] = some (rpC ⟨k, s, st, en, no⟩).toArray := by
  obtain ⟨k0, k1, k2, k3, k4, k5, k6, k7, k8, k9, k10, k11, k12, k13, k14, k15, k16, k17, k18, k19, k20, k21, k22, k23, k24, k25, k26, k27, k28, k29, k30, k31, rfl⟩ := len32 hk
  kernel_rfl
theorem one_ptQ (c : Pr) (k tr : L) (st en : Int) : (ptC ⟨c, k, tr, st, en⟩).toArray.all (·.oneCell') = true := all_oneCell_toArray fun v hv => by
  simp only [ptC, prC, List.mem_append, List.mem_cons, List.not_mem_nil, or_false] at hv
  rcases hv with (rfl | rfl) | hv | rfl | rfl | rfl
  · rfl
  · rfl
  · exact bvs_one _ v hv
  · rfl
  · rfl
  · rfl
theorem one_rpQ (k : L) (s : Pr) (st en no : Int) : (rpC ⟨k, s, st, en, no⟩).toArray.all (·.oneCell') = true := all_oneCell_toArray fun v hv => by
  simp only [rpC, prC, List.mem_append, List.mem_cons, List.not_mem_nil, or_false] at hv
  rcases hv with hv | (rfl | rfl) | rfl | rfl | rfl
  · exact bvs_one _ v hv
  · rfl
  · rfl
  · rfl
  · rfl
  · rfl
set_option maxHeartbeats 6400000 in
theorem takept_any (A : Option Addr) (b : L) (cap : Nat) (w : World) (h : Rd w w.heap.size A (bvs b)) (hs : b.length ≤ 100000) : Calls Tryz.prog 62 #[.slice A b.length cap] w fun e w' => e = .returned (.agg (ptC (ptQ b).1).toArray) ∧ Below w.heap.size w w' := by
  obtain ⟨zz, ezz⟩ : ∃ z : Array Value, z = #[.string ⟨#[]⟩, .string ⟨#[]⟩, .int .u8 0, .int .u8 0, .int .u8 0, .int .u8 0, .int .u8 0, .int .u8 0, .int .u8 0, .int .u8 0, .int .u8 0, .int .u8 0, .int .u8 0, .int .u8 0, .int .u8 0, .int .u8 0, .int .u8 0, .int .u8 0, .int .u8 0, .int .u8 0, .int .u8 0, .int .u8 0, .int .u8 0, .int .u8 0, .int .u8 0, .int .u8 0, .int .u8 0, .int .u8 0, .int .u8 0, .int .u8 0, .int .u8 0, .int .u8 0, .int .u8 0, .int .u8 0, .string ⟨#[]⟩, .int .i64 0, .int .i64 0] := ⟨_, rfl⟩
  have HZS := Lib.hid (show zz.size = 37 by rw [ezz]; simp)
  obtain ⟨W, eW⟩ : ∃ W, W = w.alloc (.cells zz 55) := ⟨_, rfl⟩
  have hWs : W.heap.size = w.heap.size + 1 := by rw [eW]; simp
  have HR := Lib.hid (show Blk W w.heap.size 55 zz by rw [eW]; exact Blk.new _ _ _)
  have HG := Lib.hid (show Below w.heap.size w W by rw [eW]; exact (Below.refl _ _).alloc (Nat.le_refl _) _)
  have c0 := open_any w.heap.size A b b.length cap W (by rw [eW]; exact h.alloc (Nat.le_refl _) _) rfl
  have c1 := Lib.hid (fun g w h => into_any 99 g (some b) w h (by show ((b.length : Int)) ≤ 100000; omega))
  have hs0 : ((bodyC 99 (some b)).getD []).length ≤ 100000 := bd_len 99 (show ((some b : Option L).getD []).length ≤ 100000 from hs)
  obtain ⟨s0, es0⟩ : ∃ s, s = bodyC 99 (some b) := ⟨_, rfl⟩
  rw [← es0] at c1 hs0
  have hs1 : (((prQ s0).2).getD []).length ≤ 100000 := nx_len 48 hs0
  have T1 := Lib.hid (fun g w h => takeprinc_any g s0 w h hs0)
  obtain ⟨v1, ev1⟩ : ∃ x : Pr, x = (prQ s0).1 := ⟨_, rfl⟩
  obtain ⟨s1, es1⟩ : ∃ s, s = (prQ s0).2 := ⟨_, rfl⟩
  rw [← ev1, ← es1] at T1
  rw [← es1] at hs1
  have hs2 : (((keQ s1).2).getD []).length ≤ 100000 := nx_len 4 hs1
  have T2 := Lib.hid (fun g w h => takekey_any g s1 w h hs1)
  have hk := keQ_len s1
  obtain ⟨v2, ev2⟩ : ∃ x : L, x = (keQ s1).1 := ⟨_, rfl⟩
  obtain ⟨s2, es2⟩ : ∃ s, s = (keQ s1).2 := ⟨_, rfl⟩
  rw [← ev2, ← es2] at T2
  rw [← ev2] at hk
  rw [← es2] at hs2
  have hs3 : ((nextC 27 s2).getD []).length ≤ 100000 := nx_len 27 hs2
  have T3 := Lib.hid (fun g w h => taketext_any g s2 w h (by omega))
  obtain ⟨v3, ev3⟩ : ∃ x : L, x = txC s2 := ⟨_, rfl⟩
  obtain ⟨s3, es3⟩ : ∃ s, s = nextC 27 s2 := ⟨_, rfl⟩
  rw [← ev3, ← es3] at T3
  rw [← es3] at hs3
  have hs4 : (((intC s3).2).getD []).length ≤ 100000 := it_len hs3
  have T4 := Lib.hid (fun g w h => int_any g s3 w h (by omega))
  obtain ⟨v4, ev4⟩ : ∃ x : Int, x = ((intC s3).1 : Int) := ⟨_, rfl⟩
  obtain ⟨s4, es4⟩ : ∃ s, s = (intC s3).2 := ⟨_, rfl⟩
  rw [← ev4, ← es4] at T4
  rw [← es4] at hs4
  have hs5 : (((intC s4).2).getD []).length ≤ 100000 := it_len hs4
  have T5 := Lib.hid (fun g w h => int_any g s4 w h (by omega))
  obtain ⟨v5, ev5⟩ : ∃ x : Int, x = ((intC s4).1 : Int) := ⟨_, rfl⟩
  obtain ⟨s5, es5⟩ : ∃ s, s = (intC s4).2 := ⟨_, rfl⟩
  rw [← ev5, ← es5] at T5
  rw [← es5] at hs5
  have FV : (ptQ b).1 = ⟨v1, v2, v3, v4, v5⟩ := by rw [ev1, ev2, ev3, ev4, ev5, es4, es3, es2, es1, es0]; rfl
  rw [FV]
  have HBT := built_ptQ v1 v2 v3 v4 v5 hk
  have hcs : (ptC ⟨v1, v2, v3, v4, v5⟩).toArray.size = 37 := pt_size hk
  have hone : (ptC ⟨v1, v2, v3, v4, v5⟩).toArray.all (·.oneCell') = true := one_ptQ v1 v2 v3 v4 v5
  obtain ⟨ks, eks⟩ : ∃ ks, ks = (bvs v2).toArray := ⟨_, rfl⟩
  rw [← eks] at HBT T2
  obtain ⟨cs, ecs⟩ : ∃ cs, cs = (ptC ⟨v1, v2, v3, v4, v5⟩).toArray := ⟨_, rfl⟩
  rw [← ecs] at HBT hcs hone ⊢
  have HBU := Lib.hid HBT
  have HCS := Lib.hid hcs
  have HO := Lib.hid hone
  have HI := Lib.hid (show (Tryz.prog.info? 55).map (·.size) = some cs.size by rw [hcs]; kernel_rfl)
  clear h hs hk HBT hcs hone eks ecs FV es0 hs0 hs1 hs2 hs3 hs4 hs5 ev1 es1 ev2 es2 ev3 es3 ev4 es4 ev5 es5
  have HWS := Lib.hid hWs
  clear hWs
  go_enter Tryz.func62, Tryz.ntmps62
  go_upto_region 1 with fail
  rw [← ezz, ← eW]
  clear ezz eW
  go_wp2_with (first
    | (go_at_call 88; refine Calls.mono c0 ?_; rintro e wo ⟨go, rfl, hgo, hco, hb⟩; clear c0; have HC := Lib.hid hco; have HGO := Lib.hid (show w.heap.size + 1 ≤ go by have := HWS.out; omega); replace HR := Lib.hid (HR.out.below hb); replace HG := Lib.hid (below_then HG.out (by have := HWS.out; omega) hb); have HWO := Lib.hid (show w.heap.size + 1 ≤ wo.heap.size by have := hb.size; have := HWS.out; omega); clear hgo hco hb)
    | (go_at_call 89; refine Calls.mono (c1.out _ _ HC.out) ?_; rintro e wi ⟨⟨gd, rfl, hgd, hd⟩, hc, hg⟩; clear c1 HC; have HD := Lib.hid hd; have HGD := Lib.hid (show w.heap.size + 1 ≤ gd by have := HWO.out; omega); have HDL := Lib.hid (cur_lt hd); replace HR := Lib.hid (HR.out.grown hg (by intro e; injection e with e; have := HGO.out; omega)); replace HG := Lib.hid (below_g HG.out hg (by have := HWO.out; omega) (by have := HGO.out; omega)); clear hgd hd hc hg HWO HGO)
    | (go_at_call 109; (with_reducible refine Calls.mono (T1.out _ _ HD.out) ?_); rintro e w1 ⟨rfl, hd, hg⟩; clear T1; replace HD := Lib.hid hd; replace HR := Lib.hid (HR.out.grown hg (by intro e; injection e with e; have := HGD.out; omega)); replace HG := Lib.hid (below_g HG.out hg (by have := HGD.out; have := HDL.out; omega) (by have := HGD.out; omega)); replace HDL := Lib.hid (Nat.lt_of_lt_of_le HDL.out hg.size); clear hd hg)
    | (go_at_call 110; (with_reducible refine Calls.mono (T2.out _ _ HD.out) ?_); rintro e w2 ⟨rfl, hd, hg⟩; clear T2; replace HD := Lib.hid hd; replace HR := Lib.hid (HR.out.grown hg (by intro e; injection e with e; have := HGD.out; omega)); replace HG := Lib.hid (below_g HG.out hg (by have := HGD.out; have := HDL.out; omega) (by have := HGD.out; omega)); replace HDL := Lib.hid (Nat.lt_of_lt_of_le HDL.out hg.size); clear hd hg)
    | (go_at_call 111; (with_reducible refine Calls.mono (T3.out _ _ HD.out) ?_); rintro e w3 ⟨rfl, hd, hg⟩; clear T3; replace HD := Lib.hid hd; replace HR := Lib.hid (HR.out.grown hg (by intro e; injection e with e; have := HGD.out; omega)); replace HG := Lib.hid (below_g HG.out hg (by have := HGD.out; have := HDL.out; omega) (by have := HGD.out; omega)); replace HDL := Lib.hid (Nat.lt_of_lt_of_le HDL.out hg.size); clear hd hg)
    | (go_at_call 112; (with_reducible refine Calls.mono (T4.out _ _ HD.out) ?_); rintro e w4 ⟨rfl, hd, hg⟩; clear T4; replace HD := Lib.hid hd; replace HR := Lib.hid (HR.out.grown hg (by intro e; injection e with e; have := HGD.out; omega)); replace HG := Lib.hid (below_g HG.out hg (by have := HGD.out; have := HDL.out; omega) (by have := HGD.out; omega)); replace HDL := Lib.hid (Nat.lt_of_lt_of_le HDL.out hg.size); clear hd hg)
    | (go_at_call 112; (with_reducible refine Calls.mono (T5.out _ _ HD.out) ?_); rintro e w5 ⟨rfl, hd, hg⟩; clear T5; replace HD := Lib.hid hd; replace HR := Lib.hid (HR.out.grown hg (by intro e; injection e with e; have := HGD.out; omega)); replace HG := Lib.hid (below_g HG.out hg (by have := HGD.out; have := HDL.out; omega) (by have := HGD.out; omega)); replace HDL := Lib.hid (Nat.lt_of_lt_of_le HDL.out hg.size); clear hd hg)
    | (refine wpList_built (by rfl) 55 #[(0, .tmp 8), (1, .tmp 10), (2, .tmp 12), (3, .tmp 14), (4, .tmp 16)] (by rfl) cs (by simp only [List.map_toArray, List.map_cons, List.map_nil]; exact HBU.out) ?_)
    | (refine wpList_store_mid (by rfl) 55 (.tmp 2) (.tmp 17) (by rfl) w.heap.size 0 cs (by rfl) (by rfl) (there_blk HR.out _ (by have := HZS.out; have := HCS.out; omega)) HI.out HO.out ?_)
    | fail)
  have hE := blk_cells (ds := cs) HR.out (by have := HZS.out; have := HCS.out; omega)
  have hp := put_cells w5 w.heap.size cs.toList
  have hq := load_blk (P := Tryz.prog) hE Tryz.underlying55 rfl HI.out
  refine bodyPost_ret (v := .agg cs) ?_ ?_ ?_
  · exact results_cell 2 55 ⟨w.heap.size, 0, none⟩ Tryz.results62 rfl hq
  · rfl
  exact ⟨rfl, below_g HG.out hp (by have := HR.out.lt; omega) (Nat.le_refl _)⟩
set_option maxHeartbeats 6400000 in
theorem takerp_any (A : Option Addr) (b : L) (cap : Nat) (w : World) (h : Rd w w.heap.size A (bvs b)) (hs : b.length ≤ 100000) : Calls Tryz.prog 68 #[.slice A b.length cap] w fun e w' => e = .returned (.agg (rpC (rpQ b).1).toArray) ∧ Below w.heap.size w w' := by
  obtain ⟨zz, ezz⟩ : ∃ z : Array Value, z = #[.int .u8 0, .int .u8 0, .int .u8 0, .int .u8 0, .int .u8 0, .int .u8 0, .int .u8 0, .int .u8 0, .int .u8 0, .int .u8 0, .int .u8 0, .int .u8 0, .int .u8 0, .int .u8 0, .int .u8 0, .int .u8 0, .int .u8 0, .int .u8 0, .int .u8 0, .int .u8 0, .int .u8 0, .int .u8 0, .int .u8 0, .int .u8 0, .int .u8 0, .int .u8 0, .int .u8 0, .int .u8 0, .int .u8 0, .int .u8 0, .int .u8 0, .int .u8 0, .string ⟨#[]⟩, .string ⟨#[]⟩, .int .i64 0, .int .i64 0, .int .i64 0] := ⟨_, rfl⟩
  have HZS := Lib.hid (show zz.size = 37 by rw [ezz]; simp)
  obtain ⟨W, eW⟩ : ∃ W, W = w.alloc (.cells zz 59) := ⟨_, rfl⟩
  have hWs : W.heap.size = w.heap.size + 1 := by rw [eW]; simp
  have HR := Lib.hid (show Blk W w.heap.size 59 zz by rw [eW]; exact Blk.new _ _ _)
  have HG := Lib.hid (show Below w.heap.size w W by rw [eW]; exact (Below.refl _ _).alloc (Nat.le_refl _) _)
  have c0 := open_any w.heap.size A b b.length cap W (by rw [eW]; exact h.alloc (Nat.le_refl _) _) rfl
  have c1 := Lib.hid (fun g w h => into_any 122 g (some b) w h (by show ((b.length : Int)) ≤ 100000; omega))
  have hs0 : ((bodyC 122 (some b)).getD []).length ≤ 100000 := bd_len 122 (show ((some b : Option L).getD []).length ≤ 100000 from hs)
  obtain ⟨s0, es0⟩ : ∃ s, s = bodyC 122 (some b) := ⟨_, rfl⟩
  rw [← es0] at c1 hs0
  have hs1 : (((keQ s0).2).getD []).length ≤ 100000 := nx_len 4 hs0
  have T1 := Lib.hid (fun g w h => takekey_any g s0 w h hs0)
  have hk := keQ_len s0
  obtain ⟨v1, ev1⟩ : ∃ x : L, x = (keQ s0).1 := ⟨_, rfl⟩
  obtain ⟨s1, es1⟩ : ∃ s, s = (keQ s0).2 := ⟨_, rfl⟩
  rw [← ev1, ← es1] at T1
  rw [← ev1] at hk
  rw [← es1] at hs1
  have hs2 : (((prQ s1).2).getD []).length ≤ 100000 := nx_len 48 hs1
  have T2 := Lib.hid (fun g w h => takeprinc_any g s1 w h hs1)
  obtain ⟨v2, ev2⟩ : ∃ x : Pr, x = (prQ s1).1 := ⟨_, rfl⟩
  obtain ⟨s2, es2⟩ : ∃ s, s = (prQ s1).2 := ⟨_, rfl⟩
  rw [← ev2, ← es2] at T2
  rw [← es2] at hs2
  have hs3 : (((intC s2).2).getD []).length ≤ 100000 := it_len hs2
  have T3 := Lib.hid (fun g w h => int_any g s2 w h (by omega))
  obtain ⟨v3, ev3⟩ : ∃ x : Int, x = ((intC s2).1 : Int) := ⟨_, rfl⟩
  obtain ⟨s3, es3⟩ : ∃ s, s = (intC s2).2 := ⟨_, rfl⟩
  rw [← ev3, ← es3] at T3
  rw [← es3] at hs3
  have hs4 : (((intC s3).2).getD []).length ≤ 100000 := it_len hs3
  have T4 := Lib.hid (fun g w h => int_any g s3 w h (by omega))
  obtain ⟨v4, ev4⟩ : ∃ x : Int, x = ((intC s3).1 : Int) := ⟨_, rfl⟩
  obtain ⟨s4, es4⟩ : ∃ s, s = (intC s3).2 := ⟨_, rfl⟩
  rw [← ev4, ← es4] at T4
  rw [← es4] at hs4
  have hs5 : (((intC s4).2).getD []).length ≤ 100000 := it_len hs4
  have T5 := Lib.hid (fun g w h => int_any g s4 w h (by omega))
  obtain ⟨v5, ev5⟩ : ∃ x : Int, x = ((intC s4).1 : Int) := ⟨_, rfl⟩
  obtain ⟨s5, es5⟩ : ∃ s, s = (intC s4).2 := ⟨_, rfl⟩
  rw [← ev5, ← es5] at T5
  rw [← es5] at hs5
  have FV : (rpQ b).1 = ⟨v1, v2, v3, v4, v5⟩ := by rw [ev1, ev2, ev3, ev4, ev5, es4, es3, es2, es1, es0]; rfl
  rw [FV]
  have HBT := built_rpQ v1 v2 v3 v4 v5 hk
  have hcs : (rpC ⟨v1, v2, v3, v4, v5⟩).toArray.size = 37 := rp_size hk
  have hone : (rpC ⟨v1, v2, v3, v4, v5⟩).toArray.all (·.oneCell') = true := one_rpQ v1 v2 v3 v4 v5
  obtain ⟨ks, eks⟩ : ∃ ks, ks = (bvs v1).toArray := ⟨_, rfl⟩
  rw [← eks] at HBT T1
  obtain ⟨cs, ecs⟩ : ∃ cs, cs = (rpC ⟨v1, v2, v3, v4, v5⟩).toArray := ⟨_, rfl⟩
  rw [← ecs] at HBT hcs hone ⊢
  have HBU := Lib.hid HBT
  have HCS := Lib.hid hcs
  have HO := Lib.hid hone
  have HI := Lib.hid (show (Tryz.prog.info? 59).map (·.size) = some cs.size by rw [hcs]; kernel_rfl)
  clear h hs hk HBT hcs hone eks ecs FV es0 hs0 hs1 hs2 hs3 hs4 hs5 ev1 es1 ev2 es2 ev3 es3 ev4 es4 ev5 es5
  have HWS := Lib.hid hWs
  clear hWs
  go_enter Tryz.func68, Tryz.ntmps68
  go_upto_region 1 with fail
  rw [← ezz, ← eW]
  clear ezz eW
  go_wp2_with (first
    | (go_at_call 88; refine Calls.mono c0 ?_; rintro e wo ⟨go, rfl, hgo, hco, hb⟩; clear c0; have HC := Lib.hid hco; have HGO := Lib.hid (show w.heap.size + 1 ≤ go by have := HWS.out; omega); replace HR := Lib.hid (HR.out.below hb); replace HG := Lib.hid (below_then HG.out (by have := HWS.out; omega) hb); have HWO := Lib.hid (show w.heap.size + 1 ≤ wo.heap.size by have := hb.size; have := HWS.out; omega); clear hgo hco hb)
    | (go_at_call 89; refine Calls.mono (c1.out _ _ HC.out) ?_; rintro e wi ⟨⟨gd, rfl, hgd, hd⟩, hc, hg⟩; clear c1 HC; have HD := Lib.hid hd; have HGD := Lib.hid (show w.heap.size + 1 ≤ gd by have := HWO.out; omega); have HDL := Lib.hid (cur_lt hd); replace HR := Lib.hid (HR.out.grown hg (by intro e; injection e with e; have := HGO.out; omega)); replace HG := Lib.hid (below_g HG.out hg (by have := HWO.out; omega) (by have := HGO.out; omega)); clear hgd hd hc hg HWO HGO)
    | (go_at_call 110; (with_reducible refine Calls.mono (T1.out _ _ HD.out) ?_); rintro e w1 ⟨rfl, hd, hg⟩; clear T1; replace HD := Lib.hid hd; replace HR := Lib.hid (HR.out.grown hg (by intro e; injection e with e; have := HGD.out; omega)); replace HG := Lib.hid (below_g HG.out hg (by have := HGD.out; have := HDL.out; omega) (by have := HGD.out; omega)); replace HDL := Lib.hid (Nat.lt_of_lt_of_le HDL.out hg.size); clear hd hg)
    | (go_at_call 109; (with_reducible refine Calls.mono (T2.out _ _ HD.out) ?_); rintro e w2 ⟨rfl, hd, hg⟩; clear T2; replace HD := Lib.hid hd; replace HR := Lib.hid (HR.out.grown hg (by intro e; injection e with e; have := HGD.out; omega)); replace HG := Lib.hid (below_g HG.out hg (by have := HGD.out; have := HDL.out; omega) (by have := HGD.out; omega)); replace HDL := Lib.hid (Nat.lt_of_lt_of_le HDL.out hg.size); clear hd hg)
    | (go_at_call 112; (with_reducible refine Calls.mono (T3.out _ _ HD.out) ?_); rintro e w3 ⟨rfl, hd, hg⟩; clear T3; replace HD := Lib.hid hd; replace HR := Lib.hid (HR.out.grown hg (by intro e; injection e with e; have := HGD.out; omega)); replace HG := Lib.hid (below_g HG.out hg (by have := HGD.out; have := HDL.out; omega) (by have := HGD.out; omega)); replace HDL := Lib.hid (Nat.lt_of_lt_of_le HDL.out hg.size); clear hd hg)
    | (go_at_call 112; (with_reducible refine Calls.mono (T4.out _ _ HD.out) ?_); rintro e w4 ⟨rfl, hd, hg⟩; clear T4; replace HD := Lib.hid hd; replace HR := Lib.hid (HR.out.grown hg (by intro e; injection e with e; have := HGD.out; omega)); replace HG := Lib.hid (below_g HG.out hg (by have := HGD.out; have := HDL.out; omega) (by have := HGD.out; omega)); replace HDL := Lib.hid (Nat.lt_of_lt_of_le HDL.out hg.size); clear hd hg)
    | (go_at_call 112; (with_reducible refine Calls.mono (T5.out _ _ HD.out) ?_); rintro e w5 ⟨rfl, hd, hg⟩; clear T5; replace HD := Lib.hid hd; replace HR := Lib.hid (HR.out.grown hg (by intro e; injection e with e; have := HGD.out; omega)); replace HG := Lib.hid (below_g HG.out hg (by have := HGD.out; have := HDL.out; omega) (by have := HGD.out; omega)); replace HDL := Lib.hid (Nat.lt_of_lt_of_le HDL.out hg.size); clear hd hg)
    | (refine wpList_built (by rfl) 59 #[(0, .tmp 8), (1, .tmp 10), (2, .tmp 12), (3, .tmp 14), (4, .tmp 16)] (by rfl) cs (by simp only [List.map_toArray, List.map_cons, List.map_nil]; exact HBU.out) ?_)
    | (refine wpList_store_mid (by rfl) 59 (.tmp 2) (.tmp 17) (by rfl) w.heap.size 0 cs (by rfl) (by rfl) (there_blk HR.out _ (by have := HZS.out; have := HCS.out; omega)) HI.out HO.out ?_)
    | fail)
  have hE := blk_cells (ds := cs) HR.out (by have := HZS.out; have := HCS.out; omega)
  have hp := put_cells w5 w.heap.size cs.toList
  have hq := load_blk (P := Tryz.prog) hE Tryz.underlying59 rfl HI.out
  refine bodyPost_ret (v := .agg cs) ?_ ?_ ?_
  · exact results_cell 2 59 ⟨w.heap.size, 0, none⟩ Tryz.results68 rfl hq
  · rfl
  exact ⟨rfl, below_g HG.out hp (by have := HR.out.lt; omega) (Nat.le_refl _)⟩
end Go.Proofs.YteeabfplnaknfaaGreat.Mc
end
