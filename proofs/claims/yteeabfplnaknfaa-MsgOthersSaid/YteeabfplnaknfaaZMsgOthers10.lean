import Derived.Deep.RegionHeld3
import Derived.Laws.IdiomCopy
import Derived.Lib.MinMax
import Derived.Deep.LoopGhost
import Derived.Laws.Tables
import Derived.Deep.MidRow
import Derived.BigFrame
import Derived.Test.YteeabfplnaknfaaZMsgOthers1
import Derived.Test.YteeabfplnaknfaaZMsgOthers2
import Derived.Test.YteeabfplnaknfaaZMsgOthers3
import Derived.Test.YteeabfplnaknfaaZMsgOthers4
import Derived.Test.YteeabfplnaknfaaZMsgOthers5
import Derived.Test.YteeabfplnaknfaaZMsgOthers7
import Derived.Test.YteeabfplnaknfaaZMsgOthers8
import Derived.Test.YteeabfplnaknfaaZMsgOthers9
section
set_option linter.unusedVariables false
set_option linter.unusedSimpArgs false
namespace Go.Proofs.Yteeabfplnaknfaa.Mc
open Go.RowKit Go.Proofs.Yteeabfplnaknfaa.Mem Go.Proofs.Yteeabfplnaknfaa.DerP Go.Proofs.Yteeabfplnaknfaa.DerC Go.Proofs.Yteeabfplnaknfaa.Ms

theorem u8_size : (Try.prog.info? 5).map (·.size) = some 1 := by kernel_rfl
theorem key_info : (Try.prog.info? 48).map (·.size) = some 32 := by kernel_rfl
theorem bvs_one' (l : L) : (bvs l).toArray.all (·.oneCell') = true := all_oneCell_toArray (bvs_one l)
theorem copied_run {W : World} {K b c : Nat} {t : TypeId} {x : L} (h : Blk W K t (bvs key0).toArray) (hx : ∀ i u, (bvs x)[i]? = some u → W.cell? ⟨b, i, none⟩ = some u) :
    (Builtin.copy_ #[26, 26] 3 #[.slice (some ⟨K, 0, none⟩) 32 32, .slice (some ⟨b, 0, none⟩) x.length c]).run Try.prog W = .ok (goInt (bvs (x.take 32)).length) (W.setCells K 0 (bvs (x.take 32))) := by
  refine run_copy_cells (P := Try.prog) W 26 26 3 5 K 0 32 32 ⟨b, 0, none⟩ x.length c (bvs (x.take 32)) Try.underlying26 u8_size ?_ ?_ ?_ ?_ (bvs_one _)
  · rw [bvs_length, List.length_take]; exact Nat.min_comm _ _
  · intro j v hv
    rw [addr_add, Nat.zero_add]
    apply hx
    have hj : j < (bvs (x.take 32)).length := (List.getElem?_eq_some_iff.1 hv).1
    rw [bvs_length, List.length_take] at hj
    rw [← hv]
    simp only [bvs, List.getElem?_map]
    rw [List.getElem?_take_of_lt (by omega)]
  · intro j hj
    rw [bvs_length, List.length_take] at hj
    exact (there_blk h 32 (by simp [bvs_length, key0]) j (by omega)).1
  · intro j hj
    rw [bvs_length, List.length_take] at hj
    exact (there_blk h 32 (by simp [bvs_length, key0]) j (by omega)).2
set_option maxHeartbeats 3200000 in
theorem takekey_any (g : Nat) (c : Option L) (w : World) (h : Cur w g c) (hs : (c.getD []).length ≤ 100000) : Calls Try.prog 54 #[.pointer (some ⟨g, 0, none⟩)] w fun e w' => e = .returned (.agg (bvs (keQ c).1).toArray) ∧ Cur w' g (keQ c).2 ∧ w.grownBy w' (some g) := by
  have ez : (bvs key0).toArray = #[.int .u8 0, .int .u8 0, .int .u8 0, .int .u8 0, .int .u8 0, .int .u8 0, .int .u8 0, .int .u8 0, .int .u8 0, .int .u8 0, .int .u8 0, .int .u8 0, .int .u8 0, .int .u8 0, .int .u8 0, .int .u8 0, .int .u8 0, .int .u8 0, .int .u8 0, .int .u8 0, .int .u8 0, .int .u8 0, .int .u8 0, .int .u8 0, .int .u8 0, .int .u8 0, .int .u8 0, .int .u8 0, .int .u8 0, .int .u8 0, .int .u8 0, .int .u8 0] := by rfl
  have T1 := Lib.hid (fun w1 (h : Cur w1 g c) => takeoct_any g c w1 h (by omega))
  have E1 := Lib.hid (show (keQ c).1 = (ocC c ++ key0).take 32 from rfl)
  have E2 := Lib.hid (show (keQ c).2 = nextC 4 c from rfl)
  rw [E1.out, E2.out]
  obtain ⟨x, ex⟩ : ∃ x, x = ocC c := ⟨_, rfl⟩
  obtain ⟨r, er⟩ : ∃ r, r = nextC 4 c := ⟨_, rfl⟩
  rw [← ex, ← er] at T1 ⊢
  go_enter Try.func54, Try.ntmps54
  go_upto_region 2 with fail
  rw [← ez]
  obtain ⟨W, eW⟩ : ∃ W, W = (w.alloc (.cells (bvs key0).toArray 48)).alloc (.cells (bvs key0).toArray 48) := ⟨_, rfl⟩
  have hq := Blk.new (w.alloc (.cells (bvs key0).toArray 48)) 48 (bvs key0).toArray
  rw [show (w.alloc (.cells (bvs key0).toArray 48)).heap.size = w.heap.size + 1 by simp, ← eW] at hq
  have HR := Lib.hid (show Blk W w.heap.size 48 (bvs key0).toArray by rw [eW]; exact (Blk.new _ _ _).alloc _)
  have HC := Lib.hid (show Cur W g c by rw [eW]; exact (h.alloc _).alloc _)
  have HG := Lib.hid (show w.grownBy W (some g) by rw [eW]; exact g_alloc (g_alloc (World.grownBy.refl _ _) _) _)
  have HLT := Lib.hid (cur_lt h)
  have HQ := Lib.hid hq
  rw [← eW]
  clear eW ez hq h hs E1 E2 ex er
  replace HR := Lib.hid (show Blk W.drew _ _ _ from HR.out.drewN 1)
  replace HQ := Lib.hid (show Blk W.drew _ _ _ from HQ.out.drewN 1)
  replace HC := Lib.hid (show Cur W.drew g c from Blk.drewN HC.out 1)
  replace HG := Lib.hid (show w.grownBy W.drew (some g) from g_drewN HG.out 1)
  go_region_held3 (fun w' => True) (trivial) ((go_at_call 73; refine Calls.mono (T1.out _ HC.out) ?_; rintro e w1 ⟨⟨v, rfl, ho⟩, hd, hg⟩; obtain ⟨b, cp, rfl, x1, x2, x3, x4⟩ := ho; clear T1; replace HC := Lib.hid hd; replace HR := Lib.hid (HR.out.grown hg (by intro e; injection e with e; have := HLT.out; omega)); replace HQ := Lib.hid (HQ.out.grown hg (by intro e; injection e with e; have := HLT.out; omega)); replace HG := Lib.hid (g_same HG.out hg); have hcp := copied_run (c := cp) HQ.out x4; clear hd hg x1 x2 x3 x4))
  have hks : (bvs ((x ++ key0).take 32)).toArray.size = 32 := by simp [bvs_length, key0]
  have hp := g_cells (a := w1) (.inl rfl : some (w.heap.size + 1) = some (w.heap.size + 1) ∨ _) (bvs (x.take 32)) 0 w1 (World.grownBy.refl _ _)
  replace HQ := Lib.hid (key_copied (x := x) HQ.out)
  have HO := Lib.hid (bvs_one' ((x ++ key0).take 32))
  obtain ⟨ks, eks⟩ : ∃ ks, ks = (bvs ((x ++ key0).take 32)).toArray := ⟨_, rfl⟩
  rw [← eks] at HQ hks HO
  obtain ⟨V, eV⟩ : ∃ V, V = w1.setCells (w.heap.size + 1) 0 (bvs (x.take 32)) := ⟨_, rfl⟩
  rw [← eV] at HQ hp ⊢
  replace HR := Lib.hid (HR.out.grown hp (by intro e; injection e with e; omega))
  replace HC := Lib.hid (cur_far HC.out hp (by have := HLT.out; omega))
  replace HG := Lib.hid (g_new HG.out hp (by omega))
  have HI := Lib.hid (show (Try.prog.info? 48).map (·.size) = some ks.size by rw [hks]; exact key_info)
  have HT := Lib.hid (there_blk HR.out ks.size (by rw [hks]; simp [bvs_length, key0]))
  have EK := Lib.hid eks
  have HS := Lib.hid hks
  clear hcp eV hp eks hks
  go_wp2_with (first
    | (refine load_cells (by rfl) 48 (.tmp 3) (by rfl) (w.heap.size + 1) 0 (by rfl) ks _ (range_blk HQ.out) Try.underlying48 (by rfl) HI.out ?_)
    | (refine wpList_store_mid (by rfl) 48 (.tmp 2) (.tmp 8) (by rfl) w.heap.size 0 ks (by rfl) (by rfl) HT.out HI.out HO.out ?_)
    | fail)
  have hE := blk_cells (ds := ks) HR.out (by rw [HS.out]; simp [bvs_length, key0])
  have hp := put_cells V w.heap.size ks.toList
  have hq := load_blk (P := Try.prog) hE Try.underlying48 rfl HI.out
  refine bodyPost_ret (v := .agg ks) ?_ ?_ ?_
  · exact results_cell 2 48 ⟨w.heap.size, 0, none⟩ Try.results54 rfl hq
  · rfl
  exact ⟨by rw [EK.out], cur_far HC.out hp (by have := HLT.out; omega), g_new HG.out hp (Nat.le_refl _)⟩
end Go.Proofs.Yteeabfplnaknfaa.Mc
end

section
set_option linter.unusedVariables false
set_option linter.unusedSimpArgs false
namespace Go.Proofs.Yteeabfplnaknfaa.Mc
open Go.RowKit Go.Proofs.Yteeabfplnaknfaa.Mem Go.Proofs.Yteeabfplnaknfaa.DerP Go.Proofs.Yteeabfplnaknfaa.DerC Go.Proofs.Yteeabfplnaknfaa.Ms

theorem wpList_built {P : Program} {ops : Array Oper} {rest : List Oper} {o : Oper} {a : Act} {w : World} {Q : Exit → Act → World → Prop} (hg : o.guard = none) (t : TypeId) (parts : Array (Nat × Operand)) (ho : o.op = .build t parts)
    (cells : Array Value) (hc : P.built t (parts.map fun (i, x) => (i, a.eval x)).toList = some cells) (h : wpList P ops Q rest (a.put o.dst (.agg cells)) w) : wpList P ops Q (o :: rest) a w :=
  wpList_build hg t parts ho (by rw [hc]; rfl) (by rw [hc]; exact h)
theorem len32 {v : L} (h : v.length = 32) : ∃ k0 k1 k2 k3 k4 k5 k6 k7 k8 k9 k10 k11 k12 k13 k14 k15 k16 k17 k18 k19 k20 k21 k22 k23 k24 k25 k26 k27 k28 k29 k30 k31 : UInt8, v = [k0, k1, k2, k3, k4, k5, k6, k7, k8, k9, k10, k11, k12, k13, k14, k15, k16, k17, k18, k19, k20, k21, k22, k23, k24, k25, k26, k27, k28, k29, k30, k31] := by
  rcases v with _ | ⟨k0, v⟩
  · simp at h
  rcases v with _ | ⟨k1, v⟩
  · simp at h
  rcases v with _ | ⟨k2, v⟩
  · simp at h
  rcases v with _ | ⟨k3, v⟩
  · simp at h
  rcases v with _ | ⟨k4, v⟩
  · simp at h
  rcases v with _ | ⟨k5, v⟩
  · simp at h
  rcases v with _ | ⟨k6, v⟩
  · simp at h
  rcases v with _ | ⟨k7, v⟩
  · simp at h
  rcases v with _ | ⟨k8, v⟩
  · simp at h
  rcases v with _ | ⟨k9, v⟩
  · simp at h
  rcases v with _ | ⟨k10, v⟩
  · simp at h
  rcases v with _ | ⟨k11, v⟩
  · simp at h
  rcases v with _ | ⟨k12, v⟩
  · simp at h
  rcases v with _ | ⟨k13, v⟩
  · simp at h
  rcases v with _ | ⟨k14, v⟩
  · simp at h
  rcases v with _ | ⟨k15, v⟩
  · simp at h
  rcases v with _ | ⟨k16, v⟩
  · simp at h
  rcases v with _ | ⟨k17, v⟩
  · simp at h
  rcases v with _ | ⟨k18, v⟩
  · simp at h
  rcases v with _ | ⟨k19, v⟩
  · simp at h
  rcases v with _ | ⟨k20, v⟩
  · simp at h
  rcases v with _ | ⟨k21, v⟩
  · simp at h
  rcases v with _ | ⟨k22, v⟩
  · simp at h
  rcases v with _ | ⟨k23, v⟩
  · simp at h
  rcases v with _ | ⟨k24, v⟩
  · simp at h
  rcases v with _ | ⟨k25, v⟩
  · simp at h
  rcases v with _ | ⟨k26, v⟩
  · simp at h
  rcases v with _ | ⟨k27, v⟩
  · simp at h
  rcases v with _ | ⟨k28, v⟩
  · simp at h
  rcases v with _ | ⟨k29, v⟩
  · simp at h
  rcases v with _ | ⟨k30, v⟩
  · simp at h
  rcases v with _ | ⟨k31, v⟩
  · simp at h
  rcases v with _ | ⟨x, v⟩
  · exact ⟨k0, k1, k2, k3, k4, k5, k6, k7, k8, k9, k10, k11, k12, k13, k14, k15, k16, k17, k18, k19, k20, k21, k22, k23, k24, k25, k26, k27, k28, k29, k30, k31, rfl⟩
  · simp at h
set_option maxRecDepth 10000 in
theorem built_ptQ (c : Pr) (k tr : L) (st en : Int) (hk : k.length = 32) : Try.prog.built 50 [(0, .agg #[.string ⟨c.1.toArray⟩, .string ⟨c.2.toArray⟩]), (1, .agg (bvs k).toArray), (2, .string ⟨tr.toArray⟩), (3, .int .i64 st), (4, .int .i64 en)] = some (ptC ⟨c, k, tr, st, en⟩).toArray := by
  obtain ⟨k0, k1, k2, k3, k4, k5, k6, k7, k8, k9, k10, k11, k12, k13, k14, k15, k16, k17, k18, k19, k20, k21, k22, k23, k24, k25, k26, k27, k28, k29, k30, k31, rfl⟩ := len32 hk
  kernel_rfl
theorem one_ptQ (c : Pr) (k tr : L) (st en : Int) : (ptC ⟨c, k, tr, st, en⟩).toArray.all (·.oneCell') = true := all_oneCell_toArray fun v hv => by
  simp only [ptC, prC, List.mem_append, List.mem_cons, List.not_mem_nil, or_false] at hv
  rcases hv with (rfl | rfl) | hv | rfl | rfl | rfl
  · rfl
  · rfl
  · exact bvs_one _ v hv
  · rfl
  · rfl
  · rfl
set_option maxHeartbeats 6400000 in
theorem takept_any (A : Option Addr) (b : L) (cap : Nat) (w : World) (h : Rd w w.heap.size A (bvs b)) (hs : b.length ≤ 100000) : Calls Try.prog 27 #[.slice A b.length cap] w fun e w' => e = .returned (.agg (ptC (ptQ b).1).toArray) ∧ Below w.heap.size w w' := by
  obtain ⟨zz, ezz⟩ : ∃ z : Array Value, z = #[.string ⟨#[]⟩, .string ⟨#[]⟩, .int .u8 0, .int .u8 0, .int .u8 0, .int .u8 0, .int .u8 0, .int .u8 0, .int .u8 0, .int .u8 0, .int .u8 0, .int .u8 0, .int .u8 0, .int .u8 0, .int .u8 0, .int .u8 0, .int .u8 0, .int .u8 0, .int .u8 0, .int .u8 0, .int .u8 0, .int .u8 0, .int .u8 0, .int .u8 0, .int .u8 0, .int .u8 0, .int .u8 0, .int .u8 0, .int .u8 0, .int .u8 0, .int .u8 0, .int .u8 0, .int .u8 0, .int .u8 0, .string ⟨#[]⟩, .int .i64 0, .int .i64 0] := ⟨_, rfl⟩
  have HZS := Lib.hid (show zz.size = 37 by rw [ezz]; simp)
  obtain ⟨W, eW⟩ : ∃ W, W = w.alloc (.cells zz 50) := ⟨_, rfl⟩
  have hWs : W.heap.size = w.heap.size + 1 := by rw [eW]; simp
  have HR := Lib.hid (show Blk W w.heap.size 50 zz by rw [eW]; exact Blk.new _ _ _)
  have HG := Lib.hid (show Below w.heap.size w W by rw [eW]; exact (Below.refl _ _).alloc (Nat.le_refl _) _)
  have c0 := open_any w.heap.size A b b.length cap W (by rw [eW]; exact h.alloc (Nat.le_refl _) _) rfl
  have c1 := Lib.hid (fun g w h => into_any 99 g (some b) w h (by show ((b.length : Int)) ≤ 100000; omega))
  have hs0 : ((bodyC 99 (some b)).getD []).length ≤ 100000 := bd_len 99 (show ((some b : Option L).getD []).length ≤ 100000 from hs)
  obtain ⟨s0, es0⟩ : ∃ s, s = bodyC 99 (some b) := ⟨_, rfl⟩
  rw [← es0] at c1 hs0
  have hs1 : (((prQ s0).2).getD []).length ≤ 100000 := nx_len 48 hs0
  have T1 := Lib.hid (fun g w h => takeprinc_any g s0 w h hs0)
  obtain ⟨v1, ev1⟩ : ∃ x : Pr, x = (prQ s0).1 := ⟨_, rfl⟩
  obtain ⟨s1, es1⟩ : ∃ s, s = (prQ s0).2 := ⟨_, rfl⟩
  rw [← ev1, ← es1] at T1
  rw [← es1] at hs1
  have hs2 : (((keQ s1).2).getD []).length ≤ 100000 := nx_len 4 hs1
  have T2 := Lib.hid (fun g w h => takekey_any g s1 w h hs1)
  have hk := keQ_len s1
  obtain ⟨v2, ev2⟩ : ∃ x : L, x = (keQ s1).1 := ⟨_, rfl⟩
  obtain ⟨s2, es2⟩ : ∃ s, s = (keQ s1).2 := ⟨_, rfl⟩
  rw [← ev2, ← es2] at T2
  rw [← ev2] at hk
  rw [← es2] at hs2
  have hs3 : ((nextC 27 s2).getD []).length ≤ 100000 := nx_len 27 hs2
  have T3 := Lib.hid (fun g w h => taketext_any g s2 w h (by omega))
  obtain ⟨v3, ev3⟩ : ∃ x : L, x = txC s2 := ⟨_, rfl⟩
  obtain ⟨s3, es3⟩ : ∃ s, s = nextC 27 s2 := ⟨_, rfl⟩
  rw [← ev3, ← es3] at T3
  rw [← es3] at hs3
  have hs4 : (((intC s3).2).getD []).length ≤ 100000 := it_len hs3
  have T4 := Lib.hid (fun g w h => int_any g s3 w h (by omega))
  obtain ⟨v4, ev4⟩ : ∃ x : Int, x = ((intC s3).1 : Int) := ⟨_, rfl⟩
  obtain ⟨s4, es4⟩ : ∃ s, s = (intC s3).2 := ⟨_, rfl⟩
  rw [← ev4, ← es4] at T4
  rw [← es4] at hs4
  have hs5 : (((intC s4).2).getD []).length ≤ 100000 := it_len hs4
  have T5 := Lib.hid (fun g w h => int_any g s4 w h (by omega))
  obtain ⟨v5, ev5⟩ : ∃ x : Int, x = ((intC s4).1 : Int) := ⟨_, rfl⟩
  obtain ⟨s5, es5⟩ : ∃ s, s = (intC s4).2 := ⟨_, rfl⟩
  rw [← ev5, ← es5] at T5
  rw [← es5] at hs5
  have FV : (ptQ b).1 = ⟨v1, v2, v3, v4, v5⟩ := by rw [ev1, ev2, ev3, ev4, ev5, es4, es3, es2, es1, es0]; rfl
  rw [FV]
  have HBT := built_ptQ v1 v2 v3 v4 v5 hk
  have hcs : (ptC ⟨v1, v2, v3, v4, v5⟩).toArray.size = 37 := pt_size hk
  have hone : (ptC ⟨v1, v2, v3, v4, v5⟩).toArray.all (·.oneCell') = true := one_ptQ v1 v2 v3 v4 v5
  obtain ⟨ks, eks⟩ : ∃ ks, ks = (bvs v2).toArray := ⟨_, rfl⟩
  rw [← eks] at HBT T2
  obtain ⟨cs, ecs⟩ : ∃ cs, cs = (ptC ⟨v1, v2, v3, v4, v5⟩).toArray := ⟨_, rfl⟩
  rw [← ecs] at HBT hcs hone ⊢
  have HBU := Lib.hid HBT
  have HCS := Lib.hid hcs
  have HO := Lib.hid hone
  have HI := Lib.hid (show (Try.prog.info? 50).map (·.size) = some cs.size by rw [hcs]; kernel_rfl)
  clear h hs hk HBT hcs hone eks ecs FV es0 hs0 hs1 hs2 hs3 hs4 hs5 ev1 es1 ev2 es2 ev3 es3 ev4 es4 ev5 es5
  have HWS := Lib.hid hWs
  clear hWs
  go_enter Try.func27, Try.ntmps27
  go_upto_region 1 with fail
  rw [← ezz, ← eW]
  clear ezz eW
  go_wp2_with (first
    | (go_at_call 51; refine Calls.mono c0 ?_; rintro e wo ⟨go, rfl, hgo, hco, hb⟩; clear c0; have HC := Lib.hid hco; have HGO := Lib.hid (show w.heap.size + 1 ≤ go by have := HWS.out; omega); replace HR := Lib.hid (HR.out.below hb); replace HG := Lib.hid (below_then HG.out (by have := HWS.out; omega) hb); have HWO := Lib.hid (show w.heap.size + 1 ≤ wo.heap.size by have := hb.size; have := HWS.out; omega); clear hgo hco hb)
    | (go_at_call 52; refine Calls.mono (c1.out _ _ HC.out) ?_; rintro e wi ⟨⟨gd, rfl, hgd, hd⟩, hc, hg⟩; clear c1 HC; have HD := Lib.hid hd; have HGD := Lib.hid (show w.heap.size + 1 ≤ gd by have := HWO.out; omega); have HDL := Lib.hid (cur_lt hd); replace HR := Lib.hid (HR.out.grown hg (by intro e; injection e with e; have := HGO.out; omega)); replace HG := Lib.hid (below_g HG.out hg (by have := HWO.out; omega) (by have := HGO.out; omega)); clear hgd hd hc hg HWO HGO)
    | (go_at_call 53; (with_reducible refine Calls.mono (T1.out _ _ HD.out) ?_); rintro e w1 ⟨rfl, hd, hg⟩; clear T1; replace HD := Lib.hid hd; replace HR := Lib.hid (HR.out.grown hg (by intro e; injection e with e; have := HGD.out; omega)); replace HG := Lib.hid (below_g HG.out hg (by have := HGD.out; have := HDL.out; omega) (by have := HGD.out; omega)); replace HDL := Lib.hid (Nat.lt_of_lt_of_le HDL.out hg.size); clear hd hg)
    | (go_at_call 54; (with_reducible refine Calls.mono (T2.out _ _ HD.out) ?_); rintro e w2 ⟨rfl, hd, hg⟩; clear T2; replace HD := Lib.hid hd; replace HR := Lib.hid (HR.out.grown hg (by intro e; injection e with e; have := HGD.out; omega)); replace HG := Lib.hid (below_g HG.out hg (by have := HGD.out; have := HDL.out; omega) (by have := HGD.out; omega)); replace HDL := Lib.hid (Nat.lt_of_lt_of_le HDL.out hg.size); clear hd hg)
    | (go_at_call 55; (with_reducible refine Calls.mono (T3.out _ _ HD.out) ?_); rintro e w3 ⟨rfl, hd, hg⟩; clear T3; replace HD := Lib.hid hd; replace HR := Lib.hid (HR.out.grown hg (by intro e; injection e with e; have := HGD.out; omega)); replace HG := Lib.hid (below_g HG.out hg (by have := HGD.out; have := HDL.out; omega) (by have := HGD.out; omega)); replace HDL := Lib.hid (Nat.lt_of_lt_of_le HDL.out hg.size); clear hd hg)
    | (go_at_call 56; (with_reducible refine Calls.mono (T4.out _ _ HD.out) ?_); rintro e w4 ⟨rfl, hd, hg⟩; clear T4; replace HD := Lib.hid hd; replace HR := Lib.hid (HR.out.grown hg (by intro e; injection e with e; have := HGD.out; omega)); replace HG := Lib.hid (below_g HG.out hg (by have := HGD.out; have := HDL.out; omega) (by have := HGD.out; omega)); replace HDL := Lib.hid (Nat.lt_of_lt_of_le HDL.out hg.size); clear hd hg)
    | (go_at_call 56; (with_reducible refine Calls.mono (T5.out _ _ HD.out) ?_); rintro e w5 ⟨rfl, hd, hg⟩; clear T5; replace HD := Lib.hid hd; replace HR := Lib.hid (HR.out.grown hg (by intro e; injection e with e; have := HGD.out; omega)); replace HG := Lib.hid (below_g HG.out hg (by have := HGD.out; have := HDL.out; omega) (by have := HGD.out; omega)); replace HDL := Lib.hid (Nat.lt_of_lt_of_le HDL.out hg.size); clear hd hg)
    | (refine wpList_built (by rfl) 50 #[(0, .tmp 8), (1, .tmp 10), (2, .tmp 12), (3, .tmp 14), (4, .tmp 16)] (by rfl) cs (by simp only [List.map_toArray, List.map_cons, List.map_nil]; exact HBU.out) ?_)
    | (refine wpList_store_mid (by rfl) 50 (.tmp 2) (.tmp 17) (by rfl) w.heap.size 0 cs (by rfl) (by rfl) (there_blk HR.out _ (by have := HZS.out; have := HCS.out; omega)) HI.out HO.out ?_)
    | fail)
  have hE := blk_cells (ds := cs) HR.out (by have := HZS.out; have := HCS.out; omega)
  have hp := put_cells w5 w.heap.size cs.toList
  have hq := load_blk (P := Try.prog) hE Try.underlying50 rfl HI.out
  refine bodyPost_ret (v := .agg cs) ?_ ?_ ?_
  · exact results_cell 2 50 ⟨w.heap.size, 0, none⟩ Try.results27 rfl hq
  · rfl
  exact ⟨rfl, below_g HG.out hp (by have := HR.out.lt; omega) (Nat.le_refl _)⟩
end Go.Proofs.Yteeabfplnaknfaa.Mc
end

section
set_option linter.unusedVariables false
set_option linter.unusedSimpArgs false
namespace Go.Proofs.Yteeabfplnaknfaa.Mc
open Go.RowKit Go.Proofs.Yteeabfplnaknfaa.Mem Go.Proofs.Yteeabfplnaknfaa.DerP Go.Proofs.Yteeabfplnaknfaa.DerC Go.Proofs.Yteeabfplnaknfaa.Ms

theorem stored_new (w : World) (t : TypeId) (lit cs : Array Value) (hs : lit.size = cs.size) : Blk ((w.alloc (.cells lit t)).setCells w.heap.size 0 cs.toList) w.heap.size t cs ∧ Below w.heap.size w ((w.alloc (.cells lit t)).setCells w.heap.size 0 cs.toList) :=
  ⟨blk_cells (Blk.new w t lit) hs, below_g ((Below.refl w.heap.size w).alloc (Nat.le_refl _) _) (put_cells _ _ _) (by simp) (Nat.le_refl _)⟩
theorem prQ_sm {c : Option L} (h : (c.getD []).length ≤ 100000) : pSm (prQ c).1 := by
  have e2 := (body_len 27 (bodyC 48 c)).1
  have e3 := (body_len 27 (bodyC 48 c)).2
  have e4 := (body_len 27 (nextC 27 (bodyC 48 c))).1
  have e5 := (body_len 48 c).1
  exact ⟨by show ((bodyC 27 (bodyC 48 c)).getD []).length ≤ 1000000000; omega, by show ((bodyC 27 (nextC 27 (bodyC 48 c))).getD []).length ≤ 1000000000; omega⟩
theorem txC_sm {c : Option L} (h : (c.getD []).length ≤ 100000) : (txC c).length ≤ 100000 := Nat.le_trans (body_len 27 c).1 h
def ptG (b : L) : Pt := (ptD b).getD pt0
def ptI (b : L) : Int := if (ptD b).isSome then 0 else 2
theorem ptG_key (b : L) : (ptG b).ss.length = 32 := by
  unfold ptG; rw [pt_same]
  split
  · exact ptQ_key b
  · rfl
set_option maxHeartbeats 6400000 in
theorem decode_pt (A : Option Addr) (b : L) (c : Nat) (w : World) (hr : Rd w w.heap.size A (bvs b)) : Calls Try.prog 26 #[.slice A b.length c, .func (.func 27) #[] #[], .func (.func 10) #[] #[]] w fun e w' => e = .returned (.tuple #[.agg (ptC (ptG b)).toArray, .int .i64 (ptI b)]) ∧ Below w.heap.size w w' := by
  obtain ⟨zz, ezz⟩ : ∃ z : Array Value, z = #[.string ⟨#[]⟩, .string ⟨#[]⟩, .int .u8 0, .int .u8 0, .int .u8 0, .int .u8 0, .int .u8 0, .int .u8 0, .int .u8 0, .int .u8 0, .int .u8 0, .int .u8 0, .int .u8 0, .int .u8 0, .int .u8 0, .int .u8 0, .int .u8 0, .int .u8 0, .int .u8 0, .int .u8 0, .int .u8 0, .int .u8 0, .int .u8 0, .int .u8 0, .int .u8 0, .int .u8 0, .int .u8 0, .int .u8 0, .int .u8 0, .int .u8 0, .int .u8 0, .int .u8 0, .int .u8 0, .int .u8 0, .string ⟨#[]⟩, .int .i64 0, .int .i64 0] := ⟨_, rfl⟩
  have ez0 : (ptC pt0).toArray = zz := by rw [ezz]; rfl
  have hzs : zz.size = 37 := by rw [ezz]; simp
  have hzo : zz.all (·.oneCell') = true := by rw [← ez0]; exact one_ptQ _ _ _ _ _
  obtain ⟨W, eW⟩ : ∃ W, W = (w.alloc (.cells zz 50)).alloc (.cells zz 50) := ⟨_, rfl⟩
  have hWs : W.heap.size = w.heap.size + 1 + 1 := by rw [eW]; simp
  have hq := Blk.new (w.alloc (.cells zz 50)) 50 zz
  rw [show (w.alloc (.cells zz 50)).heap.size = w.heap.size + 1 by simp, ← eW] at hq
  have HZ := Lib.hid hq
  clear hq
  have HR := Lib.hid (show Blk W w.heap.size 50 zz by rw [eW]; exact (Blk.new _ _ _).alloc _)
  have HG := Lib.hid (show Below w.heap.size w W by rw [eW]; exact ((Below.refl _ _).alloc (Nat.le_refl _) _).alloc (by simp) _)
  have HRD := Lib.hid (fun w1 (h : Below w.heap.size w w1) => (hr.below h).more h.size)
  have HIZ := Lib.hid (show (Try.prog.info? 50).map (·.size) = some zz.size by rw [hzs]; kernel_rfl)
  have HZO := Lib.hid hzo
  have HZS := Lib.hid hzs
  have ED := Lib.hid (pt_same b)
  have HWS := Lib.hid hWs
  clear hWs hzo hzs
  by_cases hl : b.length ≤ 2000
  · have t1 : decide ((2000 : Int) < (b.length : Int)) = false := decide_eq_false (by omega)
    have hl1 : b.length ≤ 100000 := by omega
    have hb0 := bd_len 99 (show ((some b : Option L).getD []).length ≤ 100000 from hl1)
    have hsm : pSm (ptQ b).1.c := prQ_sm hb0
    have htr : (ptQ b).1.tr.length ≤ 1000000000 := Nat.le_trans (txC_sm (nx_len 4 (nx_len 48 hb0))) (by omega)
    have T1 := Lib.hid (fun w1 (h : Rd w1 w1.heap.size A (bvs b)) => (show Calls Try.prog 27 #[.slice A b.length c] w1 fun e w' => e = .returned (.agg (ptC (ptQ b).1).toArray) ∧ Below w1.heap.size w1 w' from takept_any A b c w1 h hl1))
    have EN := Lib.hid (fun w1 => (show Calls Try.prog 10 #[.agg (ptC (ptQ b).1).toArray] w1 (EncR w1 (ptO (ptQ b).1)) from encpart_any (ptQ b).1 w1 (ptQ_key b) hsm htr))
    have hcs : (ptC (ptQ b).1).toArray.size = 37 := by exact pt_size (ptQ_key b)
    have hco : (ptC (ptQ b).1).toArray.all (·.oneCell') = true := one_ptQ _ _ _ _ _
    have BE := Lib.hid (fun (l : L) (g c2 : Nat) (w1 : World) (h : Rd w1 w1.heap.size (some ⟨g, 0, none⟩) (bvs l)) (hb : Below w.heap.size w w1) => beq_any l b (some ⟨g, 0, none⟩) A c2 c w1.heap.size w1 h (HRD.out w1 hb))
    obtain ⟨cs, ecs⟩ : ∃ cs, cs = (ptC (ptQ b).1).toArray := ⟨_, rfl⟩
    rw [← ecs] at T1 EN hcs hco
    have HCI := Lib.hid (show (Try.prog.info? 50).map (·.size) = some cs.size by rw [hcs]; kernel_rfl)
    have HCO := Lib.hid hco
    have HCS := Lib.hid hcs
    clear hcs hco hl hl1 hr hsm htr hb0
    cases ho : ptO (ptQ b).1 with
    | none =>
      rw [ho] at EN
      have hD : ptD b = none := by rw [ED.out, ho]; rfl
      have GE := Lib.hid (show (ptC (ptG b)).toArray = zz by rw [ptG, hD]; exact ez0)
      have IE := Lib.hid (show ptI b = 2 by rw [ptI, hD]; rfl)
      clear ED ho hD ecs ez0 BE
      go_enter Try.func26, Try.ntmps26
      go_upto_region 2 with fail
      rw [← ezz, ← eW]
      clear ezz eW
      go_wp2_with (first
        | (refine load_cells (by rfl) 50 (.tmp 8) (by rfl) (w.heap.size + 1) 0 (by rfl) zz _ (range_blk HZ.out) Try.underlying50 (by rfl) HIZ.out ?_)
        | (refine wpList_store_mid (by rfl) 50 (.tmp 6) (.tmp 33) (by rfl) w.heap.size 0 zz (by rfl) (by rfl) (there_blk HR.out _ (Nat.le_refl _)) HIZ.out HZO.out ?_)
        | (go_at_call 27; refine Calls.mono (T1.out _ (HRD.out _ HG.out)) ?_; rintro e w4 ⟨rfl, hb⟩; clear T1; replace HZ := Lib.hid (HZ.out.below hb); replace HR := Lib.hid (HR.out.below hb); replace HG := Lib.hid (HG.out.trans (hb.mono HG.out.size)); clear hb)
        | (refine wpList_store_mid (by rfl) 50 (.tmp 9) (.tmp 18) (by rfl) w4.heap.size 0 cs (by rfl) (by rfl) (there_blk (Blk.new w4 50 #[.string ⟨#[]⟩, .string ⟨#[]⟩, .int .u8 0, .int .u8 0, .int .u8 0, .int .u8 0, .int .u8 0, .int .u8 0, .int .u8 0, .int .u8 0, .int .u8 0, .int .u8 0, .int .u8 0, .int .u8 0, .int .u8 0, .int .u8 0, .int .u8 0, .int .u8 0, .int .u8 0, .int .u8 0, .int .u8 0, .int .u8 0, .int .u8 0, .int .u8 0, .int .u8 0, .int .u8 0, .int .u8 0, .int .u8 0, .int .u8 0, .int .u8 0, .int .u8 0, .int .u8 0, .int .u8 0, .int .u8 0, .string ⟨#[]⟩, .int .i64 0, .int .i64 0]) _ (by have := HCS.out; simp; omega)) HCI.out HCO.out ?_; have hV := stored_new w4 50 #[.string ⟨#[]⟩, .string ⟨#[]⟩, .int .u8 0, .int .u8 0, .int .u8 0, .int .u8 0, .int .u8 0, .int .u8 0, .int .u8 0, .int .u8 0, .int .u8 0, .int .u8 0, .int .u8 0, .int .u8 0, .int .u8 0, .int .u8 0, .int .u8 0, .int .u8 0, .int .u8 0, .int .u8 0, .int .u8 0, .int .u8 0, .int .u8 0, .int .u8 0, .int .u8 0, .int .u8 0, .int .u8 0, .int .u8 0, .int .u8 0, .int .u8 0, .int .u8 0, .int .u8 0, .int .u8 0, .int .u8 0, .string ⟨#[]⟩, .int .i64 0, .int .i64 0] cs (by have := HCS.out; simp; omega); generalize ((w4.alloc (.cells #[.string ⟨#[]⟩, .string ⟨#[]⟩, .int .u8 0, .int .u8 0, .int .u8 0, .int .u8 0, .int .u8 0, .int .u8 0, .int .u8 0, .int .u8 0, .int .u8 0, .int .u8 0, .int .u8 0, .int .u8 0, .int .u8 0, .int .u8 0, .int .u8 0, .int .u8 0, .int .u8 0, .int .u8 0, .int .u8 0, .int .u8 0, .int .u8 0, .int .u8 0, .int .u8 0, .int .u8 0, .int .u8 0, .int .u8 0, .int .u8 0, .int .u8 0, .int .u8 0, .int .u8 0, .int .u8 0, .int .u8 0, .string ⟨#[]⟩, .int .i64 0, .int .i64 0] 50)).setCells w4.heap.size 0 cs.toList) = V at hV ⊢; have HX := Lib.hid hV.1; replace HZ := Lib.hid (HZ.out.below hV.2); replace HR := Lib.hid (HR.out.below hV.2); replace HG := Lib.hid (HG.out.trans (hV.2.mono HG.out.size)); clear hV)
        | (refine load_cells (by rfl) 50 (.tmp 9) (by rfl) w4.heap.size 0 (by rfl) cs _ (range_blk HX.out) Try.underlying50 (by rfl) HCI.out ?_)
        | (go_at_call 10; refine Calls.mono (EN.out _) ?_; rintro e we ⟨⟨v, i, rfl, hn, hsm⟩, hb⟩; obtain ⟨rfl, rfl⟩ := hn rfl; clear EN; replace HX := Lib.hid (HX.out.below hb); replace HZ := Lib.hid (HZ.out.below hb); replace HR := Lib.hid (HR.out.below hb); replace HG := Lib.hid (HG.out.trans (hb.mono HG.out.size)); clear hb hn hsm)
        | fail)
      have hE := blk_cells (ds := zz) HR.out (by rfl)
      have hp := put_cells we w.heap.size zz.toList
      have hq := load_blk (P := Try.prog) hE Try.underlying50 rfl HIZ.out
      refine bodyPost_ret (v := .tuple #[.agg zz, .int .i64 2]) ?_ ?_ ?_
      · exact results_pair (v := .agg zz) 6 7 50 ⟨w.heap.size, 0, none⟩ Try.results26 rfl hq rfl
      · rfl
      exact ⟨by rw [GE.out, IE.out], below_g HG.out hp (by have := HR.out.lt; omega) (Nat.le_refl _)⟩
    | some l =>
      rw [ho] at EN
      by_cases hlb : l = b
      · have BF := Lib.hid (decide_eq_true hlb)
        have hD : ptD b = some (ptQ b).1 := by rw [ED.out, ho, if_pos (by rw [hlb])]
        have GE := Lib.hid (show (ptC (ptG b)).toArray = cs by rw [ptG, hD]; exact ecs.symm)
        have IE := Lib.hid (show ptI b = 0 by rw [ptI, hD]; rfl)
        clear ED ho hlb hD ecs ez0
        go_enter Try.func26, Try.ntmps26
        go_upto_region 2 with fail
        rw [← ezz, ← eW]
        clear ezz eW
        go_wp2_with (first
          | (refine load_cells (by rfl) 50 (.tmp 8) (by rfl) (w.heap.size + 1) 0 (by rfl) zz _ (range_blk HZ.out) Try.underlying50 (by rfl) HIZ.out ?_)
          | (refine wpList_store_mid (by rfl) 50 (.tmp 6) (.tmp 34) (by rfl) w.heap.size 0 cs (by rfl) (by rfl) (there_blk HR.out _ (by have := HZS.out; have := HCS.out; omega)) HCI.out HCO.out ?_)
          | (go_at_call 27; refine Calls.mono (T1.out _ (HRD.out _ HG.out)) ?_; rintro e w4 ⟨rfl, hb⟩; clear T1; replace HZ := Lib.hid (HZ.out.below hb); replace HR := Lib.hid (HR.out.below hb); replace HG := Lib.hid (HG.out.trans (hb.mono HG.out.size)); clear hb)
          | (refine wpList_store_mid (by rfl) 50 (.tmp 9) (.tmp 18) (by rfl) w4.heap.size 0 cs (by rfl) (by rfl) (there_blk (Blk.new w4 50 #[.string ⟨#[]⟩, .string ⟨#[]⟩, .int .u8 0, .int .u8 0, .int .u8 0, .int .u8 0, .int .u8 0, .int .u8 0, .int .u8 0, .int .u8 0, .int .u8 0, .int .u8 0, .int .u8 0, .int .u8 0, .int .u8 0, .int .u8 0, .int .u8 0, .int .u8 0, .int .u8 0, .int .u8 0, .int .u8 0, .int .u8 0, .int .u8 0, .int .u8 0, .int .u8 0, .int .u8 0, .int .u8 0, .int .u8 0, .int .u8 0, .int .u8 0, .int .u8 0, .int .u8 0, .int .u8 0, .int .u8 0, .string ⟨#[]⟩, .int .i64 0, .int .i64 0]) _ (by have := HCS.out; simp; omega)) HCI.out HCO.out ?_; have hV := stored_new w4 50 #[.string ⟨#[]⟩, .string ⟨#[]⟩, .int .u8 0, .int .u8 0, .int .u8 0, .int .u8 0, .int .u8 0, .int .u8 0, .int .u8 0, .int .u8 0, .int .u8 0, .int .u8 0, .int .u8 0, .int .u8 0, .int .u8 0, .int .u8 0, .int .u8 0, .int .u8 0, .int .u8 0, .int .u8 0, .int .u8 0, .int .u8 0, .int .u8 0, .int .u8 0, .int .u8 0, .int .u8 0, .int .u8 0, .int .u8 0, .int .u8 0, .int .u8 0, .int .u8 0, .int .u8 0, .int .u8 0, .int .u8 0, .string ⟨#[]⟩, .int .i64 0, .int .i64 0] cs (by have := HCS.out; simp; omega); generalize ((w4.alloc (.cells #[.string ⟨#[]⟩, .string ⟨#[]⟩, .int .u8 0, .int .u8 0, .int .u8 0, .int .u8 0, .int .u8 0, .int .u8 0, .int .u8 0, .int .u8 0, .int .u8 0, .int .u8 0, .int .u8 0, .int .u8 0, .int .u8 0, .int .u8 0, .int .u8 0, .int .u8 0, .int .u8 0, .int .u8 0, .int .u8 0, .int .u8 0, .int .u8 0, .int .u8 0, .int .u8 0, .int .u8 0, .int .u8 0, .int .u8 0, .int .u8 0, .int .u8 0, .int .u8 0, .int .u8 0, .int .u8 0, .int .u8 0, .string ⟨#[]⟩, .int .i64 0, .int .i64 0] 50)).setCells w4.heap.size 0 cs.toList) = V at hV ⊢; have HX := Lib.hid hV.1; replace HZ := Lib.hid (HZ.out.below hV.2); replace HR := Lib.hid (HR.out.below hV.2); replace HG := Lib.hid (HG.out.trans (hV.2.mono HG.out.size)); clear hV)
          | (refine load_cells (by rfl) 50 (.tmp 9) (by rfl) w4.heap.size 0 (by rfl) cs _ (range_blk HX.out) Try.underlying50 (by rfl) HCI.out ?_)
          | (go_at_call 10; refine Calls.mono (EN.out _) ?_; rintro e we ⟨⟨v, i, rfl, hn, hsm⟩, hb⟩; obtain ⟨rfl, gx, cx, rfl, hgx, hcx, hrx⟩ := hsm l rfl; have HRX := Lib.hid hrx; clear hgx hcx hrx; clear EN; replace HX := Lib.hid (HX.out.below hb); replace HZ := Lib.hid (HZ.out.below hb); replace HR := Lib.hid (HR.out.below hb); replace HG := Lib.hid (HG.out.trans (hb.mono HG.out.size)); clear hb hn hsm)
          | (go_at_call 50; refine Calls.mono (BE.out l gx cx _ HRX.out HG.out) ?_; rw [BF.out]; rintro e wb ⟨rfl, hw⟩; subst hw; clear BE)
          | fail)
        have hE := blk_cells (ds := cs) HR.out (by have := HZS.out; have := HCS.out; omega)
        have hp := put_cells we w.heap.size cs.toList
        have hq := load_blk (P := Try.prog) hE Try.underlying50 rfl HCI.out
        refine bodyPost_ret (v := .tuple #[.agg cs, .int .i64 0]) ?_ ?_ ?_
        · exact results_pair (v := .agg cs) 6 7 50 ⟨w.heap.size, 0, none⟩ Try.results26 rfl hq rfl
        · rfl
        exact ⟨by rw [GE.out, IE.out], below_g HG.out hp (by have := HR.out.lt; omega) (Nat.le_refl _)⟩
      · have BF := Lib.hid (decide_eq_false hlb)
        have hD : ptD b = none := by rw [ED.out, ho, if_neg (fun h => hlb (Option.some.inj h))]
        have GE := Lib.hid (show (ptC (ptG b)).toArray = zz by rw [ptG, hD]; exact ez0)
        have IE := Lib.hid (show ptI b = 2 by rw [ptI, hD]; rfl)
        clear ED ho hlb hD ecs ez0
        go_enter Try.func26, Try.ntmps26
        go_upto_region 2 with fail
        rw [← ezz, ← eW]
        clear ezz eW
        go_wp2_with (first
          | (refine load_cells (by rfl) 50 (.tmp 8) (by rfl) (w.heap.size + 1) 0 (by rfl) zz _ (range_blk HZ.out) Try.underlying50 (by rfl) HIZ.out ?_)
          | (refine wpList_store_mid (by rfl) 50 (.tmp 6) (.tmp 33) (by rfl) w.heap.size 0 zz (by rfl) (by rfl) (there_blk HR.out _ (Nat.le_refl _)) HIZ.out HZO.out ?_)
          | (go_at_call 27; refine Calls.mono (T1.out _ (HRD.out _ HG.out)) ?_; rintro e w4 ⟨rfl, hb⟩; clear T1; replace HZ := Lib.hid (HZ.out.below hb); replace HR := Lib.hid (HR.out.below hb); replace HG := Lib.hid (HG.out.trans (hb.mono HG.out.size)); clear hb)
          | (refine wpList_store_mid (by rfl) 50 (.tmp 9) (.tmp 18) (by rfl) w4.heap.size 0 cs (by rfl) (by rfl) (there_blk (Blk.new w4 50 #[.string ⟨#[]⟩, .string ⟨#[]⟩, .int .u8 0, .int .u8 0, .int .u8 0, .int .u8 0, .int .u8 0, .int .u8 0, .int .u8 0, .int .u8 0, .int .u8 0, .int .u8 0, .int .u8 0, .int .u8 0, .int .u8 0, .int .u8 0, .int .u8 0, .int .u8 0, .int .u8 0, .int .u8 0, .int .u8 0, .int .u8 0, .int .u8 0, .int .u8 0, .int .u8 0, .int .u8 0, .int .u8 0, .int .u8 0, .int .u8 0, .int .u8 0, .int .u8 0, .int .u8 0, .int .u8 0, .int .u8 0, .string ⟨#[]⟩, .int .i64 0, .int .i64 0]) _ (by have := HCS.out; simp; omega)) HCI.out HCO.out ?_; have hV := stored_new w4 50 #[.string ⟨#[]⟩, .string ⟨#[]⟩, .int .u8 0, .int .u8 0, .int .u8 0, .int .u8 0, .int .u8 0, .int .u8 0, .int .u8 0, .int .u8 0, .int .u8 0, .int .u8 0, .int .u8 0, .int .u8 0, .int .u8 0, .int .u8 0, .int .u8 0, .int .u8 0, .int .u8 0, .int .u8 0, .int .u8 0, .int .u8 0, .int .u8 0, .int .u8 0, .int .u8 0, .int .u8 0, .int .u8 0, .int .u8 0, .int .u8 0, .int .u8 0, .int .u8 0, .int .u8 0, .int .u8 0, .int .u8 0, .string ⟨#[]⟩, .int .i64 0, .int .i64 0] cs (by have := HCS.out; simp; omega); generalize ((w4.alloc (.cells #[.string ⟨#[]⟩, .string ⟨#[]⟩, .int .u8 0, .int .u8 0, .int .u8 0, .int .u8 0, .int .u8 0, .int .u8 0, .int .u8 0, .int .u8 0, .int .u8 0, .int .u8 0, .int .u8 0, .int .u8 0, .int .u8 0, .int .u8 0, .int .u8 0, .int .u8 0, .int .u8 0, .int .u8 0, .int .u8 0, .int .u8 0, .int .u8 0, .int .u8 0, .int .u8 0, .int .u8 0, .int .u8 0, .int .u8 0, .int .u8 0, .int .u8 0, .int .u8 0, .int .u8 0, .int .u8 0, .int .u8 0, .string ⟨#[]⟩, .int .i64 0, .int .i64 0] 50)).setCells w4.heap.size 0 cs.toList) = V at hV ⊢; have HX := Lib.hid hV.1; replace HZ := Lib.hid (HZ.out.below hV.2); replace HR := Lib.hid (HR.out.below hV.2); replace HG := Lib.hid (HG.out.trans (hV.2.mono HG.out.size)); clear hV)
          | (refine load_cells (by rfl) 50 (.tmp 9) (by rfl) w4.heap.size 0 (by rfl) cs _ (range_blk HX.out) Try.underlying50 (by rfl) HCI.out ?_)
          | (go_at_call 10; refine Calls.mono (EN.out _) ?_; rintro e we ⟨⟨v, i, rfl, hn, hsm⟩, hb⟩; obtain ⟨rfl, gx, cx, rfl, hgx, hcx, hrx⟩ := hsm l rfl; have HRX := Lib.hid hrx; clear hgx hcx hrx; clear EN; replace HX := Lib.hid (HX.out.below hb); replace HZ := Lib.hid (HZ.out.below hb); replace HR := Lib.hid (HR.out.below hb); replace HG := Lib.hid (HG.out.trans (hb.mono HG.out.size)); clear hb hn hsm)
          | (go_at_call 50; refine Calls.mono (BE.out l gx cx _ HRX.out HG.out) ?_; rw [BF.out]; rintro e wb ⟨rfl, hw⟩; subst hw; clear BE)
          | fail)
        have hE := blk_cells (ds := zz) HR.out (by rfl)
        have hp := put_cells we w.heap.size zz.toList
        have hq := load_blk (P := Try.prog) hE Try.underlying50 rfl HIZ.out
        refine bodyPost_ret (v := .tuple #[.agg zz, .int .i64 2]) ?_ ?_ ?_
        · exact results_pair (v := .agg zz) 6 7 50 ⟨w.heap.size, 0, none⟩ Try.results26 rfl hq rfl
        · rfl
        exact ⟨by rw [GE.out, IE.out], below_g HG.out hp (by have := HR.out.lt; omega) (Nat.le_refl _)⟩
  · have t1 : decide ((2000 : Int) < (b.length : Int)) = true := decide_eq_true (by omega)
    have hD : ptD b = none := by
      rw [ED.out, if_neg]
      intro h; have h2 := lim_iff.1 h; exact hl (by rw [← h2.2.2]; exact h2.2.1)
    have GE := Lib.hid (show (ptC (ptG b)).toArray = zz by rw [ptG, hD]; exact ez0)
    have IE := Lib.hid (show ptI b = 2 by rw [ptI, hD]; rfl)
    clear ED hD hl ez0 hr HRD
    go_enter Try.func26, Try.ntmps26
    go_upto_region 2 with fail
    rw [← ezz, ← eW]
    clear ezz eW
    go_wp2_with (first
      | (refine load_cells (by rfl) 50 (.tmp 8) (by rfl) (w.heap.size + 1) 0 (by rfl) zz _ (range_blk HZ.out) Try.underlying50 (by rfl) HIZ.out ?_)
      | (refine wpList_store_mid (by rfl) 50 (.tmp 6) (.tmp 15) (by rfl) w.heap.size 0 zz (by rfl) (by rfl) (there_blk HR.out _ (Nat.le_refl _)) HIZ.out HZO.out ?_)
      | fail)
    have hE := blk_cells (ds := zz) HR.out (by rfl)
    have hp := put_cells W w.heap.size zz.toList
    have hq := load_blk (P := Try.prog) hE Try.underlying50 rfl HIZ.out
    refine bodyPost_ret (v := .tuple #[.agg zz, .int .i64 2]) ?_ ?_ ?_
    · exact results_pair (v := .agg zz) 6 7 50 ⟨w.heap.size, 0, none⟩ Try.results26 rfl hq rfl
    · rfl
    exact ⟨by rw [GE.out, IE.out], below_g HG.out hp (by have := HR.out.lt; omega) (Nat.le_refl _)⟩
set_option maxHeartbeats 3200000 in
theorem decpart_any (A : Option Addr) (b : L) (c : Nat) (w : World) (hr : Rd w w.heap.size A (bvs b)) : Calls Try.prog 11 #[.slice A b.length c] w fun e w' => e = .returned (.tuple #[.agg (ptC (ptG b)).toArray, .int .i64 (ptI b)]) ∧ Below w.heap.size w w' := by
  obtain ⟨zz, ezz⟩ : ∃ z : Array Value, z = #[.string ⟨#[]⟩, .string ⟨#[]⟩, .int .u8 0, .int .u8 0, .int .u8 0, .int .u8 0, .int .u8 0, .int .u8 0, .int .u8 0, .int .u8 0, .int .u8 0, .int .u8 0, .int .u8 0, .int .u8 0, .int .u8 0, .int .u8 0, .int .u8 0, .int .u8 0, .int .u8 0, .int .u8 0, .int .u8 0, .int .u8 0, .int .u8 0, .int .u8 0, .int .u8 0, .int .u8 0, .int .u8 0, .int .u8 0, .int .u8 0, .int .u8 0, .int .u8 0, .int .u8 0, .int .u8 0, .int .u8 0, .string ⟨#[]⟩, .int .i64 0, .int .i64 0] := ⟨_, rfl⟩
  have hzs : zz.size = 37 := by rw [ezz]; simp
  have hgs : (ptC (ptG b)).toArray.size = 37 := by exact pt_size (ptG_key b)
  have hgo : (ptC (ptG b)).toArray.all (·.oneCell') = true := one_ptQ _ _ _ _ _
  have c1 := decode_pt A b c (w.alloc (.cells zz 50)) ((hr.alloc (Nat.le_refl _) _).more (by simp))
  obtain ⟨cs, ecs⟩ : ∃ cs, cs = (ptC (ptG b)).toArray := ⟨_, rfl⟩
  rw [← ecs] at hgs hgo c1 ⊢
  have HI := Lib.hid (show (Try.prog.info? 50).map (·.size) = some cs.size by rw [hgs]; kernel_rfl)
  have HO := Lib.hid hgo
  have HCS := Lib.hid hgs
  have HZS := Lib.hid hzs
  have HR := Lib.hid (Blk.new w 50 zz)
  have HG := Lib.hid ((Below.refl w.heap.size w).alloc (Nat.le_refl _) (.cells zz 50))
  clear hgs hgo hzs ecs hr
  go_enter Try.func11, Try.ntmps11
  go_upto_region 1 with fail
  rw [← ezz]
  clear ezz
  go_wp2_with (first
    | (go_at_call 26; refine Calls.mono c1 ?_; rintro e w1 ⟨rfl, hb⟩; clear c1; replace HR := Lib.hid (HR.out.below hb); replace HG := Lib.hid (HG.out.trans (hb.mono HG.out.size)); clear hb)
    | (refine wpList_store_mid (by rfl) 50 (.tmp 2) (.tmp 6) (by rfl) w.heap.size 0 cs (by rfl) (by rfl) (there_blk HR.out _ (by have := HZS.out; have := HCS.out; omega)) HI.out HO.out ?_)
    | fail)
  have hE := blk_cells (ds := cs) HR.out (by have := HZS.out; have := HCS.out; omega)
  have hp := put_cells w1 w.heap.size cs.toList
  have hq := load_blk (P := Try.prog) hE Try.underlying50 rfl HI.out
  refine bodyPost_ret (v := .tuple #[.agg cs, .int .i64 (ptI b)]) ?_ ?_ ?_
  · exact results_pair (v := .agg cs) 2 3 50 ⟨w.heap.size, 0, none⟩ Try.results11 rfl hq rfl
  · rfl
  exact ⟨rfl, below_g HG.out hp (by have := HR.out.lt; omega) (Nat.le_refl _)⟩
end Go.Proofs.Yteeabfplnaknfaa.Mc
end

section
set_option linter.unusedVariables false
set_option linter.unusedSimpArgs false
namespace Go.Proofs.Yteeabfplnaknfaa.Mc
open Go.RowKit Go.Proofs.Yteeabfplnaknfaa.Mem Go.Proofs.Yteeabfplnaknfaa.DerP Go.Proofs.Yteeabfplnaknfaa.Ms

theorem eql_fa (x y : Fa) (w : World) : (Op.equalIn 10000 37 (.agg #[.int .i64 x.e, .int .i64 x.no]) (.agg #[.int .i64 y.e, .int .i64 y.no])).run Try.prog w = .ok (decide (x = y)) w := by
  obtain ⟨e, no⟩ := x
  obtain ⟨e2, no2⟩ := y
  simp only
  by_cases h0 : e = e2
  · subst h0
    by_cases h1 : no = no2
    · subst h1
      rw [decide_eq_true rfl]
      go_simp
    · rw [decide_eq_false (fun h => h1 (congrArg (fun z => z.no) h))]
      go_simp
  · rw [decide_eq_false (fun h => h0 (congrArg (fun z => z.e) h))]
    go_simp
theorem eql_as (x y : As) (w : World) : (Op.equalIn 10000 25 (.agg #[.string ⟨x.c.1.toArray⟩, .string ⟨x.c.2.toArray⟩, .string ⟨x.s.1.toArray⟩, .string ⟨x.s.2.toArray⟩, .int .i64 x.t, .int .i64 x.no]) (.agg #[.string ⟨y.c.1.toArray⟩, .string ⟨y.c.2.toArray⟩, .string ⟨y.s.1.toArray⟩, .string ⟨y.s.2.toArray⟩, .int .i64 y.t, .int .i64 y.no])).run Try.prog w = .ok (decide (x = y)) w := by
  obtain ⟨⟨a, b⟩, ⟨c, d⟩, t, no⟩ := x
  obtain ⟨⟨a2, b2⟩, ⟨c2, d2⟩, t2, no2⟩ := y
  simp only
  by_cases h0 : a = a2
  · subst h0
    by_cases h1 : b = b2
    · subst h1
      by_cases h2 : c = c2
      · subst h2
        by_cases h3 : d = d2
        · subst h3
          by_cases h4 : t = t2
          · subst h4
            by_cases h5 : no = no2
            · subst h5
              rw [decide_eq_true rfl]
              go_simp
            · rw [decide_eq_false (fun h => h5 (congrArg (fun z => z.no) h))]
              go_simp
          · rw [decide_eq_false (fun h => h4 (congrArg (fun z => z.t) h))]
            go_simp
        · rw [decide_eq_false (fun h => h3 (congrArg (fun z => z.s.2) h))]
          go_simp
      · rw [decide_eq_false (fun h => h2 (congrArg (fun z => z.s.1) h))]
        go_simp
    · rw [decide_eq_false (fun h => h1 (congrArg (fun z => z.c.2) h))]
      go_simp
  · rw [decide_eq_false (fun h => h0 (congrArg (fun z => z.c.1) h))]
    go_simp
end Go.Proofs.Yteeabfplnaknfaa.Mc
end

section
set_option linter.unusedVariables false
set_option linter.unusedSimpArgs false
namespace Go.Proofs.Yteeabfplnaknfaa.Mc
open Go.RowKit Go.Proofs.Yteeabfplnaknfaa.Mem Go.Proofs.Yteeabfplnaknfaa.DerP Go.Proofs.Yteeabfplnaknfaa.DerC Go.Proofs.Yteeabfplnaknfaa.Ms

def AsV (cs : Array Value) (q : As) : Prop := cs = (asC q).toArray
def FaV (cs : Array Value) (q : Fa) : Prop := cs = (faC q).toArray
def TgV (w : World) (B : Nat) (cs : Array Value) (q : Tg) : Prop := ∃ b a, cs = (tgC q b a).toArray ∧ SlB w B b q.t.b ∧ SlB w B a q.a
def ReV (w : World) (B : Nat) (cs : Array Value) (q : Re) : Prop := ∃ b a, cs = (reC q b a).toArray ∧ SlB w B b q.t.b ∧ SlB w B a q.b
def ApV (w : World) (B : Nat) (cs : Array Value) (q : Ap) : Prop := ∃ b a, cs = (apC q b a).toArray ∧ SlB w B b q.t.b ∧ SlB w B a q.a
section
variable {w w' : World} {B B' : Nat} {cs : Array Value}
theorem TgV.keep {q : Tg} (h : TgV w B cs q) (hb : Below B w w') : TgV w' B cs q := by obtain ⟨b, a, h1, h2, h3⟩ := h; exact ⟨b, a, h1, h2.keep hb, h3.keep hb⟩
theorem ReV.keep {q : Re} (h : ReV w B cs q) (hb : Below B w w') : ReV w' B cs q := by obtain ⟨b, a, h1, h2, h3⟩ := h; exact ⟨b, a, h1, h2.keep hb, h3.keep hb⟩
theorem ApV.keep {q : Ap} (h : ApV w B cs q) (hb : Below B w w') : ApV w' B cs q := by obtain ⟨b, a, h1, h2, h3⟩ := h; exact ⟨b, a, h1, h2.keep hb, h3.keep hb⟩
theorem TgV.more {q : Tg} (h : TgV w B cs q) (hB : B ≤ B') : TgV w B' cs q := by obtain ⟨b, a, h1, h2, h3⟩ := h; exact ⟨b, a, h1, h2.more hB, h3.more hB⟩
theorem ReV.more {q : Re} (h : ReV w B cs q) (hB : B ≤ B') : ReV w B' cs q := by obtain ⟨b, a, h1, h2, h3⟩ := h; exact ⟨b, a, h1, h2.more hB, h3.more hB⟩
theorem ApV.more {q : Ap} (h : ApV w B cs q) (hB : B ≤ B') : ApV w B' cs q := by obtain ⟨b, a, h1, h2, h3⟩ := h; exact ⟨b, a, h1, h2.more hB, h3.more hB⟩
theorem slb_one {v : Value} {l : L} (h : SlB w B v l) : v.oneCell' = true := by obtain ⟨A, c, rfl, _⟩ := h; rfl
theorem AsV.size {q : As} (h : AsV cs q) : cs.size = 6 := by rw [h]; rfl
theorem FaV.size {q : Fa} (h : FaV cs q) : cs.size = 2 := by rw [h]; rfl
theorem TgV.size {q : Tg} (h : TgV w B cs q) : cs.size = 9 := by obtain ⟨b, a, h1, _⟩ := h; rw [h1]; rfl
theorem ReV.size {q : Re} (h : ReV w B cs q) : cs.size = 7 := by obtain ⟨b, a, h1, _⟩ := h; rw [h1]; rfl
theorem ApV.size {q : Ap} (h : ApV w B cs q) : cs.size = 5 := by obtain ⟨b, a, h1, _⟩ := h; rw [h1]; rfl
def One (cs : Array Value) : Prop := cs.all (·.oneCell') = true
theorem AsV.one {q : As} (h : AsV cs q) : One cs := by
  rw [h]; refine all_oneCell_toArray fun v hv => ?_
  simp only [asC, List.mem_cons, List.not_mem_nil, or_false] at hv
  rcases hv with rfl | rfl | rfl | rfl | rfl | rfl <;> rfl
theorem FaV.one {q : Fa} (h : FaV cs q) : One cs := by
  rw [h]; refine all_oneCell_toArray fun v hv => ?_
  simp only [faC, List.mem_cons, List.not_mem_nil, or_false] at hv
  rcases hv with rfl | rfl <;> rfl
theorem TgV.one {q : Tg} (h : TgV w B cs q) : One cs := by
  obtain ⟨b, a, h1, h2, h3⟩ := h
  rw [h1]; refine all_oneCell_toArray fun v hv => ?_
  simp only [tgC, tkC, List.mem_append, List.mem_cons, List.not_mem_nil, or_false] at hv
  rcases hv with (rfl | rfl | rfl | rfl) | rfl | rfl | rfl | rfl | rfl
  all_goals first | rfl | exact slb_one h2 | exact slb_one h3
theorem ReV.one {q : Re} (h : ReV w B cs q) : One cs := by
  obtain ⟨b, a, h1, h2, h3⟩ := h
  rw [h1]; refine all_oneCell_toArray fun v hv => ?_
  simp only [reC, prC, tkC, List.mem_append, List.mem_cons, List.not_mem_nil, or_false] at hv
  rcases hv with (rfl | rfl) | (rfl | rfl | rfl | rfl) | rfl
  all_goals first | rfl | exact slb_one h2 | exact slb_one h3
theorem ApV.one {q : Ap} (h : ApV w B cs q) : One cs := by
  obtain ⟨b, a, h1, h2, h3⟩ := h
  rw [h1]; refine all_oneCell_toArray fun v hv => ?_
  simp only [apC, tkC, List.mem_append, List.mem_cons, List.not_mem_nil, or_false] at hv
  rcases hv with (rfl | rfl | rfl | rfl) | rfl
  all_goals first | rfl | exact slb_one h2 | exact slb_one h3
end

def mgA (k : Int) (pa pt pr pp pf : Array Value) : Array Value := (Value.int .i64 k :: (pa.toList ++ (pt.toList ++ (pr.toList ++ (pp.toList ++ pf.toList))))).toArray
structure MgP (w : World) (B : Nat) (pa pt pr pp pf : Array Value) (m : Mg) : Prop where
  a : AsV pa m.aq
  t : TgV w B pt m.tg
  r : ReV w B pr m.re
  p : ApV w B pp m.ap
  f : FaV pf m.fa
def MgV (w : World) (B : Nat) (cs : Array Value) (m : Mg) : Prop := ∃ pa pt pr pp pf, cs = mgA m.k pa pt pr pp pf ∧ MgP w B pa pt pr pp pf m
section
variable {w w' : World} {B B' : Nat} {cs pa pt pr pp pf : Array Value} {m : Mg}
theorem MgP.keep (h : MgP w B pa pt pr pp pf m) (hb : Below B w w') : MgP w' B pa pt pr pp pf m := ⟨h.a, h.t.keep hb, h.r.keep hb, h.p.keep hb, h.f⟩
theorem MgP.more (h : MgP w B pa pt pr pp pf m) (hB : B ≤ B') : MgP w B' pa pt pr pp pf m := ⟨h.a, h.t.more hB, h.r.more hB, h.p.more hB, h.f⟩
theorem MgV.keep (h : MgV w B cs m) (hb : Below B w w') : MgV w' B cs m := by obtain ⟨pa, pt, pr, pp, pf, h1, h2⟩ := h; exact ⟨pa, pt, pr, pp, pf, h1, h2.keep hb⟩
theorem MgV.more (h : MgV w B cs m) (hB : B ≤ B') : MgV w B' cs m := by obtain ⟨pa, pt, pr, pp, pf, h1, h2⟩ := h; exact ⟨pa, pt, pr, pp, pf, h1, h2.more hB⟩
theorem MgP.sizes (h : MgP w B pa pt pr pp pf m) : pa.size = 6 ∧ pt.size = 9 ∧ pr.size = 7 ∧ pp.size = 5 ∧ pf.size = 2 := ⟨h.a.size, h.t.size, h.r.size, h.p.size, h.f.size⟩
theorem MgP.size (h : MgP w B pa pt pr pp pf m) (k : Int) : (mgA k pa pt pr pp pf).size = 30 := by
  obtain ⟨h1, h2, h3, h4, h5⟩ := h.sizes
  simp [mgA, h1, h2, h3, h4, h5]
theorem MgP.one (h : MgP w B pa pt pr pp pf m) (k : Int) : One (mgA k pa pt pr pp pf) := by
  refine all_oneCell_toArray fun v hv => ?_
  simp only [List.mem_cons, List.mem_append] at hv
  have key : ∀ {cs : Array Value}, One cs → v ∈ cs.toList → v.oneCell' = true := fun h1 h2 => Array.all_eq_true_iff_forall_mem.1 h1 v (by simpa using h2)
  rcases hv with rfl | hv | hv | hv | hv | hv
  · rfl
  · exact key h.a.one hv
  · exact key h.t.one hv
  · exact key h.r.one hv
  · exact key h.p.one hv
  · exact key h.f.one hv
theorem range_at {g : Nat} {t : TypeId} {pre mid post : List Value} (h : Blk w g t cs) (hc : cs.toList = pre ++ (mid ++ post)) (o : Nat) (ho : o = pre.length) : w.rangeAt g o mid := fun j v hv => by
  subst ho
  have hj : j < mid.length := (List.getElem?_eq_some_iff.1 hv).1
  rw [h.cell, ← Array.getElem?_toList, hc, List.getElem?_append_right (by omega), Nat.add_sub_cancel_left, List.getElem?_append_left hj]
  exact hv
structure At (w : World) (g : Nat) (k : Int) (pa pt pr pp pf : Array Value) : Prop where
  k : w.cell? ⟨g, 0, none⟩ = some (.int .i64 k)
  a : w.rangeAt g 1 pa.toList
  t : w.rangeAt g 7 pt.toList
  r : w.rangeAt g 16 pr.toList
  p : w.rangeAt g 23 pp.toList
  f : w.rangeAt g 28 pf.toList
theorem MgP.at_ (h : MgP w' B pa pt pr pp pf m) {g : Nat} {k : Int} {t : TypeId} (hb : Blk w g t (mgA k pa pt pr pp pf)) : At w g k pa pt pr pp pf := by
  obtain ⟨h1, h2, h3, h4, h5⟩ := h.sizes
  refine ⟨by rw [hb.cell]; rfl, ?_, ?_, ?_, ?_, ?_⟩
  · exact range_at (pre := [.int .i64 k]) (post := pt.toList ++ (pr.toList ++ (pp.toList ++ pf.toList))) hb (by simp [mgA]) 1 rfl
  · exact range_at (pre := .int .i64 k :: pa.toList) (post := pr.toList ++ (pp.toList ++ pf.toList)) hb (by simp [mgA]) 7 (by simp [h1])
  · exact range_at (pre := .int .i64 k :: (pa.toList ++ pt.toList)) (post := pp.toList ++ pf.toList) hb (by simp [mgA]) 16 (by simp [h1, h2])
  · exact range_at (pre := .int .i64 k :: (pa.toList ++ (pt.toList ++ pr.toList))) (post := pf.toList) hb (by simp [mgA]) 23 (by simp [h1, h2, h3])
  · exact range_at (pre := .int .i64 k :: (pa.toList ++ (pt.toList ++ (pr.toList ++ pp.toList)))) (post := []) hb (by simp [mgA]) 28 (by simp [h1, h2, h3, h4])
end
theorem as_info : (Try.prog.info? 25).map (·.size) = some 6 := by kernel_rfl
theorem tg_info : (Try.prog.info? 30).map (·.size) = some 9 := by kernel_rfl
theorem re_info : (Try.prog.info? 32).map (·.size) = some 7 := by kernel_rfl
theorem ap_info : (Try.prog.info? 34).map (·.size) = some 5 := by kernel_rfl
theorem fa_info : (Try.prog.info? 37).map (·.size) = some 2 := by kernel_rfl
theorem mg_info : (Try.prog.info? 39).map (·.size) = some 30 := by kernel_rfl
theorem load_g {P : Program} {ops : Array Oper} {rest : List Oper} {op : Oper} {a : Act} {w : World} {Q : Exit → Act → World → Prop} (hw : Region.wanted op (yielded ops a.tmps) = true) (ty : TypeId) (x : Operand) (ho : op.op = .load ty x)
    (g o : Nat) (hx : a.eval x = .pointer (some ⟨g, o, none⟩)) (cs : Array Value) (d : TypeDesc) (hc : w.rangeAt g o cs.toList)
    (hu : P.underlying ty = some d) (hd : d.isRow = true) (hi : (P.info? ty).map (·.size) = some cs.size)
    (h : wpList P ops Q rest (a.put op.dst (.agg cs)) w) : wpList P ops Q (op :: rest) a w :=
  BigFrame.wpList_want hw fun _ hK => wp_load_mid ty x ho g o hx cs.toList d hc hu hd (by rw [Array.length_toList]; exact hi) (by simpa using hK _ _ h)
theorem blk_mid {w : World} {g o : Nat} {t : TypeId} {cs ps ds : Array Value} {pre mid post : List Value} (h : Blk w g t cs) (hc : cs.toList = pre ++ (mid ++ post)) (ho : o = pre.length) (hm : mid.length = ps.size) (hd : ds = (pre ++ (ps.toList ++ post)).toArray) : Blk (w.setCells g o ps.toList) g t ds := by
  subst ho
  have hs : cs.size = pre.length + (mid.length + post.length) := by rw [← Array.length_toList, hc]; simp
  obtain ⟨es, h1, h2, h3, h4⟩ := blk_cells_aux ps.toList pre.length w cs h (by simp; omega)
  have e : es = ds := by
    apply Array.ext_getElem?
    intro i
    rw [hd, show (pre ++ (ps.toList ++ post)).toArray[i]? = (pre ++ (ps.toList ++ post))[i]? by simp]
    have hci : ∀ i, cs[i]? = (pre ++ (mid ++ post))[i]? := fun i => by rw [← hc, Array.getElem?_toList]
    by_cases hi : i < pre.length
    · rw [h4 i (.inl hi), hci, List.getElem?_append_left hi, List.getElem?_append_left hi]
    · by_cases hj : i < pre.length + ps.size
      · rw [h3 i (by omega) (by simpa using hj), List.getElem?_append_right (by omega), List.getElem?_append_left (by simp; omega)]
      · rw [h4 i (.inr (by simp; omega)), hci, List.getElem?_append_right (by omega), List.getElem?_append_right (by omega), List.getElem?_append_right (by omega), List.getElem?_append_right (by simp; omega), hm]
        simp
  rw [← e]; exact h1
theorem there_mid {w : World} {g : Nat} {t : TypeId} {cs : Array Value} (h : Blk w g t cs) (o n : Nat) (hn : o + n ≤ cs.size) : w.there g o n := fun j hj => by
  rw [h.cell, Array.getElem?_eq_getElem (by omega)]
  exact ⟨rfl, h.frozen _⟩
theorem put_mid (w : World) (g o : Nat) (vs : List Value) : w.grownBy (w.setCells g o vs) (some g) := g_cells (.inl rfl) vs o w (World.grownBy.refl _ _)
end Go.Proofs.Yteeabfplnaknfaa.Mc
end
