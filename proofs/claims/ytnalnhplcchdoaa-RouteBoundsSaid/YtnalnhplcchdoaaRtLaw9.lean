/-
  RouteBounds walked.
-/
import Derived.Test.YtnalnhplcchdoaaRtBound
import Derived.Test.YtnalnhplcchdoaaRtAux
import Derived.Test.YtnalnhplcchdoaaRtRef7
import Derived.Test.YtnalnhplcchdoaaRtLaw8
import Derived.Deep.Cut
import Derived.Deep.CutRange
import Derived.Deep.CutBlock
set_option linter.unusedVariables false
set_option linter.unusedSimpArgs false
namespace Go.Proofs.Ytnalnhplcchdoaa.RtW
open Go.RowKit Go.Proofs.Ytnalnhplcchdoaa.Mem Go.Proofs.Ytnalnhplcchdoaa.Nm Go.Proofs.Ytnalnhplcchdoaa.Rt

theorem own_put {w : World} {base g j : Nat} {v u : Value} {ls : List L} (h : Own w base v ls) (hg : g < base) : Own (w.setCell ⟨g, j, none⟩ u) base v ls :=
  owns_heap h fun b hb => Below.heap_setCell w _ u b (fun e => by have h1 := (h.lt b hb).1; simp only at e; omega)
theorem below_put {w w2 : World} {g j : Nat} {u : Value} (h : Below w.heap.size w w2) (hg : w.heap.size ≤ g) : Below w.heap.size w (w2.setCell ⟨g, j, none⟩ u) :=
  below_of_g (g_set (g_of_below h none) (.inr hg) u)

theorem app_one_at {w : World} {ops : Array Oper} {rest : List Oper} {o : Oper} {a : Act} {Q : Exit → Act → World → Prop} (P : Nat) (hP : w.heap.size = P) (hgd : o.guard = none) (s x : Operand) (ho : o.op = .call { callee := .builtin .append, args := #[s, x], argTypes := #[22, 22] })
    (base : Nat) (v : Value) (ls : List L) (hs : a.eval s = v) (hown : Own w base v ls) (r : L) (hx : a.eval x = .slice (some ⟨P, 0, none⟩) 1 1)
    (hl : ls.length + 1 ≤ 8000000000000) (hb : base ≤ w.heap.size)
    (h : ∀ v' w', Own w' base v' (ls ++ [r]) → Below base w w' → wpList Try.prog ops Q rest (a.put o.dst v') w') : wpList Try.prog ops Q (o :: rest) a (w.alloc (.cells #[.string ⟨r.toArray⟩] 9)) := by
  subst hP
  exact app_one hgd s x ho base v ls hs hown r hx hl hb h

theorem path_info : (Try.prog.info? 48).map (fun i => (i.zero, i.size, i.bytes)) = some (some (.agg #[.string ⟨#[]⟩, .string ⟨#[]⟩, .slice none 0 0]), 3, 56) := by kernel_rfl
/-- append of one path to none -/
theorem aapp_one {w : World} {ops : Array Oper} {rest : List Oper} {o : Oper} {a : Act} {Q : Exit → Act → World → Prop} (P : Nat) (hP : w.heap.size = P) (hgd : o.guard = none) (s x : Operand) (ho : o.op = .call { callee := .builtin .append, args := #[s, x], argTypes := #[24, 24] })
    (f t : L) (u : Value) (hu : u.oneCell' = true) (hs : a.eval s = .slice none 0 0) (hx : a.eval x = .slice (some ⟨P, 0, none⟩) 1 1)
    (h : ∀ v' w', w'.ownsRow P 48 3 v' 1 [st f, st t, u] → Below P w w' → wpList Try.prog ops Q rest (a.put o.dst v') w') : wpList Try.prog ops Q (o :: rest) a (w.alloc (.cells #[.string ⟨f.toArray⟩, .string ⟨t.toArray⟩, u] 48)) := by
  subst hP
  obtain ⟨i0, hi0, hz0, hs0, hb0⟩ := info_parts path_info
  have hb1 : Below w.heap.size w (w.alloc (.cells #[.string ⟨f.toArray⟩, .string ⟨t.toArray⟩, u] 48)) := (Below.refl _ _).alloc (Nat.le_refl _) _
  obtain ⟨v', w', hrun, h2, h3, _, _⟩ := run_append_own_at (P := Try.prog) (w.alloc (.cells #[.string ⟨f.toArray⟩, .string ⟨t.toArray⟩, u] 48)) w.heap.size 24 o.type 48 i0 _ 3 56 Try.underlying24 hi0 hz0 hs0 hb0 rfl (by omega) (.slice none 0 0) 0 [] (World.ownsRow_nil _ _ _ 3) ⟨w.heap.size, 0, none⟩ 1 1 [st f, st t, u] rfl (fun j v hv => by
      rw [addr_add, Nat.zero_add, (Blk.new w 48 _).cell j]
      rcases j with _ | _ | _ | j
      · simpa [st] using hv
      · simpa [st] using hv
      · simpa [st] using hv
      · simp at hv) (fun v hv => by
      simp only [List.mem_cons, List.not_mem_nil, or_false] at hv
      rcases hv with rfl | rfl | rfl
      · rfl
      · rfl
      · exact hu) (by unfold maxLen; omega) (by omega) hb1.size
  refine wpList_plain hgd fun J hJ => ?_
  unfold Oper.wp execOp
  simp only [ho, resolve, invoke, builtin, Sem.run_bind, Sem.run_pure, Result.andThen_ok, List.map_toArray, List.map_cons, List.map_nil, hs, hx, hrun]
  refine hJ _ _ (h v' w' (by simpa using h2) ?_)
  exact hb1.grown h3 hb1.size (fun k hk => by cases hk)
theorem sla_own {w : World} {base : Nat} {v u : Value} {f t : L} {via : List L} (h : w.ownsRow base 48 3 v 1 [st f, st t, u]) (hu : SlV w w.heap.size u via) : SlA w w.heap.size v [⟨f, t, via⟩] := by
  have h' := h
  rcases h.2 with ⟨_, h2⟩ | ⟨g, cap, cur, h1, hg, hh, hc, _⟩
  · omega
  · subst h1
    refine ⟨_, cap, rfl, hc, .inr ⟨g, 0, rfl, (Array.getElem?_eq_some_iff.1 hh).1, fun i hi => ?_⟩⟩
    obtain rfl : i = 0 := by simpa using hi
    have hcl := h'.cells (g := g) rfl
    have a0 := hcl 0 _ rfl
    have a1 := hcl 1 _ rfl
    have a2 := hcl 2 _ rfl
    rw [addr_add] at a0 a1 a2
    exact ⟨a0, a1, u, a2, hu⟩
theorem rl_len {n : Nat} : ∀ x ∈ rowN n, x.length ≤ 3000 := by
  intro x hx
  obtain ⟨i, _, rfl⟩ := List.mem_map.1 hx
  simp [rl]

theorem own_path {w : World} {base : Nat} {v : Value} {xs : List Value} (h : w.ownsRow base 48 3 v 1 xs) : ∃ A c, v = .slice A 1 c := by
  rcases h.2 with ⟨_, h2⟩ | ⟨g, cap, cur, h1, _⟩
  · omega
  · exact ⟨_, _, h1⟩

set_option maxHeartbeats 6400000 in
set_option maxRecDepth 100000 in
theorem bounds_in (n m y : Nat) (w : World) (hn : n ≤ 9) (hm : m ≤ 40) (hy : y ≤ 4) :
    Calls Try.prog 10 #[.int .i64 (n : Int), .int .i64 (m : Int), .int .i64 (y : Int)] w fun e w' => e = .returned (.bool true) ∧ Below w.heap.size w w' := by
  obtain ⟨N, eN⟩ : ∃ N, N = w.heap.size := ⟨_, rfl⟩
  have HB0 := Lib.hid (show Below N w (w.alloc (.cells #[.slice none 0 0, .slice none 0 0, .slice none 0 0] 26)) by rw [eN]; exact (Below.refl _ _).alloc (Nat.le_refl _) _)
  have HK0 := Lib.hid (Blk.new w 26 #[.slice none 0 0, .slice none 0 0, .slice none 0 0])
  have EN0 := Lib.hid eN
  have HSZ := Lib.hid (show ∀ w1 : World, Below N w w1 → N ≤ w1.heap.size from fun w1 h => by have := h.size; have := EN0.out; omega)
  have CK := Lib.hid (fun w1 => known_any w1)
  clear eN
  have g1 : decide ((n : Int) < 0) = false := decide_eq_false (by omega)
  have g2 : decide (9 < (n : Int)) = false := decide_eq_false (by omega)
  have g3 : decide ((m : Int) < 0) = false := decide_eq_false (by omega)
  have g4 : decide (40 < (m : Int)) = false := decide_eq_false (by omega)
  have g5 : decide ((y : Int) < 0) = false := decide_eq_false (by omega)
  have g6 : decide (4 < (y : Int)) = false := decide_eq_false (by omega)
  go_enter Try.func10, Try.ntmps10
  go_wp2
  go_loopw [8] (fun iv wr => ∃ (i : Nat) (vR : Value), i ≤ n ∧ iv = .int .i64 (i : Int) ∧ Blk wr w.heap.size 26 #[vR, .slice none 0 0, .slice none 0 0] ∧ Own wr (N + 1) vR (rowN i) ∧ Below N w wr) (fun iv _ => n - (intOf iv).toNat)
  case atStart => exact ⟨0, _, Nat.zero_le _, rfl, HK0.out, Own.nil _ _, HB0.out⟩
  case round =>
    obtain ⟨i, vR, hin, rfl, hk, ho, hb⟩ := hrel
    have HK := Lib.hid hk; have HO := Lib.hid ho; have HB := Lib.hid hb; clear hk ho hb HK0 HB0
    obtain ⟨A5, c5, e5, r5⟩ := HO.out.slice
    subst e5
    clear r5
    have k0 : wr.cell? ⟨w.heap.size, 0, none⟩ = some (.slice A5 (rowN i).length c5) := HK.out.cell 0
    by_cases hlt : i < n
    · have e1 : decide ((i : Int) < (n : Int)) = true := decide_eq_true (by omega)
      obtain ⟨r, er⟩ : ∃ r, r = rl i := ⟨_, rfl⟩
      have hcv : (convert 50 9 (.slice (some ⟨wr.heap.size, 0, none⟩) 1 1)).run Try.prog (wr.alloc (.cells #[.int .u8 (65 + (i : Int))] 5)) = .ok (.string ⟨r.toArray⟩) (wr.alloc (.cells #[.int .u8 (65 + (i : Int))] 5)) := by
        have hrd : Rd (wr.alloc (.cells #[.int .u8 (65 + (i : Int))] 5)) (wr.heap.size + 1) (some ⟨wr.heap.size, 0, none⟩) (bvs (rl i)) := .inr ⟨wr.heap.size, 0, rfl, by omega, fun q u hu => by
          rw [Nat.zero_add, (Blk.new wr 5 _).cell]
          cases q with
          | zero =>
            have hb : bv (UInt8.ofNat (65 + i)) = .int .u8 (65 + (i : Int)) := by
              rw [bv, UInt8.toNat_ofNat', Nat.mod_eq_of_lt (by omega)]
              congr 1
            simp only [rl, bvs, List.map_cons, List.map_nil, List.getElem?_cons_zero, Option.some.injEq] at hu
            rw [← hu, hb]; rfl
          | succ q => simp [rl, bvs] at hu⟩
        rw [er]
        exact run_bytes_str _ 50 5 Try.underlying50 Try.underlying5 hrd 1 1 rfl 9 Try.underlying9
      have hrl := row_len i
      have hrn : rowN (i + 1) = rowN i ++ [r] := by rw [er]; exact row_next i
      have HRN := Lib.hid hrn
      obtain ⟨R, eR⟩ : ∃ R, R = rowN i := ⟨_, rfl⟩
      rw [← eR] at HK HO k0 hrl HRN
      have HRLEN := Lib.hid hrl
      clear er eR hrl hrn
      go_wp2_with (first
        | (at_builtin; refine app_one_at (wr.heap.size + 1) (by simp) rfl (.tmp 42) (.tmp 48) rfl (N + 1) _ R rfl (HO.out.below ((Below.refl _ _).alloc (Nat.le_refl _) _)) r rfl (by have := HRLEN.out; omega) (by have := HK.out.lt; have := EN0.out; simp; omega) ?_; intro v2 w2 ho2 hb2; have hb1 : Below N w w2 := (HB.out.trans (((Below.refl wr.heap.size wr).alloc (Nat.le_refl _) (.cells #[.int .u8 (65 + (i : Int))] 5)).mono (HSZ.out _ HB.out))).trans (hb2.mono (by omega)); have HK2 := Lib.hid (show Blk w2 w.heap.size 26 _ from (hb2.block _ (by have := EN0.out; omega)).trans (HK.out.alloc _)); have H2 := Lib.hid hb1; have HO2 := Lib.hid ho2; obtain ⟨A6, c6, e6, _⟩ := ho2.slice; rw [show (R ++ [r]).length = R.length + 1 by simp] at e6; subst e6; have f0 := HK2.out.frozen 0; have k9 := HK2.out.cell 0; simp only [List.getElem?_toArray, List.getElem?_cons_zero] at k9; clear hb2 ho2 hb1 k0))
      have HK3 := Lib.hid (HK2.out.set 0 (.slice A6 (R.length + 1) c6))
      have HO3 := Lib.hid (own_put (j := 0) (u := .slice A6 (R.length + 1) c6) HO2.out (show w.heap.size < N + 1 by have := EN0.out; omega))
      have H3 := Lib.hid (below_put (j := 0) (u := .slice A6 (R.length + 1) c6) (EN0.out ▸ H2.out) (Nat.le_refl _))
      go_roundw
      case rel => exact ⟨i + 1, _, by omega, by go_num, HK3.out, by rw [HRN.out]; exact HO3.out, by rw [EN0.out]; exact H3.out⟩
      case measure => simp [intOf]; omega
    · have e1 : decide ((i : Int) < (n : Int)) = false := decide_eq_false (by omega)
      have en := row_len n
      obtain rfl : n = i := by omega
      rw [en] at HK HO k0
      obtain ⟨w8, ew8⟩ : ∃ q, q = wr := ⟨_, rfl⟩
      rw [← ew8] at HK HO HB k0 ⊢
      clear ew8 k0 en hin hlt
      have HNW := Lib.hid HK.out.lt
      have HOR := Lib.hid (show Own w8 (N + 1) (.slice A5 n c5) (rowN n) from HO.out)
      go_wp2
      go_loopw [9, 10] (fun kv iv wr => ∃ (i : Nat) (vK : Value), i ≤ n ∧ iv = .int .i64 (i : Int) ∧ kv = .int .i64 (((ups n i 0).take m).length : Int) ∧ Blk wr w.heap.size 26 #[.slice A5 n c5, vK, .slice none 0 0] ∧ OwnP wr w8.heap.size vK ((ups n i 0).take m) ∧ w8.grownBy wr (some w.heap.size)) (fun _ iv _ => n - (intOf iv).toNat)
      case atStart => exact ⟨0, _, Nat.zero_le _, rfl, by rw [ups_zero]; simp, HK.out, by rw [ups_zero, List.take_nil]; exact OwnP.nil _ _, World.grownBy.refl _ _⟩
      case round =>
        clear HO e1
        obtain ⟨i, vK, hin, rfl, rfl, hk, hp, hg⟩ := hrel
        have HBX := Lib.hid hk; have HOP := Lib.hid hp; have HGB := Lib.hid hg; clear hk hp hg
        by_cases hlt : i < n
        · have e1 : decide ((i : Int) < (n : Int)) = true := decide_eq_true (by omega)
          go_wp2
          go_loopw [9, 11] (fun kv iv wr => ∃ (j : Nat) (vK : Value), j ≤ n ∧ iv = .int .i64 (j : Int) ∧ kv = .int .i64 (((ups n i j).take m).length : Int) ∧ Blk wr w.heap.size 26 #[.slice A5 n c5, vK, .slice none 0 0] ∧ OwnP wr w8.heap.size vK ((ups n i j).take m) ∧ w8.grownBy wr (some w.heap.size)) (fun _ iv _ => n - (intOf iv).toNat)
          case atStart => exact ⟨0, vK, Nat.zero_le _, rfl, rfl, HBX.out, HOP.out, HGB.out⟩
          case round =>
            clear HBX HOP HGB
            obtain ⟨j, vK, hjn, rfl, rfl, hk, hp, hg⟩ := hrel
            have hkl : ((ups n i j).take m).length ≤ 40 := by rw [List.length_take]; omega
            have HSAME := Lib.hid (fun h => congrArg (List.take m) (@ups_same n i j h))
            have HNO := Lib.hid (fun (h : i ≠ j) (h2 : ¬ ((ups n i j).take m).length < m) => (congrArg (List.take m) (@ups_one n i j h)).trans (take_full h2))
            have HYE := Lib.hid (fun (h : i ≠ j) (h2 : ((ups n i j).take m).length < m) => (congrArg (List.take m) (@ups_one n i j h)).trans (take_more h2))
            have HLAST := Lib.hid (fun (h : j = n) => (show (ups n i j).take m = (ups n (i + 1) 0).take m by rw [h, ups_row]))
            obtain ⟨K, eK⟩ : ∃ K, K = (ups n i j).take m := ⟨_, rfl⟩
            rw [← eK] at hp hkl HSAME HNO HYE HLAST ⊢
            have HBX := Lib.hid hk; have HOP := Lib.hid hp; have HGB := Lib.hid hg; clear hk hp hg eK
            by_cases hlj : j < n
            · have e2 : decide ((j : Int) < (n : Int)) = true := decide_eq_true (by omega)
              by_cases hij : i = j
              · have t1 : ((i : Int) != (j : Int)) = false := by rw [hij]; simp
                have E := Lib.hid (HSAME.out hij)
                clear hij
                go_wp2
                go_roundw
                case rel => exact ⟨j + 1, vK, by omega, by go_num, by rw [E.out], HBX.out, by rw [E.out]; exact HOP.out, HGB.out⟩
                case measure => simp [intOf]; omega
              · have t1 : ((i : Int) != (j : Int)) = true := by simp; omega
                by_cases hkm : K.length < m
                · have t2 : decide ((K.length : Int) < (m : Int)) = true := decide_eq_true (by omega)
                  have HYES := Lib.hid (HYE.out hij hkm)
                  obtain ⟨A8, c8, e8, _⟩ := HOP.out.slice
                  subst e8
                  obtain ⟨g5, c5', e5, hg5, hg5', hc5, r5⟩ := own_block HOR.out (by rw [row_len]; omega)
                  rw [row_len] at e5 hc5
                  injection e5 with e5 _ e5'
                  subst e5
                  subst e5'
                  have HR5 := Lib.hid r5
                  have HNE := Lib.hid (show g5 ≠ w.heap.size by have := EN0.out; omega)
                  have L1 := Lib.hid (fun w' (h : w8.grownBy w' (some w.heap.size)) => (by have h2 := cell_far HR5.out h HNE.out (i := i) (by rw [row_len]; omega); rw [row_at hlt] at h2; exact h2 : (w' : World).cell? ⟨g5, i, none⟩ = some (.string ⟨(rl i).toArray⟩)))
                  have L2 := Lib.hid (fun w' (h : w8.grownBy w' (some w.heap.size)) => (by have h2 := cell_far HR5.out h HNE.out (i := j) (by rw [row_len]; omega); rw [row_at hlj] at h2; exact h2 : (w' : World).cell? ⟨g5, j, none⟩ = some (.string ⟨(rl j).toArray⟩)))
                  have e3 : (0 : Int) ≤ (i : Int) := by omega
                  have e4 : (i : Int) < (n : Int) := by omega
                  have e5 : (0 : Int) ≤ (j : Int) := by omega
                  have e6 : (j : Int) < (n : Int) := by omega
                  clear r5 hij
                  go_wp2
                  refine Reg.any_begin (fun w' => w'.cell? ⟨w.heap.size, 0, none⟩ = some (.slice (some ⟨g5, 0, none⟩) n c5) ∧ w8.grownBy w' (some w.heap.size)) 17 rfl (by kernel_rfl) ⟨HBX.out.cell 0, g_drew HGB.out⟩ ?_
                  replace HBX := Lib.hid (show Blk wr.drew _ _ _ from HBX.out.drewN 1)
                  replace HOP := Lib.hid (show OwnP wr.drew _ _ _ from HOP.out.below (below_drewN (Below.refl _ _) 1))
                  replace HGB := Lib.hid (g_drew HGB.out)
                  obtain ⟨W, eW⟩ : ∃ W, W = wr.drew := ⟨_, rfl⟩
                  rw [← eW] at HBX HOP HGB ⊢
                  clear eW
                  have HS := Lib.hid (show W.cell? ⟨w.heap.size, 0, none⟩ = some (.slice (some ⟨g5, 0, none⟩) n c5) ∧ w8.grownBy W (some w.heap.size) from ⟨HBX.out.cell 0, HGB.out⟩)
                  refine Reg.any_take 0 (v := ?v0) rfl (by kernel_rfl) (by kernel_rfl) (by kernel_rfl) (fun _ _ _ h => h) HS.out (by rfl) (fun w' hS => ?h0) ?r0
                  case h0 => go_simp; rfl
                  simp only [Act.put, List.setIfInBounds_toArray, List.set_cons_zero, List.set_cons_succ]
                  refine Reg.any_take 2 (v := ?v2) rfl (by kernel_rfl) (by kernel_rfl) (by kernel_rfl) (fun _ _ _ h => h) HS.out (by rfl) (fun w' hS => ?h2) ?r2
                  case h2 => go_simp; rfl
                  simp only [Act.put, List.setIfInBounds_toArray, List.set_cons_zero, List.set_cons_succ]
                  refine Reg.any_take 3 (v := ?v3) rfl (by kernel_rfl) (by kernel_rfl) (by kernel_rfl) (fun _ _ _ h => h) HS.out (by rfl) (fun w' hS => ?h3) ?r3
                  case h3 => have h := hS.1; go_simp; rfl
                  simp only [Act.put, List.setIfInBounds_toArray, List.set_cons_zero, List.set_cons_succ]
                  refine Reg.any_take 4 (v := ?v4) rfl (by kernel_rfl) (by kernel_rfl) (by kernel_rfl) (fun _ _ _ h => h) HS.out (by rfl) (fun w' hS => ?h4) ?r4
                  case h4 => go_simp; rfl
                  simp only [Act.put, List.setIfInBounds_toArray, List.set_cons_zero, List.set_cons_succ]
                  refine Reg.any_take 5 (v := ?v5) rfl (by kernel_rfl) (by kernel_rfl) (by kernel_rfl) (fun _ _ _ h => h) HS.out (by rfl) (fun w' hS => ?h5) ?r5
                  case h5 => go_simp; rfl
                  simp only [Act.put, List.setIfInBounds_toArray, List.set_cons_zero, List.set_cons_succ]
                  refine Reg.any_take 6 (v := ?v6) rfl (by kernel_rfl) (by kernel_rfl) (by kernel_rfl) (fun _ _ _ h => h) HS.out (by rfl) (fun w' hS => ?h6) ?r6
                  case h6 => have h := L1.out w' hS.2; go_simp; rfl
                  simp only [Act.put, List.setIfInBounds_toArray, List.set_cons_zero, List.set_cons_succ]
                  refine Reg.any_take 7 (v := ?v7) rfl (by kernel_rfl) (by kernel_rfl) (by kernel_rfl) (fun _ _ _ h => h) HS.out (by rfl) (fun w' hS => ?h7) ?r7
                  case h7 => go_simp; rfl
                  simp only [Act.put, List.setIfInBounds_toArray, List.set_cons_zero, List.set_cons_succ]
                  refine Reg.any_take 8 (v := ?v8) rfl (by kernel_rfl) (by kernel_rfl) (by kernel_rfl) (fun _ _ _ h => h) HS.out (by rfl) (fun w' hS => ?h8) ?r8
                  case h8 => have h := hS.1; go_simp; rfl
                  simp only [Act.put, List.setIfInBounds_toArray, List.set_cons_zero, List.set_cons_succ]
                  refine Reg.any_take 9 (v := ?v9) rfl (by kernel_rfl) (by kernel_rfl) (by kernel_rfl) (fun _ _ _ h => h) HS.out (by rfl) (fun w' hS => ?h9) ?r9
                  case h9 => go_simp; rfl
                  simp only [Act.put, List.setIfInBounds_toArray, List.set_cons_zero, List.set_cons_succ]
                  refine Reg.any_take 10 (v := ?v10) rfl (by kernel_rfl) (by kernel_rfl) (by kernel_rfl) (fun _ _ _ h => h) HS.out (by rfl) (fun w' hS => ?h10) ?r10
                  case h10 => go_simp; rfl
                  simp only [Act.put, List.setIfInBounds_toArray, List.set_cons_zero, List.set_cons_succ]
                  refine Reg.any_take 11 (v := ?v11) rfl (by kernel_rfl) (by kernel_rfl) (by kernel_rfl) (fun _ _ _ h => h) HS.out (by rfl) (fun w' hS => ?h11) ?r11
                  case h11 => have h := L2.out w' hS.2; go_simp; rfl
                  simp only [Act.put, List.setIfInBounds_toArray, List.set_cons_zero, List.set_cons_succ]
                  refine Reg.any_take 12 (v := ?v12) rfl (by kernel_rfl) (by kernel_rfl) (by kernel_rfl) (fun _ _ _ h => h) HS.out (by rfl) (fun w' hS => ?h12) ?r12
                  case h12 => go_simp; rfl
                  simp only [Act.put, List.setIfInBounds_toArray, List.set_cons_zero, List.set_cons_succ]
                  have hb1 : Below W.heap.size W (W.alloc (.cells #[.string ⟨(rl i).toArray⟩, .string ⟨(rl j).toArray⟩] 43)) := (Below.refl _ _).alloc (Nat.le_refl _) _
                  have hg1 := g_alloc HGB.out (.cells #[.string ⟨(rl i).toArray⟩, .string ⟨(rl j).toArray⟩] 43)
                  have k1 : W.cell? ⟨w.heap.size, 1, none⟩ = some (.slice A8 K.length c8) := HBX.out.cell 1
                  have k1' : (W.alloc (.cells #[.string ⟨(rl i).toArray⟩, .string ⟨(rl j).toArray⟩] 43)).cell? ⟨w.heap.size, 1, none⟩ = some (.slice A8 K.length c8) := (HBX.out.below hb1).cell 1
                  have hs1 : (W.alloc (.cells #[.string ⟨(rl i).toArray⟩, .string ⟨(rl j).toArray⟩] 43)).cell? ⟨w.heap.size, 0, none⟩ = some (.slice (some ⟨g5, 0, none⟩) n c5) ∧ w8.grownBy (W.alloc (.cells #[.string ⟨(rl i).toArray⟩, .string ⟨(rl j).toArray⟩] 43)) (some w.heap.size) := ⟨(HBX.out.below hb1).cell 0, hg1⟩
                  refine Reg.eff_all [1, 13] (by kernel_rfl) (by simp) ?_
                  intro j0 hj0
                  have hj0 : j0 = 1 ∨ j0 = 13 := by simpa using hj0
                  rcases hj0 with rfl | rfl
                  · refine ⟨_, _, _, _, _, _, _, W, rfl, by rfl, by (go_simp; rfl), HS.out, ?_⟩
                    simp only [Act.put, List.setIfInBounds_toArray, List.set_cons_zero, List.set_cons_succ]
                    refine Reg.eff_all [13] (by kernel_rfl) (by simp) ?_
                    intro j0 hj0
                    obtain rfl : j0 = 13 := by simpa using hj0
                    clear hj0
                    refine ⟨_, _, _, _, _, _, _, (W.alloc (.cells #[.string ⟨(rl i).toArray⟩, .string ⟨(rl j).toArray⟩] 43)), rfl, by rfl, by (go_simp; rfl), hs1, ?_⟩
                    simp only [Act.put, List.setIfInBounds_toArray, List.set_cons_zero, List.set_cons_succ]
                    refine Reg.eff_all [14] (by kernel_rfl) (by simp) ?_
                    intro j0 hj0
                    obtain rfl : j0 = 14 := by simpa using hj0
                    clear hj0
                    obtain ⟨v9, w9, hrun, ho9, hb9⟩ := ap_pr (W.alloc (.cells #[.string ⟨(rl i).toArray⟩, .string ⟨(rl j).toArray⟩] 43)) w8.heap.size (.slice A8 K.length c8) K (HOP.out.below hb1) (rl i, rl j) W.heap.size ((Blk.new W 43 _).cell 0) ((Blk.new W 43 _).cell 1) (by omega) hg1.size
                    have HX9 := Lib.hid (show Blk w9 w.heap.size 26 _ from (hb9.block _ (by have := HNW.out; omega)).trans (HBX.out.below hb1))
                    have HG9 := Lib.hid (g_more hg1 hb9)
                    refine ⟨_, _, _, _, _, _, v9, w9, rfl, by rfl, by (simp only [execOp, resolve, invoke, builtin, Sem.run_bind, Sem.run_pure, Result.andThen_ok, List.map_toArray, List.map_cons, List.map_nil, Act.eval]; refine (congrArg (fun r => Result.andThen r _) hrun).trans ?_; rfl), ⟨HX9.out.cell 0, HG9.out⟩, ?_⟩
                    simp only [Act.put, List.setIfInBounds_toArray, List.set_cons_zero, List.set_cons_succ]
                    have HO9 := Lib.hid ho9
                    obtain ⟨A7, c7, e7', _⟩ := ho9.slice
                    rw [show (K ++ [(rl i, rl j)]).length = K.length + 1 by simp] at e7'
                    subst e7'
                    clear hrun ho9 hb9 hg1 hb1 hs1
                    refine Reg.any_take 15 (v := ?va15) rfl (by kernel_rfl) (by kernel_rfl) (by kernel_rfl) (fun _ _ _ h => h) ⟨HX9.out.cell 0, HG9.out⟩ (by rfl) (fun w' hS => ?ha15) ?ra15
                    case ha15 => go_simp; rfl
                    simp only [Act.put, List.setIfInBounds_toArray, List.set_cons_zero, List.set_cons_succ]
                    have f0 := HX9.out.frozen 1
                    have k9 : w9.cell? ⟨w.heap.size, 1, none⟩ = some (.slice A8 K.length c8) := HX9.out.cell 1
                    have HX3 := Lib.hid (HX9.out.set 1 (.slice A7 (K.length + 1) c7))
                    have HO3 := Lib.hid (ownp_put (j := 1) (u := (.slice A7 (K.length + 1) c7)) HO9.out (show w.heap.size < w8.heap.size from HNW.out))
                    have HG3 := Lib.hid (g_set HG9.out (p := ⟨w.heap.size, 1, none⟩) (.inl rfl) (.slice A7 (K.length + 1) c7))
                    refine Reg.any_store 16 (w9.setCell ⟨w.heap.size, 1, none⟩ (.slice A7 (K.length + 1) c7)) rfl (by kernel_rfl) (by rfl) (by go_simp) ⟨HX3.out.cell 0, HG3.out⟩ ?_
                    simp only [Act.put, List.setIfInBounds_toArray, List.set_cons_zero, List.set_cons_succ]
                    refine wpAnyH_done (by kernel_rfl) ?_ _
                    clear f0 k9 k1 k1'
                    go_wp2
                    go_roundw
                    case rel => exact ⟨j + 1, _, by omega, by go_num, by rw [HYES.out]; simp, HX3.out, by rw [HYES.out]; exact HO3.out, HG3.out⟩
                    case measure => simp [intOf]; omega
                  · refine ⟨_, _, _, _, _, _, _, (W.alloc (.cells #[.string ⟨(rl i).toArray⟩, .string ⟨(rl j).toArray⟩] 43)), rfl, by rfl, by (go_simp; rfl), hs1, ?_⟩
                    simp only [Act.put, List.setIfInBounds_toArray, List.set_cons_zero, List.set_cons_succ]
                    refine Reg.eff_all [1] (by kernel_rfl) (by simp) ?_
                    intro j0 hj0
                    obtain rfl : j0 = 1 := by simpa using hj0
                    clear hj0
                    refine ⟨_, _, _, _, _, _, _, (W.alloc (.cells #[.string ⟨(rl i).toArray⟩, .string ⟨(rl j).toArray⟩] 43)), rfl, by rfl, by (go_simp; rfl), hs1, ?_⟩
                    simp only [Act.put, List.setIfInBounds_toArray, List.set_cons_zero, List.set_cons_succ]
                    refine Reg.eff_all [14] (by kernel_rfl) (by simp) ?_
                    intro j0 hj0
                    obtain rfl : j0 = 14 := by simpa using hj0
                    clear hj0
                    obtain ⟨v9, w9, hrun, ho9, hb9⟩ := ap_pr (W.alloc (.cells #[.string ⟨(rl i).toArray⟩, .string ⟨(rl j).toArray⟩] 43)) w8.heap.size (.slice A8 K.length c8) K (HOP.out.below hb1) (rl i, rl j) W.heap.size ((Blk.new W 43 _).cell 0) ((Blk.new W 43 _).cell 1) (by omega) hg1.size
                    have HX9 := Lib.hid (show Blk w9 w.heap.size 26 _ from (hb9.block _ (by have := HNW.out; omega)).trans (HBX.out.below hb1))
                    have HG9 := Lib.hid (g_more hg1 hb9)
                    refine ⟨_, _, _, _, _, _, v9, w9, rfl, by rfl, by (simp only [execOp, resolve, invoke, builtin, Sem.run_bind, Sem.run_pure, Result.andThen_ok, List.map_toArray, List.map_cons, List.map_nil, Act.eval]; refine (congrArg (fun r => Result.andThen r _) hrun).trans ?_; rfl), ⟨HX9.out.cell 0, HG9.out⟩, ?_⟩
                    simp only [Act.put, List.setIfInBounds_toArray, List.set_cons_zero, List.set_cons_succ]
                    have HO9 := Lib.hid ho9
                    obtain ⟨A7, c7, e7', _⟩ := ho9.slice
                    rw [show (K ++ [(rl i, rl j)]).length = K.length + 1 by simp] at e7'
                    subst e7'
                    clear hrun ho9 hb9 hg1 hb1 hs1
                    refine Reg.any_take 15 (v := ?vb15) rfl (by kernel_rfl) (by kernel_rfl) (by kernel_rfl) (fun _ _ _ h => h) ⟨HX9.out.cell 0, HG9.out⟩ (by rfl) (fun w' hS => ?hb15) ?rb15
                    case hb15 => go_simp; rfl
                    simp only [Act.put, List.setIfInBounds_toArray, List.set_cons_zero, List.set_cons_succ]
                    have f0 := HX9.out.frozen 1
                    have k9 : w9.cell? ⟨w.heap.size, 1, none⟩ = some (.slice A8 K.length c8) := HX9.out.cell 1
                    have HX3 := Lib.hid (HX9.out.set 1 (.slice A7 (K.length + 1) c7))
                    have HO3 := Lib.hid (ownp_put (j := 1) (u := (.slice A7 (K.length + 1) c7)) HO9.out (show w.heap.size < w8.heap.size from HNW.out))
                    have HG3 := Lib.hid (g_set HG9.out (p := ⟨w.heap.size, 1, none⟩) (.inl rfl) (.slice A7 (K.length + 1) c7))
                    refine Reg.any_store 16 (w9.setCell ⟨w.heap.size, 1, none⟩ (.slice A7 (K.length + 1) c7)) rfl (by kernel_rfl) (by rfl) (by go_simp) ⟨HX3.out.cell 0, HG3.out⟩ ?_
                    simp only [Act.put, List.setIfInBounds_toArray, List.set_cons_zero, List.set_cons_succ]
                    refine wpAnyH_done (by kernel_rfl) ?_ _
                    clear f0 k9 k1 k1'
                    go_wp2
                    go_roundw
                    case rel => exact ⟨j + 1, _, by omega, by go_num, by rw [HYES.out]; simp, HX3.out, by rw [HYES.out]; exact HO3.out, HG3.out⟩
                    case measure => simp [intOf]; omega
                · have t2 : decide ((K.length : Int) < (m : Int)) = false := decide_eq_false (by omega)
                  have E := Lib.hid (HNO.out hij hkm)
                  clear hij
                  go_wp2
                  go_roundw
                  case rel => exact ⟨j + 1, vK, by omega, by go_num, by rw [E.out], HBX.out, by rw [E.out]; exact HOP.out, HGB.out⟩
                  case measure => simp [intOf]; omega
            · have e2 : decide ((j : Int) < (n : Int)) = false := decide_eq_false (by omega)
              have E := Lib.hid (HLAST.out (by omega))
              go_wp2
              go_roundw
              case rel => exact ⟨i + 1, vK, by omega, by go_num, by rw [← E.out], HBX.out, by rw [← E.out]; exact HOP.out, HGB.out⟩
              case measure => simp [intOf]; omega
        · have e1 : decide ((i : Int) < (n : Int)) = false := decide_eq_false (by omega)
          obtain rfl : n = i := by omega
          have hkl : ((ups n n 0).take m).length ≤ 40 := by rw [List.length_take]; omega
          have HOf := Lib.hid (show Own wr (N + 1) (.slice A5 n c5) (rowN n) from owns_heap HOR.out fun g hg => HGB.out.block g (HOR.out.lt g hg).2 (fun e => by injection e with e; have := (HOR.out.lt g hg).1; have := EN0.out; omega))
          have HEND := Lib.hid (show Below w.heap.size w wr by rw [← EN0.out]; exact below_g HB.out HGB.out (HSZ.out _ HB.out) (by have := EN0.out; omega))
          have hb0 := bn_all n (by omega) m (by omega)
          have hb1 := fun h => bn_one n (by omega) h m (by omega)
          have hb2 := fun h => bn_two n (by omega) h m (by omega)
          have hb3 := fun h => bn_three n (by omega) h m (by omega)
          have hb4 := fun h => bn_four n (by omega) h m (by omega)
          have hok : okN n m = (decide (1 ≤ n) && (decide (n ≤ 6) && decide (((ups n n 0).take m).length ≤ 20))) := rfl
          obtain ⟨ok, eok⟩ : ∃ ok, ok = okN n m := ⟨_, rfl⟩
          rw [← eok] at hb0 hok
          unfold kN at hb0 hb1 hb2 hb3 hb4
          obtain ⟨K, eK⟩ : ∃ K, K = (ups n n 0).take m := ⟨_, rfl⟩
          rw [← eK] at HOP hkl hb0 hb1 hb2 hb3 hb4 hok ⊢
          obtain ⟨A8, c8, e8, _⟩ := HOP.out.slice
          subst e8
          have hrl : (rowN n).length = n := row_len n
          obtain ⟨R, eR⟩ : ∃ R, R = rowN n := ⟨_, rfl⟩
          have hr3 : ∀ x ∈ R, x.length ≤ 3000 := by rw [eR]; exact rl_len
          have hr1 : 2 ≤ n → pl R 0 = rl 0 ∧ pl R 1 = rl 1 := fun h => by rw [eR]; exact ⟨row_at (by omega), row_at (by omega)⟩
          rw [← eR] at HOf HOR hb0 hb1 hb2 hb3 hb4 hrl
          have HB1 := Lib.hid hb1; have HB2 := Lib.hid hb2; have HB3 := Lib.hid hb3; have HB4 := Lib.hid hb4; have HB00 := Lib.hid hb0; have HOK := Lib.hid hok; have HR3 := Lib.hid hr3; have HR1 := Lib.hid hr1; have HRL := Lib.hid hrl
          clear hb0 hb1 hb2 hb3 hb4 hok eok eK eR hr3 hr1 hrl hlt
          go_upto_region 18 with fail
          go_cut [12] from 87 to 96 (fun okv wx => okv = .bool ok ∧ wx = wr)
          case first =>
            by_cases h1 : 1 ≤ n
            · have d1 : decide (1 ≤ (n : Int)) = true := decide_eq_true (by omega)
              by_cases h6 : n ≤ 6
              · have d2 : decide ((n : Int) ≤ 6) = true := decide_eq_true (by omega)
                by_cases h20 : K.length ≤ 20
                · have d3 : decide ((K.length : Int) ≤ 20) = true := decide_eq_true (by omega)
                  go_wp2_with fail
                  go_meet
                  exact ⟨by rw [HOK.out, decide_eq_true h1, decide_eq_true h6, decide_eq_true h20]; rfl, rfl⟩
                · have d3 : decide ((K.length : Int) ≤ 20) = false := decide_eq_false (by omega)
                  go_wp2_with fail
                  go_meet
                  exact ⟨by rw [HOK.out, decide_eq_true h1, decide_eq_true h6, decide_eq_false h20]; rfl, rfl⟩
              · have d2 : decide ((n : Int) ≤ 6) = false := decide_eq_false (by omega)
                go_wp2_with fail
                go_meet
                exact ⟨by rw [HOK.out, decide_eq_true h1, decide_eq_false h6]; rfl, rfl⟩
            · have d1 : decide (1 ≤ (n : Int)) = false := decide_eq_false (by omega)
              go_wp2_with fail
              go_meet
              exact ⟨by rw [HOK.out, decide_eq_false h1]; rfl, rfl⟩
          case rest =>
            obtain ⟨rfl, rfl⟩ := hcut
            have bok : (ok == ok) = true := by simp
            by_cases h2 : 2 ≤ n
            · have d2 : decide (2 ≤ (n : Int)) = true := decide_eq_true (by omega)
              rcases (by omega : y = 0 ∨ y = 1 ∨ y = 2 ∨ y = 3 ∨ y = 4) with hy0 | hy0 | hy0 | hy0 | hy0
              · have y1 : ((y : Int) == 1) = false := by simp; omega
                have y2 : ((y : Int) == 2) = false := by simp; omega
                have y3 : ((y : Int) == 3) = false := by simp; omega
                have y4 : ((y : Int) == 4) = false := by simp; omega
                clear hy0
                have hv : TpV wc wc.heap.size (.agg #[.slice A5 n c5, .slice A8 K.length c8, .slice none 0 0]) ⟨R, K, []⟩ := ⟨_, _, _, rfl, (by have h := own_sl HOf.out; obtain ⟨A1, c1, e1, h2, h3⟩ := h; injection e1 with e1 e2 e3; subst e1; subst e3; exact ⟨_, _, by rw [HRL.out], by rw [HRL.out]; exact (by rw [HRL.out] at h2; exact h2), h3⟩), HOP.out.slice, sla_nil _ _⟩
                have hsm : Sm ⟨R, K, []⟩ := ⟨by show R.length ≤ 3000; have := HRL.out; omega, by show K.length ≤ 3000; omega, by simp, HR3.out, fun q hq => by simp at hq, fun q hq => by simp at hq⟩
                have IS := Lib.hid (fun w1 (h : Below wc.heap.size wc w1) => ist_any ⟨R, K, []⟩ _ wc.heap.size w1 hsm (hv.below h) h.size)
                rw [show isT ⟨R, K, []⟩ = ok from HB00.out] at IS
                have HW := Lib.hid (Below.refl wc.heap.size wc)
                have k0 : wc.cell? ⟨w.heap.size, 0, none⟩ = some (.slice A5 n c5) := HBX.out.cell 0
                have k1 : wc.cell? ⟨w.heap.size, 1, none⟩ = some (.slice A8 K.length c8) := HBX.out.cell 1
                have k2 : wc.cell? ⟨w.heap.size, 2, none⟩ = some (.slice none 0 0) := HBX.out.cell 2
                clear hv hsm
                go_wp2_with (first
                  | (go_at_call 13; refine Calls.mono (IS.out _ HW.out) ?_; rintro e wa ⟨rfl, hb⟩; clear IS; replace HW := Lib.hid (HW.out.trans (hb.mono HW.out.size)); clear hb)
                  | (go_at_call 15; refine Calls.mono (CK.out _) ?_; rintro e wb ⟨rfl, hb⟩; replace HW := Lib.hid (HW.out.trans (hb.mono HW.out.size)); clear hb))
                go_ret
                exact ⟨rfl, HEND.out.trans (HW.out.mono HEND.out.size)⟩
              · have y1 : ((y : Int) == 1) = true := by simp; omega
                have y2 : ((y : Int) == 2) = false := by simp; omega
                have y3 : ((y : Int) == 3) = false := by simp; omega
                have y4 : ((y : Int) == 4) = false := by simp; omega
                clear hy0
                obtain ⟨g9, c9, e9, hg9, hg9', hc9, r9⟩ := own_block HOf.out (by have := HRL.out; omega)
                rw [HRL.out] at e9
                injection e9 with e9 _ e9'
                subst e9
                subst e9'
                have HNE := Lib.hid (show g9 ≠ w.heap.size by have := EN0.out; omega)
                have k0 : wc.cell? ⟨w.heap.size, 0, none⟩ = some (.slice (some ⟨g9, 0, none⟩) n c5) := HBX.out.cell 0
                have r0 : wc.cell? ⟨g9, 0, none⟩ = some (.string ⟨(rl 0).toArray⟩) := by have h := cell_far r9 (World.grownBy.refl wc (some w.heap.size)) HNE.out (i := 0) (by have := HRL.out; omega); rw [(HR1.out h2).1] at h; exact h
                have r1 : wc.cell? ⟨g9, 1, none⟩ = some (.string ⟨(rl 1).toArray⟩) := by have h := cell_far r9 (World.grownBy.refl wc (some w.heap.size)) HNE.out (i := 1) (by have := HRL.out; omega); rw [(HR1.out h2).2] at h; exact h
                have f1 : wc.frozen? ⟨g9, 1, none⟩ = false := World.ownsRow.frozenAt (n := n) (by have h := HOf.out; rw [Own, HRL.out] at h; exact h) 1
                have i1 : (0 : Int) < (n : Int) := by omega
                have i2 : (1 : Int) < (n : Int) := by omega
                clear r9 hg9 hg9' hc9
                go_upto_region 22 with fail
                go_region
                go_upto_region 29 with fail
                have hs9 := HOf.out.stored HRL.out.symm 1 (rl 0)
                have HO3 := Lib.hid hs9.1.drew
                have HX3 := Lib.hid (show Blk (wc.setCell ⟨g9, 1, none⟩ (.string ⟨(rl 0).toArray⟩)).drew w.heap.size 26 _ from (Below.heap_setCell wc _ _ w.heap.size (fun e => HNE.out e.symm)).trans HBX.out)
                have HP3 := Lib.hid (show OwnP (wc.setCell ⟨g9, 1, none⟩ (.string ⟨(rl 0).toArray⟩)).drew w8.heap.size (.slice A8 K.length c8) K from owns_heap HOP.out fun b hb => Below.heap_setCell wc _ _ b (fun e => by have h1 := (HOP.out.lt b hb).1; have h2 := (HOR.out.lt g9 rfl).2; simp only at e; omega))
                have HE3 := Lib.hid (show Below w.heap.size w (wc.setCell ⟨g9, 1, none⟩ (.string ⟨(rl 0).toArray⟩)).drew from below_drewN (below_put HEND.out (by have := (HOR.out.lt g9 rfl).1; have := EN0.out; omega)) 1)
                obtain ⟨wX, eX⟩ : ∃ wX, wX = (wc.setCell ⟨g9, 1, none⟩ (.string ⟨(rl 0).toArray⟩)).drew := ⟨_, rfl⟩
                rw [← eX] at HO3 HX3 HP3 HE3 ⊢
                clear eX k0 r0 r1 f1 hs9
                have hrl2 : (R.set 1 (rl 0)).length = n := by rw [List.length_set, HRL.out]
                have hr32 : ∀ x ∈ R.set 1 (rl 0), x.length ≤ 3000 := fun x hx => (List.mem_or_eq_of_mem_set hx).elim (HR3.out x) (fun e => by rw [e]; simp [rl])
                have hv : TpV wX wX.heap.size (.agg #[.slice (some ⟨g9, 0, none⟩) n c5, .slice A8 K.length c8, .slice none 0 0]) ⟨R.set 1 (rl 0), K, []⟩ := ⟨_, _, _, rfl, (by have h := own_sl HO3.out; obtain ⟨A1, c1, e1, h2, h3⟩ := h; injection e1 with e1 e2 e3; subst e1; subst e3; exact ⟨_, _, by rw [hrl2], by rw [hrl2]; exact (by rw [hrl2] at h2; exact h2), h3⟩), HP3.out.slice, sla_nil _ _⟩
                have hsm : Sm ⟨R.set 1 (rl 0), K, []⟩ := ⟨by show (R.set 1 (rl 0)).length ≤ 3000; omega, by show K.length ≤ 3000; omega, by simp, hr32, fun q hq => by simp at hq, fun q hq => by simp at hq⟩
                have IS := Lib.hid (fun w1 (h : Below wX.heap.size wX w1) => ist_any ⟨R.set 1 (rl 0), K, []⟩ _ wX.heap.size w1 hsm (hv.below h) h.size)
                rw [show isT ⟨R.set 1 (rl 0), K, []⟩ = false from HB1.out h2] at IS
                have HW := Lib.hid (Below.refl wX.heap.size wX)
                have k0 : wX.cell? ⟨w.heap.size, 0, none⟩ = some (.slice (some ⟨g9, 0, none⟩) n c5) := HX3.out.cell 0
                have k1 : wX.cell? ⟨w.heap.size, 1, none⟩ = some (.slice A8 K.length c8) := HX3.out.cell 1
                have k2 : wX.cell? ⟨w.heap.size, 2, none⟩ = some (.slice none 0 0) := HX3.out.cell 2
                clear hv hsm
                go_wp2_with (first
                  | (go_at_call 13; refine Calls.mono (IS.out _ HW.out) ?_; rintro e wa ⟨rfl, hb⟩; clear IS; replace HW := Lib.hid (HW.out.trans (hb.mono HW.out.size)); clear hb)
                  | (go_at_call 15; refine Calls.mono (CK.out _) ?_; rintro e wb ⟨rfl, hb⟩; replace HW := Lib.hid (HW.out.trans (hb.mono HW.out.size)); clear hb))
                go_ret
                exact ⟨rfl, HE3.out.trans (HW.out.mono HE3.out.size)⟩
              · have y1 : ((y : Int) == 1) = false := by simp; omega
                have y2 : ((y : Int) == 2) = true := by simp; omega
                have y3 : ((y : Int) == 3) = false := by simp; omega
                have y4 : ((y : Int) == 4) = false := by simp; omega
                clear hy0
                have k1 : wc.cell? ⟨w.heap.size, 1, none⟩ = some (.slice A8 K.length c8) := HBX.out.cell 1
                go_upto_region 29 with (at_builtin; refine papp_one rfl (.tmp 112) (.tmp 114) rfl w8.heap.size _ K rfl HOP.out (([65] : L), ([65] : L)) rfl (by omega) HGB.out.size ?_; intro v2 w2 hp2 hb2; have HK2 := Lib.hid (show Blk w2 w.heap.size 26 _ from (hb2.block _ HNW.out).trans HBX.out); have HO2 := Lib.hid (show Own w2 (N + 1) (.slice A5 n c5) R from owns_heap HOf.out fun g hg => hb2.block g (HOR.out.lt g hg).2); have HE2 := Lib.hid (HEND.out.trans (hb2.mono (Nat.le_of_lt HNW.out))); have HP2 := Lib.hid hp2; obtain ⟨A6, c6, e6, _⟩ := hp2.slice; rw [show (K ++ [(([65] : L), ([65] : L))]).length = K.length + 1 by simp] at e6; subst e6; have f0 := HK2.out.frozen 1; have k9 : w2.cell? ⟨w.heap.size, 1, none⟩ = some (.slice A8 K.length c8) := HK2.out.cell 1; clear hb2 hp2 k1)
                have HX3 := Lib.hid (HK2.out.set 1 (.slice A6 (K.length + 1) c6))
                have HO3 := Lib.hid (own_put (j := 1) (u := (.slice A6 (K.length + 1) c6)) HO2.out (show w.heap.size < N + 1 by have := EN0.out; omega))
                have HP3 := Lib.hid (ownp_put (j := 1) (u := (.slice A6 (K.length + 1) c6)) HP2.out HNW.out)
                have HE3 := Lib.hid (below_put (j := 1) (u := (.slice A6 (K.length + 1) c6)) HE2.out (Nat.le_refl _))
                obtain ⟨wX, eX⟩ : ∃ wX, wX = w2.setCell ⟨w.heap.size, 1, none⟩ (.slice A6 (K.length + 1) c6) := ⟨_, rfl⟩
                rw [← eX] at HX3 HO3 HP3 HE3 ⊢
                clear eX k9 f0
                have hv : TpV wX wX.heap.size (.agg #[.slice A5 n c5, .slice A6 (K.length + 1) c6, .slice none 0 0]) ⟨R, K ++ [(([65] : L), ([65] : L))], []⟩ := ⟨_, _, _, rfl, (by have h := own_sl HO3.out; obtain ⟨A1, c1, e1, h2, h3⟩ := h; injection e1 with e1 e2 e3; subst e1; subst e3; exact ⟨_, _, by rw [HRL.out], by rw [HRL.out]; exact (by rw [HRL.out] at h2; exact h2), h3⟩), (by have h := HP3.out.slice; rw [show K.length + 1 = (K ++ [(([65] : L), ([65] : L))]).length by simp]; rw [show K.length + 1 = (K ++ [(([65] : L), ([65] : L))]).length by simp] at h; exact h), sla_nil _ _⟩
                have hsm : Sm ⟨R, K ++ [(([65] : L), ([65] : L))], []⟩ := ⟨by show R.length ≤ 3000; have := HRL.out; omega, by show (K ++ [(([65] : L), ([65] : L))]).length ≤ 3000; simp; omega, by simp, HR3.out, fun q hq => by simp at hq, fun q hq => by simp at hq⟩
                have IS := Lib.hid (fun w1 (h : Below wX.heap.size wX w1) => ist_any ⟨R, K ++ [(([65] : L), ([65] : L))], []⟩ _ wX.heap.size w1 hsm (hv.below h) h.size)
                rw [show isT ⟨R, K ++ [(([65] : L), ([65] : L))], []⟩ = false from HB2.out h2] at IS
                have HW := Lib.hid (Below.refl wX.heap.size wX)
                have k0 : wX.cell? ⟨w.heap.size, 0, none⟩ = some (.slice A5 n c5) := HX3.out.cell 0
                have k1 : wX.cell? ⟨w.heap.size, 1, none⟩ = some (.slice A6 (K.length + 1) c6) := HX3.out.cell 1
                have k2 : wX.cell? ⟨w.heap.size, 2, none⟩ = some (.slice none 0 0) := HX3.out.cell 2
                clear hv hsm
                go_wp2_with (first
                  | (go_at_call 13; refine Calls.mono (IS.out _ HW.out) ?_; rintro e wa ⟨rfl, hb⟩; clear IS; replace HW := Lib.hid (HW.out.trans (hb.mono HW.out.size)); clear hb)
                  | (go_at_call 15; refine Calls.mono (CK.out _) ?_; rintro e wb ⟨rfl, hb⟩; replace HW := Lib.hid (HW.out.trans (hb.mono HW.out.size)); clear hb))
                go_ret
                exact ⟨rfl, HE3.out.trans (HW.out.mono HE3.out.size)⟩
              · have y1 : ((y : Int) == 1) = false := by simp; omega
                have y2 : ((y : Int) == 2) = false := by simp; omega
                have y3 : ((y : Int) == 3) = true := by simp; omega
                have y4 : ((y : Int) == 4) = false := by simp; omega
                clear hy0
                have k1 : wc.cell? ⟨w.heap.size, 1, none⟩ = some (.slice A8 K.length c8) := HBX.out.cell 1
                go_upto_region 29 with (at_builtin; refine papp_one rfl (.tmp 120) (.tmp 122) rfl w8.heap.size _ K rfl HOP.out (([65] : L), ([90] : L)) rfl (by omega) HGB.out.size ?_; intro v2 w2 hp2 hb2; have HK2 := Lib.hid (show Blk w2 w.heap.size 26 _ from (hb2.block _ HNW.out).trans HBX.out); have HO2 := Lib.hid (show Own w2 (N + 1) (.slice A5 n c5) R from owns_heap HOf.out fun g hg => hb2.block g (HOR.out.lt g hg).2); have HE2 := Lib.hid (HEND.out.trans (hb2.mono (Nat.le_of_lt HNW.out))); have HP2 := Lib.hid hp2; obtain ⟨A6, c6, e6, _⟩ := hp2.slice; rw [show (K ++ [(([65] : L), ([90] : L))]).length = K.length + 1 by simp] at e6; subst e6; have f0 := HK2.out.frozen 1; have k9 : w2.cell? ⟨w.heap.size, 1, none⟩ = some (.slice A8 K.length c8) := HK2.out.cell 1; clear hb2 hp2 k1)
                have HX3 := Lib.hid (HK2.out.set 1 (.slice A6 (K.length + 1) c6))
                have HO3 := Lib.hid (own_put (j := 1) (u := (.slice A6 (K.length + 1) c6)) HO2.out (show w.heap.size < N + 1 by have := EN0.out; omega))
                have HP3 := Lib.hid (ownp_put (j := 1) (u := (.slice A6 (K.length + 1) c6)) HP2.out HNW.out)
                have HE3 := Lib.hid (below_put (j := 1) (u := (.slice A6 (K.length + 1) c6)) HE2.out (Nat.le_refl _))
                obtain ⟨wX, eX⟩ : ∃ wX, wX = w2.setCell ⟨w.heap.size, 1, none⟩ (.slice A6 (K.length + 1) c6) := ⟨_, rfl⟩
                rw [← eX] at HX3 HO3 HP3 HE3 ⊢
                clear eX k9 f0
                have hv : TpV wX wX.heap.size (.agg #[.slice A5 n c5, .slice A6 (K.length + 1) c6, .slice none 0 0]) ⟨R, K ++ [(([65] : L), ([90] : L))], []⟩ := ⟨_, _, _, rfl, (by have h := own_sl HO3.out; obtain ⟨A1, c1, e1, h2, h3⟩ := h; injection e1 with e1 e2 e3; subst e1; subst e3; exact ⟨_, _, by rw [HRL.out], by rw [HRL.out]; exact (by rw [HRL.out] at h2; exact h2), h3⟩), (by have h := HP3.out.slice; rw [show K.length + 1 = (K ++ [(([65] : L), ([90] : L))]).length by simp]; rw [show K.length + 1 = (K ++ [(([65] : L), ([90] : L))]).length by simp] at h; exact h), sla_nil _ _⟩
                have hsm : Sm ⟨R, K ++ [(([65] : L), ([90] : L))], []⟩ := ⟨by show R.length ≤ 3000; have := HRL.out; omega, by show (K ++ [(([65] : L), ([90] : L))]).length ≤ 3000; simp; omega, by simp, HR3.out, fun q hq => by simp at hq, fun q hq => by simp at hq⟩
                have IS := Lib.hid (fun w1 (h : Below wX.heap.size wX w1) => ist_any ⟨R, K ++ [(([65] : L), ([90] : L))], []⟩ _ wX.heap.size w1 hsm (hv.below h) h.size)
                rw [show isT ⟨R, K ++ [(([65] : L), ([90] : L))], []⟩ = false from HB3.out h2] at IS
                have HW := Lib.hid (Below.refl wX.heap.size wX)
                have k0 : wX.cell? ⟨w.heap.size, 0, none⟩ = some (.slice A5 n c5) := HX3.out.cell 0
                have k1 : wX.cell? ⟨w.heap.size, 1, none⟩ = some (.slice A6 (K.length + 1) c6) := HX3.out.cell 1
                have k2 : wX.cell? ⟨w.heap.size, 2, none⟩ = some (.slice none 0 0) := HX3.out.cell 2
                clear hv hsm
                go_wp2_with (first
                  | (go_at_call 13; refine Calls.mono (IS.out _ HW.out) ?_; rintro e wa ⟨rfl, hb⟩; clear IS; replace HW := Lib.hid (HW.out.trans (hb.mono HW.out.size)); clear hb)
                  | (go_at_call 15; refine Calls.mono (CK.out _) ?_; rintro e wb ⟨rfl, hb⟩; replace HW := Lib.hid (HW.out.trans (hb.mono HW.out.size)); clear hb))
                go_ret
                exact ⟨rfl, HE3.out.trans (HW.out.mono HE3.out.size)⟩
              · have y1 : ((y : Int) == 1) = false := by simp; omega
                have y2 : ((y : Int) == 2) = false := by simp; omega
                have y3 : ((y : Int) == 3) = false := by simp; omega
                have y4 : ((y : Int) == 4) = true := by simp; omega
                clear hy0
                have HLT4 := Lib.hid HBX.out.lt
                have k2 : wc.cell? ⟨w.heap.size, 2, none⟩ = some (.slice none 0 0) := HBX.out.cell 2
                go_upto_region 29 with (at_builtin; refine aapp_one (wc.heap.size + 1) (by simp) rfl (.tmp 128) (.tmp 131) rfl [65] [66] (.slice (some ⟨wc.heap.size, 0, none⟩) 1 1) rfl rfl rfl ?_; intro v2 w2 hp2 hb2; have hb1 : Below wc.heap.size wc w2 := ((Below.refl wc.heap.size wc).alloc (Nat.le_refl _) (.cells #[.string ⟨#[65]⟩] 9)).trans (hb2.mono (by omega)); have HK2 := Lib.hid (show Blk w2 w.heap.size 26 _ from HBX.out.below hb1); have HO2 := Lib.hid (HOf.out.below hb1); have HP2 := Lib.hid (HOP.out.below hb1); have HE2 := Lib.hid (HEND.out.trans (hb1.mono HEND.out.size)); have HA2 := Lib.hid (show Blk w2 wc.heap.size 9 #[.string ⟨#[65]⟩] from (hb2.block _ (Nat.lt_succ_self _)).trans (Blk.new wc 9 _)); have HQ2 := Lib.hid hp2; obtain ⟨A6, c6, e6⟩ := own_path hp2; subst e6; have f0 := HK2.out.frozen 2; have k9 : w2.cell? ⟨w.heap.size, 2, none⟩ = some (.slice none 0 0) := HK2.out.cell 2; clear hb2 hp2 hb1 k2)
                have HX3 := Lib.hid (HK2.out.set 2 (.slice A6 1 c6))
                have HO3 := Lib.hid (own_put (j := 2) (u := (.slice A6 1 c6)) HO2.out (show w.heap.size < N + 1 by have := EN0.out; omega))
                have HP3 := Lib.hid (ownp_put (j := 2) (u := (.slice A6 1 c6)) HP2.out HNW.out)
                have HE3 := Lib.hid (below_put (j := 2) (u := (.slice A6 1 c6)) HE2.out (Nat.le_refl _))
                have HQ3 := Lib.hid (owns_heap (w' := w2.setCell ⟨w.heap.size, 2, none⟩ (.slice A6 1 c6)) HQ2.out fun b hb => Below.heap_setCell w2 _ _ b (fun e => by have h1 := (World.ownsRow.lt HQ2.out b hb).1; have := HLT4.out; simp only at e; omega))
                have HA3 := Lib.hid (show Blk (w2.setCell ⟨w.heap.size, 2, none⟩ (.slice A6 1 c6)) wc.heap.size 9 #[.string ⟨#[65]⟩] from (Below.heap_setCell w2 _ _ wc.heap.size (fun e => by have := HLT4.out; simp only at e; omega)).trans HA2.out)
                obtain ⟨wX, eX⟩ : ∃ wX, wX = w2.setCell ⟨w.heap.size, 2, none⟩ (.slice A6 1 c6) := ⟨_, rfl⟩
                rw [← eX] at HX3 HO3 HP3 HE3 HQ3 HA3 ⊢
                clear eX k9 f0
                have hvia : SlV wX wX.heap.size (.slice (some ⟨wc.heap.size, 0, none⟩) 1 1) [[65]] := ⟨_, _, rfl, Nat.le_refl _, .inr ⟨wc.heap.size, 0, rfl, HA3.out.lt, fun i u hu => by rw [Nat.zero_add, HA3.out.cell]; show (strs [[65]]).toArray[i]? = some u; rw [List.getElem?_toArray]; exact hu⟩⟩
                have hv : TpV wX wX.heap.size (.agg #[.slice A5 n c5, .slice A8 K.length c8, .slice A6 1 c6]) ⟨R, K, [⟨[65], [66], [[65]]⟩]⟩ := ⟨_, _, _, rfl, (by have h := own_sl HO3.out; obtain ⟨A1, c1, e1, h2, h3⟩ := h; injection e1 with e1 e2 e3; subst e1; subst e3; exact ⟨_, _, by rw [HRL.out], by rw [HRL.out]; exact (by rw [HRL.out] at h2; exact h2), h3⟩), HP3.out.slice, sla_own HQ3.out hvia⟩
                have hsm : Sm ⟨R, K, [⟨[65], [66], [[65]]⟩]⟩ := ⟨by show R.length ≤ 3000; have := HRL.out; omega, by show K.length ≤ 3000; omega, by simp, HR3.out, fun q hq => by rw [List.mem_singleton] at hq; rw [hq]; decide, fun q hq x hx => by rw [List.mem_singleton] at hq; rw [hq] at hx; rw [List.mem_singleton] at hx; rw [hx]; decide⟩
                have IS := Lib.hid (fun w1 (h : Below wX.heap.size wX w1) => ist_any ⟨R, K, [⟨[65], [66], [[65]]⟩]⟩ _ wX.heap.size w1 hsm (hv.below h) h.size)
                rw [show isT ⟨R, K, [⟨[65], [66], [[65]]⟩]⟩ = false from HB4.out h2] at IS
                have HW := Lib.hid (Below.refl wX.heap.size wX)
                have k0 : wX.cell? ⟨w.heap.size, 0, none⟩ = some (.slice A5 n c5) := HX3.out.cell 0
                have k1 : wX.cell? ⟨w.heap.size, 1, none⟩ = some (.slice A8 K.length c8) := HX3.out.cell 1
                have k2 : wX.cell? ⟨w.heap.size, 2, none⟩ = some (.slice A6 1 c6) := HX3.out.cell 2
                clear hv hsm
                go_wp2_with (first
                  | (go_at_call 13; refine Calls.mono (IS.out _ HW.out) ?_; rintro e wa ⟨rfl, hb⟩; clear IS; replace HW := Lib.hid (HW.out.trans (hb.mono HW.out.size)); clear hb)
                  | (go_at_call 15; refine Calls.mono (CK.out _) ?_; rintro e wb ⟨rfl, hb⟩; replace HW := Lib.hid (HW.out.trans (hb.mono HW.out.size)); clear hb))
                go_ret
                exact ⟨rfl, HE3.out.trans (HW.out.mono HE3.out.size)⟩
            · have d2 : decide (2 ≤ (n : Int)) = false := decide_eq_false (by omega)
              have hv : TpV wc wc.heap.size (.agg #[.slice A5 n c5, .slice A8 K.length c8, .slice none 0 0]) ⟨R, K, []⟩ := ⟨_, _, _, rfl, (by have h := own_sl HOf.out; obtain ⟨A1, c1, e1, h2, h3⟩ := h; injection e1 with e1 e2 e3; subst e1; subst e3; exact ⟨_, _, by rw [HRL.out], by rw [HRL.out]; exact (by rw [HRL.out] at h2; exact h2), h3⟩), HOP.out.slice, sla_nil _ _⟩
              have hsm : Sm ⟨R, K, []⟩ := ⟨by show R.length ≤ 3000; have := HRL.out; omega, by show K.length ≤ 3000; omega, by simp, HR3.out, fun q hq => by simp at hq, fun q hq => by simp at hq⟩
              have IS := Lib.hid (fun w1 (h : Below wc.heap.size wc w1) => ist_any ⟨R, K, []⟩ _ wc.heap.size w1 hsm (hv.below h) h.size)
              rw [show isT ⟨R, K, []⟩ = ok from HB00.out] at IS
              have HW := Lib.hid (Below.refl wc.heap.size wc)
              have k0 : wc.cell? ⟨w.heap.size, 0, none⟩ = some (.slice A5 n c5) := HBX.out.cell 0
              have k1 : wc.cell? ⟨w.heap.size, 1, none⟩ = some (.slice A8 K.length c8) := HBX.out.cell 1
              have k2 : wc.cell? ⟨w.heap.size, 2, none⟩ = some (.slice none 0 0) := HBX.out.cell 2
              clear hv hsm
              go_wp2_with (first
                | (go_at_call 13; refine Calls.mono (IS.out _ HW.out) ?_; rintro e wa ⟨rfl, hb⟩; clear IS; replace HW := Lib.hid (HW.out.trans (hb.mono HW.out.size)); clear hb)
                | (go_at_call 15; refine Calls.mono (CK.out _) ?_; rintro e wb ⟨rfl, hb⟩; replace HW := Lib.hid (HW.out.trans (hb.mono HW.out.size)); clear hb))
              go_ret
              exact ⟨rfl, HEND.out.trans (HW.out.mono HEND.out.size)⟩
theorem bounds_out (a b c : Int) (w : World) (h : a < 0 ∨ 9 < a ∨ b < 0 ∨ 40 < b ∨ c < 0 ∨ 4 < c) :
    Calls Try.prog 10 #[.int .i64 a, .int .i64 b, .int .i64 c] w fun e w' => e = .returned (.bool true) ∧ Below w.heap.size w w' := by
  have HB := Lib.hid (Below.refl w.heap.size w)
  by_cases h0 : a < 0
  · have d0 : decide (a < 0) = true := decide_eq_true h0
    clear h
    go_enter Try.func10, Try.ntmps10
    go_wp2
    go_ret
    exact ⟨rfl, HB.out⟩
  · have d0 : decide (a < 0) = false := decide_eq_false h0
    by_cases h1 : 9 < a
    · have d1 : decide (9 < a) = true := decide_eq_true h1
      clear h
      go_enter Try.func10, Try.ntmps10
      go_wp2
      go_ret
      exact ⟨rfl, HB.out⟩
    · have d1 : decide (9 < a) = false := decide_eq_false h1
      by_cases h2 : b < 0
      · have d2 : decide (b < 0) = true := decide_eq_true h2
        clear h
        go_enter Try.func10, Try.ntmps10
        go_wp2
        go_ret
        exact ⟨rfl, HB.out⟩
      · have d2 : decide (b < 0) = false := decide_eq_false h2
        by_cases h3 : 40 < b
        · have d3 : decide (40 < b) = true := decide_eq_true h3
          clear h
          go_enter Try.func10, Try.ntmps10
          go_wp2
          go_ret
          exact ⟨rfl, HB.out⟩
        · have d3 : decide (40 < b) = false := decide_eq_false h3
          by_cases h4 : c < 0
          · have d4 : decide (c < 0) = true := decide_eq_true h4
            clear h
            go_enter Try.func10, Try.ntmps10
            go_wp2
            go_ret
            exact ⟨rfl, HB.out⟩
          · have d4 : decide (c < 0) = false := decide_eq_false h4
            by_cases h5 : 4 < c
            · have d5 : decide (4 < c) = true := decide_eq_true h5
              clear h
              go_enter Try.func10, Try.ntmps10
              go_wp2
              go_ret
              exact ⟨rfl, HB.out⟩
            · have d5 : decide (4 < c) = false := decide_eq_false h5
              omega
theorem bounds_ (a b c : Int) (w : World) (_ : (Lit.int .i64 a).wf = true) (_ : (Lit.int .i64 b).wf = true) (_ : (Lit.int .i64 c).wf = true) :
    Calls Try.prog 10 #[.int .i64 a, .int .i64 b, .int .i64 c] w fun e w' => e = .returned (.bool true) ∧ Below w.heap.size w w' := by
  by_cases h : a < 0 ∨ 9 < a ∨ b < 0 ∨ 40 < b ∨ c < 0 ∨ 4 < c
  · exact bounds_out a b c w h
  · obtain ⟨n, rfl⟩ := Int.eq_ofNat_of_zero_le (show 0 ≤ a by omega)
    obtain ⟨m, rfl⟩ := Int.eq_ofNat_of_zero_le (show 0 ≤ b by omega)
    obtain ⟨y, rfl⟩ := Int.eq_ofNat_of_zero_le (show 0 ≤ c by omega)
    exact bounds_in n m y w (by omega) (by omega) (by omega)
end Go.Proofs.Ytnalnhplcchdoaa.RtW
