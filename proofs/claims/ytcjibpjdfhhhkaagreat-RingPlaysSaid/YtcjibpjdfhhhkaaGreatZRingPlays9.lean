import Derived.Deep.RegionHeld3
import Derived.Deep.LoopGhost
import Derived.DeepKeys
import Derived.Laws.StructEq
import Derived.Test.YtcjibpjdfhhhkaaGreatZRingPlays1
import Derived.Test.YtcjibpjdfhhhkaaGreatZRingPlays2
import Derived.Test.YtcjibpjdfhhhkaaGreatZRingPlays3
import Derived.Test.YtcjibpjdfhhhkaaGreatZRingPlays4
import Derived.Test.YtcjibpjdfhhhkaaGreatZRingPlays5
import Derived.Test.YtcjibpjdfhhhkaaGreatZRingPlays6
import Derived.Test.YtcjibpjdfhhhkaaGreatZRingPlays7
import Derived.Test.YtcjibpjdfhhhkaaGreatZRingPlays8
section
set_option linter.unusedVariables false
set_option linter.unusedSimpArgs false
namespace Go.Proofs.YtcjibpjdfhhhkaaGreat.Rg
open Go.RowKit Go.Proofs.YtcjibpjdfhhhkaaGreat.Mem Go.Proofs.YtcjibpjdfhhhkaaGreat.Se

theorem isprinc (p : Pr) (w : World) (h1 : p.1.length ≤ 1000000000) (h2 : p.2.length ≤ 1000000000) : Calls Tryz.prog 20 #[prV p] w fun e w' => e = .returned (.bool (prB p)) ∧ Below w.heap.size w w' := Nm.isprinc_any p.1 p.2 w h1 h2
theorem entC_num (es : List Ent) (o : Option Nat) : (entC es o)[2]? = some (.int .i64 (numO (its es) o : Int)) := by
  cases o with
  | none => rfl
  | some j =>
    rw [entC_some]
    cases h : es[j]? with
    | none => simp [numO, its, h]; rfl
    | some e =>
      have : numO (its es) (some j) = e.it.n := by simp [numO, its, h]
      rw [this]; rfl
theorem field_num (cs : Array Value) (z : Int) (h : cs[2]? = some (.int .i64 z)) (w : World) : (Instr.field 69 (.agg cs) 1).run Tryz.prog w = .ok (.int .i64 z) w := by
  unfold Instr.field part asAgg
  go_simp
theorem chg_row {w w' : World} {row : Option Nat} (h : w.grownBy w' row) : Chg (fun q => row = some q) w w' := ⟨h.os, h.tape, h.output, h.size, fun i hi hn => h.block i hi (fun e => hn e.symm)⟩
theorem add_fin {w W5 w6 : World} {B r b : Nat} {v v6 : Value} {es : List Ent} {it : It} (h : Ring w B r v es) (hB : B ≤ w.heap.size) (hb : Below w.heap.size w W5) (h5 : Ring W5 B r v es) (hx : Box W5 b it.k none 0 0 0) (hbl : w.heap.size ≤ b)
    (ho : w6.ownsRow B 69 36 v6 (es ++ [(⟨it, b, none, 0, 0, 0⟩ : Ent)]).length ((es ++ [(⟨it, b, none, 0, 0, 0⟩ : Ent)]).flatMap eC)) (hg : W5.grownBy w6 v.ownBlock) (hv : v6.ownBlock = v.ownBlock ∨ v6.ownBlock = some W5.heap.size) (hbs : True) :
    Ring (w6.setCell ⟨r, 0, none⟩ v6) B r v6 (es ++ [⟨it, b, none, 0, 0, 0⟩]) ∧ Chg (fun q => q = r ∨ v.ownBlock = some q) w (w6.setCell ⟨r, 0, none⟩ v6) ∧ (∀ q, RO r v6 (es ++ [⟨it, b, none, 0, 0, 0⟩]) q → RO r v es q ∨ w.heap.size ≤ q) := by
  have hrl := h.lt
  have hlt := hx.lt
  have hne : r ≠ b := by omega
  have hvr : v6.ownBlock ≠ some r := fun x => by
    rcases hv with g | g
    · rw [g] at x; exact h.vr x
    · rw [g] at x; injection x with x; have := h5.lt; omega
  have hset : Chg (fun q => q = r) w6 (w6.setCell ⟨r, 0, none⟩ v6) := Chg.set (p := ⟨r, 0, none⟩) (Chg.refl (fun q => q = r) w6) (.inl rfl) v6
  have hc : Chg (fun q => q = r ∨ v.ownBlock = some q) w (w6.setCell ⟨r, 0, none⟩ v6) :=
    (((Chg.of_below hb).trans (chg_row hg) (fun q _ x => .inr x)).trans hset (fun q _ x => .inl x) : Chg (fun q => q = r ∨ v.ownBlock = some q) w _)
  have hnew : ∀ q, RO r v6 (es ++ [⟨it, b, none, 0, 0, 0⟩]) q → RO r v es q ∨ w.heap.size ≤ q := fun q hq => by
    rcases hq with hq | hq | ⟨i, e, he, hq⟩
    · exact .inl (.inl hq)
    · rcases hv with g | g
      · exact .inl (.inr (.inl (g ▸ hq)))
      · rw [g] at hq; injection hq with hq; exact .inr (by have := hb.size; omega)
    · by_cases hi : i < es.length
      · rw [List.getElem?_append_left hi] at he
        exact .inl (.inr (.inr ⟨i, e, he, hq⟩))
      · rw [List.getElem?_append_right (by omega)] at he
        have e1 := (List.getElem?_eq_some_iff.1 he).1
        have e2 : i - es.length = 0 := by simp at e1; omega
        rw [e2] at he
        injection he with he
        subst he
        rcases hq with hq | hq
        · exact .inr (by rw [hq]; exact hbl)
        · cases hq
  refine ⟨h.snoc hc ?_ ?_ ?_ ?_ hbl rfl hB, hc, hnew⟩
  · exact (h5.blk.grown hg h5.vr).set 0 v6
  · have := own_chg hset ho (fun q hq x => hvr (x ▸ hq))
    rw [List.length_append, List.length_singleton, List.flatMap_append, List.flatMap_singleton] at this
    exact this
  · rcases hv with g | g
    · exact .inl g
    · exact .inr ⟨_, g, hb.size, by show W5.heap.size ≠ b; omega⟩
  · have h6 : Box w6 b it.k none 0 0 0 := hx.chg (chg_row hg) (fun q hq x => by
      rcases hq with hq | hq
      · subst hq; have := (World.ownsRow.lt h.row q x).2; omega
      · cases hq)
    exact h6.chg hset (fun q hq x => by
      rcases hq with hq | hq
      · exact hne (x ▸ hq)
      · cases hq)
theorem ent_all : (Tryz.prog.info? 69).map (fun i => (i.zero, i.size, i.bytes)) = some (some (.agg zeroE), 36, 80) := by kernel_rfl
section
variable {P : Program} {w w' : World} {a : Act} {dst : Option Tmp} {ty : TypeId} {pos : String} {after : Array _} {guard : Option (Nat × Bool)}
theorem exec_build {t : TypeId} {parts : Array (Nat × Operand)} {vs : List (Nat × Value)} {cells : Array Value} (hv : (parts.map fun x => (x.1, a.eval x.2)).toList = vs) (h : P.built t vs = some cells) :
    (execOp a.eval ⟨dst, .build t parts, ty, pos, after, guard⟩).run P w = .ok (.value (.agg cells)) w := by
  have := run_build (P := P) w t (parts.map fun x => (x.1, a.eval x.2)) cells (by rw [hv]; exact h)
  simp only [execOp, Sem.run_bind, this, Result.andThen_ok, Sem.run_pure]
theorem exec_slice {t : TypeId} {x : Operand} {cs : Array Value} {s : Value} (hx : a.eval x = .agg cs) (h : (Instr.buildSlice t 1 #[(0, .agg cs)]).run P w = .ok s w') :
    (execOp a.eval ⟨dst, .buildSlice t 1 #[(0, x)], ty, pos, after, guard⟩).run P w = .ok (.value s) w' := by
  simp only [execOp, Sem.run_bind, List.map_toArray, List.map_cons, List.map_nil, hx, h, Result.andThen_ok, Sem.run_pure]
theorem exec_app {t : TypeId} {x y : Operand} {u v s : Value} (hx : a.eval x = u) (hy : a.eval y = v) (h : (Builtin.append_ #[t, t] ty #[u, v]).run P w = .ok s w') :
    (execOp a.eval ⟨dst, .call { callee := .builtin .append, args := #[x, y], argTypes := #[t, t] }, ty, pos, after, guard⟩).run P w = .ok (.value s) w' := by
  simp only [execOp, resolve, invoke, builtin, Sem.run_bind, Sem.run_pure, Result.andThen_ok, List.map_toArray, List.map_cons, List.map_nil, hx, hy, h]
end
theorem built_ent (p : Pr) (n b : Nat) (k : Nat → UInt8) : Tryz.prog.built 69 [(0, prV p), (1, .int .i64 (n : Int)), (2, .agg (key32 k)), (3, .pointer (some ⟨b, 0, none⟩))] = some (eA ⟨⟨p, n, k⟩, b, none, 0, 0, 0⟩) := by
  kernel_rfl
set_option maxRecDepth 100000 in
set_option maxHeartbeats 3200000 in
theorem add_ok (B r : Nat) (v : Value) (es : List Ent) (p : Pr) (k : Nat → UInt8) (w : World) (h : Ring w B r v es) (hB : B ≤ w.heap.size) (h1 : p.1.length ≤ 1000000000) (h2 : p.2.length ≤ 1000000000) (hp : prB p = true) (hl : es.length < 40) (hn : lastN (its es) p < 255) :
    Calls Tryz.prog 7 #[.pointer (some ⟨r, 0, none⟩), prV p, .agg (key32 k)] w fun e w' => e = .returned (.tuple #[.int .i64 ((lastN (its es) p : Int) + 1), .int .i64 0]) ∧ ∃ v' b, w.heap.size ≤ b ∧ Ring w' B r v' (es ++ [⟨⟨p, lastN (its es) p + 1, k⟩, b, none, 0, 0, 0⟩]) ∧ Chg (fun q => q = r ∨ v.ownBlock = some q) w w' ∧ (∀ q, RO r v' (es ++ [⟨⟨p, lastN (its es) p + 1, k⟩, b, none, 0, 0, 0⟩]) q → RO r v es q ∨ w.heap.size ≤ q) := by
  obtain ⟨A, c, rfl, hc, hm, hr⟩ := h.num
  obtain ⟨n, en⟩ : ∃ n, n = es.length := ⟨_, rfl⟩
  have EN := Lib.hid en
  obtain ⟨z, ez⟩ : ∃ z, z = lastN (its es) p := ⟨_, rfl⟩
  have EZ := Lib.hid ez
  have hq := entC_num es (lastI (its es) p)
  rw [show numO (its es) (lastI (its es) p) = z from ez.symm] at hq
  have CL := Lib.hid (fun (w1 : World) (h : Ring w1 B r (.slice A es.length c) es) => last_any B r (.slice A es.length c) es p w1 h (by omega))
  have CP := Lib.hid (fun w1 => isprinc p w1 h1 h2)
  have CC := Lib.hid (fun w1 => clone_pr p w1 h1 h2)
  have CN := Lib.hid (fun w1 => new_any k w1)
  rw [hp] at CP
  obtain ⟨kv, ekv⟩ : ∃ kv, kv = key32 k := ⟨_, rfl⟩
  obtain ⟨cs, ecs⟩ : ∃ cs, cs = entC es (lastI (its es) p) := ⟨_, rfl⟩
  rw [← ecs] at CL hq
  rw [← ekv] at CN ⊢
  rw [← ez] at hn ⊢
  rw [← en] at hl
  have hrl := h.lt
  obtain ⟨W, eW⟩ : ∃ W, W = (w.alloc (.cells #[.string ⟨p.1.toArray⟩, .string ⟨p.2.toArray⟩] 31)).alloc (.cells kv 33) := ⟨_, rfl⟩
  have hb : Below w.heap.size w W := eW ▸ ((Below.refl _ _).alloc (Nat.le_refl _) _).alloc (by simp) _
  have HP := Lib.hid (show Blk W w.heap.size 31 #[.string ⟨p.1.toArray⟩, .string ⟨p.2.toArray⟩] from eW ▸ (Blk.new w _ _).alloc _)
  have HK := Lib.hid (show Blk W (w.heap.size + 1) 33 kv by have := Blk.new (w.alloc (.cells #[.string ⟨p.1.toArray⟩, .string ⟨p.2.toArray⟩] 31)) 33 kv; simp only [World.size_alloc] at this; exact eW ▸ this)
  have HB := Lib.hid hb
  have HRG := Lib.hid (h.below hb)
  have HW := Lib.hid h
  have kp0 : W.cell? ⟨w.heap.size, 0, none⟩ = some (.string ⟨p.1.toArray⟩) := HP.out.cell 0
  have kp1 : W.cell? ⟨w.heap.size, 1, none⟩ = some (.string ⟨p.2.toArray⟩) := HP.out.cell 1
  have hfl := field_num cs _ hq
  have hwr : IntKind.i64.wrap ((z : Int) + 1) = (z : Int) + 1 := by rw [IntKind.wrap_i64]; omega
  have EK := Lib.hid ekv
  have HKI := Lib.hid (show (Tryz.prog.info? 33).map (·.size) = some kv.size by rw [ekv]; exact info32 k)
  obtain ⟨i0, hi0, hz0, hs0, hb0⟩ := info_parts ent_all
  have KI1 := Lib.hid hi0; have KI2 := Lib.hid hz0; have KI3 := Lib.hid hs0; have KI4 := Lib.hid hb0
  have SL1 := Lib.hid (fun (w1 : World) (b : Nat) => Wh.run_build_one (P := Tryz.prog) w1 64 69 (eA ⟨⟨p, z + 1, k⟩, b, none, 0, 0, 0⟩) i0 _ Tryz.underlying64 hi0 hz0 (by rw [hs0, eA_size]) (by rw [eA_size]; omega) (by rw [eA_size]; omega))
  have HBB := Lib.hid hB
  clear hi0 hz0 hs0 hb0 hB
  have HN := Lib.hid hn
  have t1 : decide (40 ≤ (n : Int)) = false := by simp; omega
  have t2 : decide (255 ≤ (z : Int)) = false := by simp; omega
  have HL := Lib.hid hl
  clear hb h hr h1 h2 hp hn hl ekv ecs ez en hc hm hq
  go_enter Tryz.func7, Tryz.ntmps7
  go_upto_region 1 with fail
  rw [← eW]
  clear eW
  go_wp2_with (first
    | (go_at_call 20; refine Calls.mono (CP.out _) ?_; rintro e w1 ⟨rfl, hb⟩; replace HB := Lib.hid (HB.out.trans (hb.mono HB.out.size)); replace HRG := Lib.hid (HRG.out.below hb); replace HP := Lib.hid (HP.out.below hb); replace HK := Lib.hid (HK.out.below hb); have kp0 : w1.cell? ⟨w.heap.size, 0, none⟩ = some (.string ⟨p.1.toArray⟩) := HP.out.cell 0; have kp1 : w1.cell? ⟨w.heap.size, 1, none⟩ = some (.string ⟨p.2.toArray⟩) := HP.out.cell 1; have kr : w1.cell? ⟨r, 0, none⟩ = some (.slice A n c) := EN.out ▸ HRG.out.blk.cell 0; clear hb)
    | (go_at_call 21; refine Calls.mono (CL.out _ HRG.out) ?_; rintro e w2 ⟨rfl, hb⟩; clear kp0 kp1 kr; replace HB := Lib.hid (HB.out.trans (hb.mono HB.out.size)); replace HRG := Lib.hid (HRG.out.below hb); replace HP := Lib.hid (HP.out.below hb); replace HK := Lib.hid (HK.out.below hb); have kp0 : w2.cell? ⟨w.heap.size, 0, none⟩ = some (.string ⟨p.1.toArray⟩) := HP.out.cell 0; have kp1 : w2.cell? ⟨w.heap.size, 1, none⟩ = some (.string ⟨p.2.toArray⟩) := HP.out.cell 1; have kr : w2.cell? ⟨r, 0, none⟩ = some (.slice A n c) := EN.out ▸ HRG.out.blk.cell 0; clear hb)
    | fail)
  replace HP := Lib.hid (show Blk w2.drew _ _ _ from HP.out.drewN 1)
  replace HK := Lib.hid (show Blk w2.drew _ _ _ from HK.out.drewN 1)
  replace HRG := Lib.hid HRG.out.drew
  replace HB := Lib.hid (show Below w.heap.size w w2.drew from below_drewN HB.out 1)
  clear kp0 kp1 kr
  refine Reg.any_begin (fun w' => Blk w' w.heap.size 31 #[.string ⟨p.1.toArray⟩, .string ⟨p.2.toArray⟩] ∧ Blk w' (w.heap.size + 1) 33 kv) 18 rfl (by kernel_rfl) ⟨HP.out, HK.out⟩ ?_
  obtain ⟨W2, eW2⟩ : ∃ W2, W2 = w2.drew := ⟨_, rfl⟩
  rw [← eW2] at HP HK HRG HB ⊢
  clear eW2
  refine Reg.any_take 0 (v := ?vu10) rfl (by kernel_rfl) (by kernel_rfl) (by kernel_rfl) (fun _ _ _ h => h) ⟨HP.out, HK.out⟩ (by rfl) (fun w' hS => ?hu10) ?ru10
  case hu10 => go_simp; rfl
  simp only [Act.put, List.setIfInBounds_toArray, List.set_cons_zero, List.set_cons_succ]
  refine Reg.any_take 1 (v := ?vu21) rfl (by kernel_rfl) (by kernel_rfl) (by kernel_rfl) (fun _ _ _ h => h) ⟨HP.out, HK.out⟩ (by rfl) (fun w' hS => ?hu21) ?ru21
  case hu21 => go_simp; rfl
  simp only [Act.put, List.setIfInBounds_toArray, List.set_cons_zero, List.set_cons_succ]
  refine Reg.any_take 2 (v := ?vu32) rfl (by kernel_rfl) (by kernel_rfl) (by kernel_rfl) (fun _ _ _ h => h) ⟨HP.out, HK.out⟩ (by rfl) (fun w' hS => ?hu32) ?ru32
  case hu32 => go_simp; rfl
  simp only [Act.put, List.setIfInBounds_toArray, List.set_cons_zero, List.set_cons_succ]
  refine Reg.any_take 3 (v := ?vu43) rfl (by kernel_rfl) (by kernel_rfl) (by kernel_rfl) (fun _ _ _ h => h) ⟨HP.out, HK.out⟩ (by rfl) (fun w' hS => ?hu43) ?ru43
  case hu43 => go_simp; rfl
  simp only [Act.put, List.setIfInBounds_toArray, List.set_cons_zero, List.set_cons_succ]
  refine Reg.any_take 5 (v := .agg #[.string ⟨p.1.toArray⟩, .string ⟨p.2.toArray⟩]) rfl (by kernel_rfl) (by kernel_rfl) (by kernel_rfl) (fun _ _ _ h => h) ⟨HP.out, HK.out⟩ (by rfl) (fun w' hS => ?hu55) ?ru55
  case hu55 => exact Wh.exec_load (.tmp 4) rfl rfl hS.1 Tryz.underlying31 rfl pr_info
  simp only [Act.put, List.setIfInBounds_toArray, List.set_cons_zero, List.set_cons_succ]
  refine Reg.any_take 7 (v := ?vu67) rfl (by kernel_rfl) (by kernel_rfl) (by kernel_rfl) (fun _ _ _ h => h) ⟨HP.out, HK.out⟩ (by rfl) (fun w' hS => ?hu67) ?ru67
  case hu67 => go_simp; rfl
  simp only [Act.put, List.setIfInBounds_toArray, List.set_cons_zero, List.set_cons_succ]
  refine Reg.any_take 8 (v := .int .i64 ((z : Int) + 1)) rfl (by kernel_rfl) (by kernel_rfl) (by kernel_rfl) (fun _ _ _ h => h) ⟨HP.out, HK.out⟩ (by rfl) (fun w' hS => ?hu78) ?ru78
  case hu78 => go_simp
  simp only [Act.put, List.setIfInBounds_toArray, List.set_cons_zero, List.set_cons_succ]
  refine Reg.any_take 9 (v := .agg kv) rfl (by kernel_rfl) (by kernel_rfl) (by kernel_rfl) (fun _ _ _ h => h) ⟨HP.out, HK.out⟩ (by rfl) (fun w' hS => ?hu89) ?ru89
  case hu89 => exact Wh.exec_load (.tmp 5) rfl rfl hS.2 Tryz.underlying33 rfl HKI.out
  simp only [Act.put, List.setIfInBounds_toArray, List.set_cons_zero, List.set_cons_succ]
  refine Reg.any_take 10 (v := .agg kv) rfl (by kernel_rfl) (by kernel_rfl) (by kernel_rfl) (fun _ _ _ h => h) ⟨HP.out, HK.out⟩ (by rfl) (fun w' hS => ?hu910) ?ru910
  case hu910 => exact Wh.exec_load (.tmp 5) rfl rfl hS.2 Tryz.underlying33 rfl HKI.out
  simp only [Act.put, List.setIfInBounds_toArray, List.set_cons_zero, List.set_cons_succ]
  refine Reg.both_all [4, 6] (by kernel_rfl) (by simp) ?_
  intro j0 hj0
  have hj0 : j0 = 4 ∨ j0 = 6 := by simpa using hj0
  rcases hj0 with rfl | rfl
  · left
    have kr : W2.cell? ⟨r, 0, none⟩ = some (.slice A n c) := EN.out ▸ HRG.out.blk.cell 0
    refine ⟨_, _, _, _, _, _, _, _, rfl, by rfl, by (go_simp; rfl), ⟨HP.out, HK.out⟩, ?_⟩
    simp only [Act.put, List.setIfInBounds_toArray, List.set_cons_zero, List.set_cons_succ]
    clear kr
    refine Reg.both_all [6] (by kernel_rfl) (by simp) ?_
    intro j0 hj0
    obtain rfl : j0 = 6 := by simpa using hj0
    clear hj0
    right
    refine ⟨_, _, _, _, _, _, 22, #[prV p], rfl, by rfl, by go_simp, ?_⟩
    refine (CC.out _).mono ?_
    rintro e w3 ⟨rfl, hb⟩
    replace HB := Lib.hid (HB.out.trans (hb.mono HB.out.size)); replace HRG := Lib.hid (HRG.out.below hb); replace HP := Lib.hid (HP.out.below hb); replace HK := Lib.hid (HK.out.below hb)
    clear hb
    refine ⟨_, rfl, ⟨HP.out, HK.out⟩, ?_⟩
    simp only [Act.put, List.setIfInBounds_toArray, List.set_cons_zero, List.set_cons_succ]
    refine Reg.both_all [11] (by kernel_rfl) (by simp) ?_
    intro j0 hj0
    obtain rfl : j0 = 11 := by simpa using hj0
    clear hj0
    right
    refine ⟨_, _, _, _, _, _, 23, #[.agg kv], rfl, by rfl, by go_simp, ?_⟩
    refine (CN.out _).mono ?_
    rintro e w4 ⟨b, rfl, hbl, hbx, hb⟩
    have HBL := Lib.hid (Nat.le_trans HB.out.size hbl)
    replace HB := Lib.hid (HB.out.trans (hb.mono HB.out.size)); replace HRG := Lib.hid (HRG.out.below hb); replace HP := Lib.hid (HP.out.below hb); replace HK := Lib.hid (HK.out.below hb)
    have HBX := Lib.hid hbx
    clear hb hbl hbx
    refine ⟨_, rfl, ⟨HP.out, HK.out⟩, ?_⟩
    simp only [Act.put, List.setIfInBounds_toArray, List.set_cons_zero, List.set_cons_succ]
    refine Reg.any_take 12 (v := .agg (eA ⟨⟨p, z + 1, k⟩, b, none, 0, 0, 0⟩)) rfl (by kernel_rfl) (by kernel_rfl) (by kernel_rfl) (fun _ _ _ h => h) ⟨HP.out, HK.out⟩ (by rfl) (fun w' hS => ?hu1012) ?ru1012
    case hu1012 => exact exec_build (by go_simp) (EK.out ▸ built_ent p (z + 1) b k)
    simp only [Act.put, List.setIfInBounds_toArray, List.set_cons_zero, List.set_cons_succ]
    refine Reg.both_all [13] (by kernel_rfl) (by simp) ?_
    intro j0 hj0
    obtain rfl : j0 = 13 := by simpa using hj0
    clear hj0
    left
    have hb : Below w4.heap.size w4 (w4.alloc (.cells (eA ⟨⟨p, z + 1, k⟩, b, none, 0, 0, 0⟩) 69)) := (Below.refl _ _).alloc (Nat.le_refl _) _
    refine ⟨_, _, _, _, _, _, .slice (some ⟨w4.heap.size, 0, none⟩) 1 1, (w4.alloc (.cells (eA ⟨⟨p, z + 1, k⟩, b, none, 0, 0, 0⟩) 69)), rfl, by rfl, exec_slice rfl (SL1.out _ _), ⟨HP.out.below hb, HK.out.below hb⟩, ?_⟩
    simp only [Act.put, List.setIfInBounds_toArray, List.set_cons_zero, List.set_cons_succ]
    have HNB := Lib.hid (Blk.new w4 69 (eA ⟨⟨p, z + 1, k⟩, b, none, 0, 0, 0⟩))
    have HBX5 := Lib.hid (HBX.out.below hb)
    have HBL5 := Lib.hid HBX.out.lt
    replace HB := Lib.hid (HB.out.trans (hb.mono HB.out.size)); replace HRG := Lib.hid (HRG.out.below hb); replace HP := Lib.hid (HP.out.below hb); replace HK := Lib.hid (HK.out.below hb)
    clear hb
    obtain ⟨W5, eW5⟩ : ∃ W5, W5 = (w4.alloc (.cells (eA ⟨⟨p, z + 1, k⟩, b, none, 0, 0, 0⟩) 69)) := ⟨_, rfl⟩
    have HS5 := Lib.hid (show w4.heap.size < W5.heap.size by rw [eW5]; simp)
    rw [← eW5] at HNB HBX5 HB HRG HP HK ⊢
    clear eW5
    refine Reg.both_all [14] (by kernel_rfl) (by simp) ?_
    intro j0 hj0
    obtain rfl : j0 = 14 := by simpa using hj0
    clear hj0
    left
    obtain ⟨v6, w6, hrun, ho6, hg6, hv6⟩ := Wh.app_run (P := Tryz.prog) eC 36 80 eC_length eC_one W5 64 64 69 i0 _ Tryz.underlying64 KI1.out KI2.out KI3.out KI4.out (by rfl) (by omega) B _ es HRG.out.row ⟨⟨p, z + 1, k⟩, b, none, 0, 0, 0⟩ w4.heap.size HNB.out (by have := EN.out; have := HL.out; omega) (by omega) (Nat.le_trans HBB.out HB.out.size)
    rw [← EN.out] at hrun
    replace HP := Lib.hid (HP.out.grown hg6 (fun x => by have := (World.ownsRow.lt HW.out.row _ x).2; omega))
    replace HK := Lib.hid (HK.out.grown hg6 (fun x => by have := (World.ownsRow.lt HW.out.row _ x).2; omega))
    refine ⟨_, _, _, _, _, _, v6, w6, rfl, by rfl, exec_app rfl rfl hrun, ⟨HP.out, HK.out⟩, ?_⟩
    simp only [Act.put, List.setIfInBounds_toArray, List.set_cons_zero, List.set_cons_succ]
    refine Reg.any_take 15 (v := ?vu1115) rfl (by kernel_rfl) (by kernel_rfl) (by kernel_rfl) (fun _ _ _ h => h) ⟨HP.out, HK.out⟩ (by rfl) (fun w' hS => ?hu1115) ?ru1115
    case hu1115 => go_simp; rfl
    simp only [Act.put, List.setIfInBounds_toArray, List.set_cons_zero, List.set_cons_succ]
    refine Reg.any_take 16 (v := ?vu1216) rfl (by kernel_rfl) (by kernel_rfl) (by kernel_rfl) (fun _ _ _ h => h) ⟨HP.out, HK.out⟩ (by rfl) (fun w' hS => ?hu1216) ?ru1216
    case hu1216 => go_simp; rfl
    simp only [Act.put, List.setIfInBounds_toArray, List.set_cons_zero, List.set_cons_succ]
    have hfin := fun (x : True) => add_fin HW.out HBB.out HB.out HRG.out (it := ⟨p, z + 1, k⟩) HBX5.out HBL.out ho6 hg6 hv6 x
    have hr6 := HRG.out.blk.grown hg6 HRG.out.vr
    obtain ⟨A7, c7, e7, _⟩ := own_rdr eC_length ho6
    obtain ⟨m7, em7⟩ : ∃ m7, m7 = (es ++ [(⟨⟨p, z + 1, k⟩, b, none, 0, 0, 0⟩ : Ent)]).length := ⟨_, rfl⟩
    rw [← em7] at e7
    subst e7
    have f0 := hr6.frozen 0
    have k6 : w6.cell? ⟨r, 0, none⟩ = some _ := hr6.cell 0
    refine Reg.any_store 17 (w6.setCell ⟨r, 0, none⟩ (.slice A7 m7 c7)) rfl (by kernel_rfl) (by rfl) (by go_simp) ⟨Si.Blk.far HP.out _ _ (by simp; have := HW.out.lt; omega), Si.Blk.far HK.out _ _ (by simp; have := HW.out.lt; omega)⟩ ?_
    simp only [Act.put, List.setIfInBounds_toArray, List.set_cons_zero, List.set_cons_succ]
    refine wpAnyH_done (by kernel_rfl) ?_ _
    clear f0 k6 hr6 ho6 hg6 hv6 hrun em7
    have HFIN := Lib.hid (hfin trivial)
    clear hfin
    go_wp2
    go_ret2
    exact ⟨rfl, _, b, HBL.out, HFIN.out.1, HFIN.out.2.1, HFIN.out.2.2⟩
  · right
    refine ⟨_, _, _, _, _, _, 22, #[prV p], rfl, by rfl, by go_simp, ?_⟩
    refine (CC.out _).mono ?_
    rintro e w3 ⟨rfl, hb⟩
    replace HB := Lib.hid (HB.out.trans (hb.mono HB.out.size)); replace HRG := Lib.hid (HRG.out.below hb); replace HP := Lib.hid (HP.out.below hb); replace HK := Lib.hid (HK.out.below hb)
    clear hb
    refine ⟨_, rfl, ⟨HP.out, HK.out⟩, ?_⟩
    simp only [Act.put, List.setIfInBounds_toArray, List.set_cons_zero, List.set_cons_succ]
    refine Reg.both_all [4, 11] (by kernel_rfl) (by simp) ?_
    intro j0 hj0
    have hj0 : j0 = 4 ∨ j0 = 11 := by simpa using hj0
    rcases hj0 with rfl | rfl
    · left
      have kr : w3.cell? ⟨r, 0, none⟩ = some (.slice A n c) := EN.out ▸ HRG.out.blk.cell 0
      refine ⟨_, _, _, _, _, _, _, _, rfl, by rfl, by (go_simp; rfl), ⟨HP.out, HK.out⟩, ?_⟩
      simp only [Act.put, List.setIfInBounds_toArray, List.set_cons_zero, List.set_cons_succ]
      clear kr
      refine Reg.both_all [11] (by kernel_rfl) (by simp) ?_
      intro j0 hj0
      obtain rfl : j0 = 11 := by simpa using hj0
      clear hj0
      right
      refine ⟨_, _, _, _, _, _, 23, #[.agg kv], rfl, by rfl, by go_simp, ?_⟩
      refine (CN.out _).mono ?_
      rintro e w4 ⟨b, rfl, hbl, hbx, hb⟩
      have HBL := Lib.hid (Nat.le_trans HB.out.size hbl)
      replace HB := Lib.hid (HB.out.trans (hb.mono HB.out.size)); replace HRG := Lib.hid (HRG.out.below hb); replace HP := Lib.hid (HP.out.below hb); replace HK := Lib.hid (HK.out.below hb)
      have HBX := Lib.hid hbx
      clear hb hbl hbx
      refine ⟨_, rfl, ⟨HP.out, HK.out⟩, ?_⟩
      simp only [Act.put, List.setIfInBounds_toArray, List.set_cons_zero, List.set_cons_succ]
      refine Reg.any_take 12 (v := .agg (eA ⟨⟨p, z + 1, k⟩, b, none, 0, 0, 0⟩)) rfl (by kernel_rfl) (by kernel_rfl) (by kernel_rfl) (fun _ _ _ h => h) ⟨HP.out, HK.out⟩ (by rfl) (fun w' hS => ?hu1312) ?ru1312
      case hu1312 => exact exec_build (by go_simp) (EK.out ▸ built_ent p (z + 1) b k)
      simp only [Act.put, List.setIfInBounds_toArray, List.set_cons_zero, List.set_cons_succ]
      refine Reg.both_all [13] (by kernel_rfl) (by simp) ?_
      intro j0 hj0
      obtain rfl : j0 = 13 := by simpa using hj0
      clear hj0
      left
      have hb : Below w4.heap.size w4 (w4.alloc (.cells (eA ⟨⟨p, z + 1, k⟩, b, none, 0, 0, 0⟩) 69)) := (Below.refl _ _).alloc (Nat.le_refl _) _
      refine ⟨_, _, _, _, _, _, .slice (some ⟨w4.heap.size, 0, none⟩) 1 1, (w4.alloc (.cells (eA ⟨⟨p, z + 1, k⟩, b, none, 0, 0, 0⟩) 69)), rfl, by rfl, exec_slice rfl (SL1.out _ _), ⟨HP.out.below hb, HK.out.below hb⟩, ?_⟩
      simp only [Act.put, List.setIfInBounds_toArray, List.set_cons_zero, List.set_cons_succ]
      have HNB := Lib.hid (Blk.new w4 69 (eA ⟨⟨p, z + 1, k⟩, b, none, 0, 0, 0⟩))
      have HBX5 := Lib.hid (HBX.out.below hb)
      have HBL5 := Lib.hid HBX.out.lt
      replace HB := Lib.hid (HB.out.trans (hb.mono HB.out.size)); replace HRG := Lib.hid (HRG.out.below hb); replace HP := Lib.hid (HP.out.below hb); replace HK := Lib.hid (HK.out.below hb)
      clear hb
      obtain ⟨W5, eW5⟩ : ∃ W5, W5 = (w4.alloc (.cells (eA ⟨⟨p, z + 1, k⟩, b, none, 0, 0, 0⟩) 69)) := ⟨_, rfl⟩
      have HS5 := Lib.hid (show w4.heap.size < W5.heap.size by rw [eW5]; simp)
      rw [← eW5] at HNB HBX5 HB HRG HP HK ⊢
      clear eW5
      refine Reg.both_all [14] (by kernel_rfl) (by simp) ?_
      intro j0 hj0
      obtain rfl : j0 = 14 := by simpa using hj0
      clear hj0
      left
      obtain ⟨v6, w6, hrun, ho6, hg6, hv6⟩ := Wh.app_run (P := Tryz.prog) eC 36 80 eC_length eC_one W5 64 64 69 i0 _ Tryz.underlying64 KI1.out KI2.out KI3.out KI4.out (by rfl) (by omega) B _ es HRG.out.row ⟨⟨p, z + 1, k⟩, b, none, 0, 0, 0⟩ w4.heap.size HNB.out (by have := EN.out; have := HL.out; omega) (by omega) (Nat.le_trans HBB.out HB.out.size)
      rw [← EN.out] at hrun
      replace HP := Lib.hid (HP.out.grown hg6 (fun x => by have := (World.ownsRow.lt HW.out.row _ x).2; omega))
      replace HK := Lib.hid (HK.out.grown hg6 (fun x => by have := (World.ownsRow.lt HW.out.row _ x).2; omega))
      refine ⟨_, _, _, _, _, _, v6, w6, rfl, by rfl, exec_app rfl rfl hrun, ⟨HP.out, HK.out⟩, ?_⟩
      simp only [Act.put, List.setIfInBounds_toArray, List.set_cons_zero, List.set_cons_succ]
      refine Reg.any_take 15 (v := ?vu1415) rfl (by kernel_rfl) (by kernel_rfl) (by kernel_rfl) (fun _ _ _ h => h) ⟨HP.out, HK.out⟩ (by rfl) (fun w' hS => ?hu1415) ?ru1415
      case hu1415 => go_simp; rfl
      simp only [Act.put, List.setIfInBounds_toArray, List.set_cons_zero, List.set_cons_succ]
      refine Reg.any_take 16 (v := ?vu1516) rfl (by kernel_rfl) (by kernel_rfl) (by kernel_rfl) (fun _ _ _ h => h) ⟨HP.out, HK.out⟩ (by rfl) (fun w' hS => ?hu1516) ?ru1516
      case hu1516 => go_simp; rfl
      simp only [Act.put, List.setIfInBounds_toArray, List.set_cons_zero, List.set_cons_succ]
      have hfin := fun (x : True) => add_fin HW.out HBB.out HB.out HRG.out (it := ⟨p, z + 1, k⟩) HBX5.out HBL.out ho6 hg6 hv6 x
      have hr6 := HRG.out.blk.grown hg6 HRG.out.vr
      obtain ⟨A7, c7, e7, _⟩ := own_rdr eC_length ho6
      obtain ⟨m7, em7⟩ : ∃ m7, m7 = (es ++ [(⟨⟨p, z + 1, k⟩, b, none, 0, 0, 0⟩ : Ent)]).length := ⟨_, rfl⟩
      rw [← em7] at e7
      subst e7
      have f0 := hr6.frozen 0
      have k6 : w6.cell? ⟨r, 0, none⟩ = some _ := hr6.cell 0
      refine Reg.any_store 17 (w6.setCell ⟨r, 0, none⟩ (.slice A7 m7 c7)) rfl (by kernel_rfl) (by rfl) (by go_simp) ⟨Si.Blk.far HP.out _ _ (by simp; have := HW.out.lt; omega), Si.Blk.far HK.out _ _ (by simp; have := HW.out.lt; omega)⟩ ?_
      simp only [Act.put, List.setIfInBounds_toArray, List.set_cons_zero, List.set_cons_succ]
      refine wpAnyH_done (by kernel_rfl) ?_ _
      clear f0 k6 hr6 ho6 hg6 hv6 hrun em7
      have HFIN := Lib.hid (hfin trivial)
      clear hfin
      go_wp2
      go_ret2
      exact ⟨rfl, _, b, HBL.out, HFIN.out.1, HFIN.out.2.1, HFIN.out.2.2⟩
    · right
      refine ⟨_, _, _, _, _, _, 23, #[.agg kv], rfl, by rfl, by go_simp, ?_⟩
      refine (CN.out _).mono ?_
      rintro e w4 ⟨b, rfl, hbl, hbx, hb⟩
      have HBL := Lib.hid (Nat.le_trans HB.out.size hbl)
      replace HB := Lib.hid (HB.out.trans (hb.mono HB.out.size)); replace HRG := Lib.hid (HRG.out.below hb); replace HP := Lib.hid (HP.out.below hb); replace HK := Lib.hid (HK.out.below hb)
      have HBX := Lib.hid hbx
      clear hb hbl hbx
      refine ⟨_, rfl, ⟨HP.out, HK.out⟩, ?_⟩
      simp only [Act.put, List.setIfInBounds_toArray, List.set_cons_zero, List.set_cons_succ]
      refine Reg.any_take 12 (v := .agg (eA ⟨⟨p, z + 1, k⟩, b, none, 0, 0, 0⟩)) rfl (by kernel_rfl) (by kernel_rfl) (by kernel_rfl) (fun _ _ _ h => h) ⟨HP.out, HK.out⟩ (by rfl) (fun w' hS => ?hu1612) ?ru1612
      case hu1612 => exact exec_build (by go_simp) (EK.out ▸ built_ent p (z + 1) b k)
      simp only [Act.put, List.setIfInBounds_toArray, List.set_cons_zero, List.set_cons_succ]
      refine Reg.both_all [4, 13] (by kernel_rfl) (by simp) ?_
      intro j0 hj0
      have hj0 : j0 = 4 ∨ j0 = 13 := by simpa using hj0
      rcases hj0 with rfl | rfl
      · left
        have kr : w4.cell? ⟨r, 0, none⟩ = some (.slice A n c) := EN.out ▸ HRG.out.blk.cell 0
        refine ⟨_, _, _, _, _, _, _, _, rfl, by rfl, by (go_simp; rfl), ⟨HP.out, HK.out⟩, ?_⟩
        simp only [Act.put, List.setIfInBounds_toArray, List.set_cons_zero, List.set_cons_succ]
        clear kr
        refine Reg.both_all [13] (by kernel_rfl) (by simp) ?_
        intro j0 hj0
        obtain rfl : j0 = 13 := by simpa using hj0
        clear hj0
        left
        have hb : Below w4.heap.size w4 (w4.alloc (.cells (eA ⟨⟨p, z + 1, k⟩, b, none, 0, 0, 0⟩) 69)) := (Below.refl _ _).alloc (Nat.le_refl _) _
        refine ⟨_, _, _, _, _, _, .slice (some ⟨w4.heap.size, 0, none⟩) 1 1, (w4.alloc (.cells (eA ⟨⟨p, z + 1, k⟩, b, none, 0, 0, 0⟩) 69)), rfl, by rfl, exec_slice rfl (SL1.out _ _), ⟨HP.out.below hb, HK.out.below hb⟩, ?_⟩
        simp only [Act.put, List.setIfInBounds_toArray, List.set_cons_zero, List.set_cons_succ]
        have HNB := Lib.hid (Blk.new w4 69 (eA ⟨⟨p, z + 1, k⟩, b, none, 0, 0, 0⟩))
        have HBX5 := Lib.hid (HBX.out.below hb)
        have HBL5 := Lib.hid HBX.out.lt
        replace HB := Lib.hid (HB.out.trans (hb.mono HB.out.size)); replace HRG := Lib.hid (HRG.out.below hb); replace HP := Lib.hid (HP.out.below hb); replace HK := Lib.hid (HK.out.below hb)
        clear hb
        obtain ⟨W5, eW5⟩ : ∃ W5, W5 = (w4.alloc (.cells (eA ⟨⟨p, z + 1, k⟩, b, none, 0, 0, 0⟩) 69)) := ⟨_, rfl⟩
        have HS5 := Lib.hid (show w4.heap.size < W5.heap.size by rw [eW5]; simp)
        rw [← eW5] at HNB HBX5 HB HRG HP HK ⊢
        clear eW5
        refine Reg.both_all [14] (by kernel_rfl) (by simp) ?_
        intro j0 hj0
        obtain rfl : j0 = 14 := by simpa using hj0
        clear hj0
        left
        obtain ⟨v6, w6, hrun, ho6, hg6, hv6⟩ := Wh.app_run (P := Tryz.prog) eC 36 80 eC_length eC_one W5 64 64 69 i0 _ Tryz.underlying64 KI1.out KI2.out KI3.out KI4.out (by rfl) (by omega) B _ es HRG.out.row ⟨⟨p, z + 1, k⟩, b, none, 0, 0, 0⟩ w4.heap.size HNB.out (by have := EN.out; have := HL.out; omega) (by omega) (Nat.le_trans HBB.out HB.out.size)
        rw [← EN.out] at hrun
        replace HP := Lib.hid (HP.out.grown hg6 (fun x => by have := (World.ownsRow.lt HW.out.row _ x).2; omega))
        replace HK := Lib.hid (HK.out.grown hg6 (fun x => by have := (World.ownsRow.lt HW.out.row _ x).2; omega))
        refine ⟨_, _, _, _, _, _, v6, w6, rfl, by rfl, exec_app rfl rfl hrun, ⟨HP.out, HK.out⟩, ?_⟩
        simp only [Act.put, List.setIfInBounds_toArray, List.set_cons_zero, List.set_cons_succ]
        refine Reg.any_take 15 (v := ?vu1715) rfl (by kernel_rfl) (by kernel_rfl) (by kernel_rfl) (fun _ _ _ h => h) ⟨HP.out, HK.out⟩ (by rfl) (fun w' hS => ?hu1715) ?ru1715
        case hu1715 => go_simp; rfl
        simp only [Act.put, List.setIfInBounds_toArray, List.set_cons_zero, List.set_cons_succ]
        refine Reg.any_take 16 (v := ?vu1816) rfl (by kernel_rfl) (by kernel_rfl) (by kernel_rfl) (fun _ _ _ h => h) ⟨HP.out, HK.out⟩ (by rfl) (fun w' hS => ?hu1816) ?ru1816
        case hu1816 => go_simp; rfl
        simp only [Act.put, List.setIfInBounds_toArray, List.set_cons_zero, List.set_cons_succ]
        have hfin := fun (x : True) => add_fin HW.out HBB.out HB.out HRG.out (it := ⟨p, z + 1, k⟩) HBX5.out HBL.out ho6 hg6 hv6 x
        have hr6 := HRG.out.blk.grown hg6 HRG.out.vr
        obtain ⟨A7, c7, e7, _⟩ := own_rdr eC_length ho6
        obtain ⟨m7, em7⟩ : ∃ m7, m7 = (es ++ [(⟨⟨p, z + 1, k⟩, b, none, 0, 0, 0⟩ : Ent)]).length := ⟨_, rfl⟩
        rw [← em7] at e7
        subst e7
        have f0 := hr6.frozen 0
        have k6 : w6.cell? ⟨r, 0, none⟩ = some _ := hr6.cell 0
        refine Reg.any_store 17 (w6.setCell ⟨r, 0, none⟩ (.slice A7 m7 c7)) rfl (by kernel_rfl) (by rfl) (by go_simp) ⟨Si.Blk.far HP.out _ _ (by simp; have := HW.out.lt; omega), Si.Blk.far HK.out _ _ (by simp; have := HW.out.lt; omega)⟩ ?_
        simp only [Act.put, List.setIfInBounds_toArray, List.set_cons_zero, List.set_cons_succ]
        refine wpAnyH_done (by kernel_rfl) ?_ _
        clear f0 k6 hr6 ho6 hg6 hv6 hrun em7
        have HFIN := Lib.hid (hfin trivial)
        clear hfin
        go_wp2
        go_ret2
        exact ⟨rfl, _, b, HBL.out, HFIN.out.1, HFIN.out.2.1, HFIN.out.2.2⟩
      · left
        have hb : Below w4.heap.size w4 (w4.alloc (.cells (eA ⟨⟨p, z + 1, k⟩, b, none, 0, 0, 0⟩) 69)) := (Below.refl _ _).alloc (Nat.le_refl _) _
        refine ⟨_, _, _, _, _, _, .slice (some ⟨w4.heap.size, 0, none⟩) 1 1, (w4.alloc (.cells (eA ⟨⟨p, z + 1, k⟩, b, none, 0, 0, 0⟩) 69)), rfl, by rfl, exec_slice rfl (SL1.out _ _), ⟨HP.out.below hb, HK.out.below hb⟩, ?_⟩
        simp only [Act.put, List.setIfInBounds_toArray, List.set_cons_zero, List.set_cons_succ]
        have HNB := Lib.hid (Blk.new w4 69 (eA ⟨⟨p, z + 1, k⟩, b, none, 0, 0, 0⟩))
        have HBX5 := Lib.hid (HBX.out.below hb)
        have HBL5 := Lib.hid HBX.out.lt
        replace HB := Lib.hid (HB.out.trans (hb.mono HB.out.size)); replace HRG := Lib.hid (HRG.out.below hb); replace HP := Lib.hid (HP.out.below hb); replace HK := Lib.hid (HK.out.below hb)
        clear hb
        obtain ⟨W5, eW5⟩ : ∃ W5, W5 = (w4.alloc (.cells (eA ⟨⟨p, z + 1, k⟩, b, none, 0, 0, 0⟩) 69)) := ⟨_, rfl⟩
        have HS5 := Lib.hid (show w4.heap.size < W5.heap.size by rw [eW5]; simp)
        rw [← eW5] at HNB HBX5 HB HRG HP HK ⊢
        clear eW5
        refine Reg.both_all [4] (by kernel_rfl) (by simp) ?_
        intro j0 hj0
        obtain rfl : j0 = 4 := by simpa using hj0
        clear hj0
        left
        have kr : W5.cell? ⟨r, 0, none⟩ = some (.slice A n c) := EN.out ▸ HRG.out.blk.cell 0
        refine ⟨_, _, _, _, _, _, _, _, rfl, by rfl, by (go_simp; rfl), ⟨HP.out, HK.out⟩, ?_⟩
        simp only [Act.put, List.setIfInBounds_toArray, List.set_cons_zero, List.set_cons_succ]
        clear kr
        refine Reg.both_all [14] (by kernel_rfl) (by simp) ?_
        intro j0 hj0
        obtain rfl : j0 = 14 := by simpa using hj0
        clear hj0
        left
        obtain ⟨v6, w6, hrun, ho6, hg6, hv6⟩ := Wh.app_run (P := Tryz.prog) eC 36 80 eC_length eC_one W5 64 64 69 i0 _ Tryz.underlying64 KI1.out KI2.out KI3.out KI4.out (by rfl) (by omega) B _ es HRG.out.row ⟨⟨p, z + 1, k⟩, b, none, 0, 0, 0⟩ w4.heap.size HNB.out (by have := EN.out; have := HL.out; omega) (by omega) (Nat.le_trans HBB.out HB.out.size)
        rw [← EN.out] at hrun
        replace HP := Lib.hid (HP.out.grown hg6 (fun x => by have := (World.ownsRow.lt HW.out.row _ x).2; omega))
        replace HK := Lib.hid (HK.out.grown hg6 (fun x => by have := (World.ownsRow.lt HW.out.row _ x).2; omega))
        refine ⟨_, _, _, _, _, _, v6, w6, rfl, by rfl, exec_app rfl rfl hrun, ⟨HP.out, HK.out⟩, ?_⟩
        simp only [Act.put, List.setIfInBounds_toArray, List.set_cons_zero, List.set_cons_succ]
        refine Reg.any_take 15 (v := ?vu1915) rfl (by kernel_rfl) (by kernel_rfl) (by kernel_rfl) (fun _ _ _ h => h) ⟨HP.out, HK.out⟩ (by rfl) (fun w' hS => ?hu1915) ?ru1915
        case hu1915 => go_simp; rfl
        simp only [Act.put, List.setIfInBounds_toArray, List.set_cons_zero, List.set_cons_succ]
        refine Reg.any_take 16 (v := ?vu2016) rfl (by kernel_rfl) (by kernel_rfl) (by kernel_rfl) (fun _ _ _ h => h) ⟨HP.out, HK.out⟩ (by rfl) (fun w' hS => ?hu2016) ?ru2016
        case hu2016 => go_simp; rfl
        simp only [Act.put, List.setIfInBounds_toArray, List.set_cons_zero, List.set_cons_succ]
        have hfin := fun (x : True) => add_fin HW.out HBB.out HB.out HRG.out (it := ⟨p, z + 1, k⟩) HBX5.out HBL.out ho6 hg6 hv6 x
        have hr6 := HRG.out.blk.grown hg6 HRG.out.vr
        obtain ⟨A7, c7, e7, _⟩ := own_rdr eC_length ho6
        obtain ⟨m7, em7⟩ : ∃ m7, m7 = (es ++ [(⟨⟨p, z + 1, k⟩, b, none, 0, 0, 0⟩ : Ent)]).length := ⟨_, rfl⟩
        rw [← em7] at e7
        subst e7
        have f0 := hr6.frozen 0
        have k6 : w6.cell? ⟨r, 0, none⟩ = some _ := hr6.cell 0
        refine Reg.any_store 17 (w6.setCell ⟨r, 0, none⟩ (.slice A7 m7 c7)) rfl (by kernel_rfl) (by rfl) (by go_simp) ⟨Si.Blk.far HP.out _ _ (by simp; have := HW.out.lt; omega), Si.Blk.far HK.out _ _ (by simp; have := HW.out.lt; omega)⟩ ?_
        simp only [Act.put, List.setIfInBounds_toArray, List.set_cons_zero, List.set_cons_succ]
        refine wpAnyH_done (by kernel_rfl) ?_ _
        clear f0 k6 hr6 ho6 hg6 hv6 hrun em7
        have HFIN := Lib.hid (hfin trivial)
        clear hfin
        go_wp2
        go_ret2
        exact ⟨rfl, _, b, HBL.out, HFIN.out.1, HFIN.out.2.1, HFIN.out.2.2⟩
set_option maxRecDepth 100000 in
set_option maxHeartbeats 1600000 in
theorem add_arg (r : Option Nat) (p : Pr) (k : Nat → UInt8) (w : World) (h1 : p.1.length ≤ 1000000000) (h2 : p.2.length ≤ 1000000000) (hp : r = none ∨ prB p = false) :
    Calls Tryz.prog 7 #[.pointer (r.map fun r => ⟨r, 0, none⟩), prV p, .agg (key32 k)] w fun e w' => e = .returned (.tuple #[.int .i64 0, .int .i64 1]) ∧ Below w.heap.size w w' := by
  have CP := Lib.hid (fun w1 => isprinc p w1 h1 h2)
  obtain ⟨kv, ekv⟩ : ∃ kv, kv = key32 k := ⟨_, rfl⟩
  rw [← ekv]
  obtain ⟨W, eW⟩ : ∃ W, W = (w.alloc (.cells #[.string ⟨p.1.toArray⟩, .string ⟨p.2.toArray⟩] 31)).alloc (.cells kv 33) := ⟨_, rfl⟩
  have hb : Below w.heap.size w W := eW ▸ ((Below.refl _ _).alloc (Nat.le_refl _) _).alloc (by simp) _
  have hb0 : Blk W w.heap.size 31 #[.string ⟨p.1.toArray⟩, .string ⟨p.2.toArray⟩] := eW ▸ (Blk.new w _ _).alloc _
  have kp0 : W.cell? ⟨w.heap.size, 0, none⟩ = some (.string ⟨p.1.toArray⟩) := hb0.cell 0
  have kp1 : W.cell? ⟨w.heap.size, 1, none⟩ = some (.string ⟨p.2.toArray⟩) := hb0.cell 1
  have HB := Lib.hid hb
  clear hb hb0 h1 h2 ekv
  cases r with
  | none =>
    clear hp
    go_enter Tryz.func7, Tryz.ntmps7
    go_upto_region 1 with fail
    rw [← eW]
    clear eW
    go_wp2
    go_ret2
    exact ⟨rfl, HB.out⟩
  | some r =>
    have hp : prB p = false := by
      rcases hp with h | h
      · cases h
      · exact h
    rw [hp] at CP
    clear hp
    show Calls _ _ #[.pointer (some ⟨r, 0, none⟩), prV p, .agg kv] _ _
    go_enter Tryz.func7, Tryz.ntmps7
    go_upto_region 1 with fail
    rw [← eW]
    clear eW
    go_wp2_with (first
      | (go_at_call 20; refine Calls.mono (CP.out _) ?_; rintro e w1 ⟨rfl, hb⟩; replace HB := Lib.hid (HB.out.trans (hb.mono HB.out.size)); clear hb)
      | fail)
    go_ret2
    exact ⟨rfl, HB.out⟩
set_option maxRecDepth 100000 in
set_option maxHeartbeats 3200000 in
theorem add_full (B r : Nat) (v : Value) (es : List Ent) (p : Pr) (k : Nat → UInt8) (w : World) (h : Ring w B r v es) (h1 : p.1.length ≤ 1000000000) (h2 : p.2.length ≤ 1000000000) (hp : prB p = true) (hl : 40 ≤ es.length) (hl2 : es.length ≤ 1000) :
    Calls Tryz.prog 7 #[.pointer (some ⟨r, 0, none⟩), prV p, .agg (key32 k)] w fun e w' => e = .returned (.tuple #[.int .i64 0, .int .i64 13]) ∧ Below w.heap.size w w' := by
  obtain ⟨A, c, rfl, hc, hm, hr⟩ := h.num
  obtain ⟨n, en⟩ : ∃ n, n = es.length := ⟨_, rfl⟩
  have EN := Lib.hid en
  obtain ⟨z, ez⟩ : ∃ z, z = lastN (its es) p := ⟨_, rfl⟩
  have hq := entC_num es (lastI (its es) p)
  rw [show numO (its es) (lastI (its es) p) = z from ez.symm] at hq
  have CL := Lib.hid (fun (w1 : World) (h : Ring w1 B r (.slice A es.length c) es) => last_any B r (.slice A es.length c) es p w1 h (by omega))
  have CP := Lib.hid (fun w1 => isprinc p w1 h1 h2)
  rw [hp] at CP
  obtain ⟨kv, ekv⟩ : ∃ kv, kv = key32 k := ⟨_, rfl⟩
  obtain ⟨cs, ecs⟩ : ∃ cs, cs = entC es (lastI (its es) p) := ⟨_, rfl⟩
  rw [← ecs] at CL hq
  rw [← ekv]
  rw [← en] at hl
  have hrl := h.lt
  obtain ⟨W, eW⟩ : ∃ W, W = (w.alloc (.cells #[.string ⟨p.1.toArray⟩, .string ⟨p.2.toArray⟩] 31)).alloc (.cells kv 33) := ⟨_, rfl⟩
  have hb : Below w.heap.size w W := eW ▸ ((Below.refl _ _).alloc (Nat.le_refl _) _).alloc (by simp) _
  have HP := Lib.hid (show Blk W w.heap.size 31 #[.string ⟨p.1.toArray⟩, .string ⟨p.2.toArray⟩] from eW ▸ (Blk.new w _ _).alloc _)
  have HK := Lib.hid (show Blk W (w.heap.size + 1) 33 kv by have := Blk.new (w.alloc (.cells #[.string ⟨p.1.toArray⟩, .string ⟨p.2.toArray⟩] 31)) 33 kv; simp only [World.size_alloc] at this; exact eW ▸ this)
  have HB := Lib.hid hb
  have HRG := Lib.hid (h.below hb)
  have HW := Lib.hid h
  have kp0 : W.cell? ⟨w.heap.size, 0, none⟩ = some (.string ⟨p.1.toArray⟩) := HP.out.cell 0
  have kp1 : W.cell? ⟨w.heap.size, 1, none⟩ = some (.string ⟨p.2.toArray⟩) := HP.out.cell 1
  have hfl := field_num cs _ hq
  have t1 : decide (40 ≤ (n : Int)) = true := by simp; omega
  clear hb h hr h1 h2 hp hl ekv ecs ez en hc hm hq hl2
  go_enter Tryz.func7, Tryz.ntmps7
  go_upto_region 1 with fail
  rw [← eW]
  clear eW
  go_wp2_with (first
    | (go_at_call 20; refine Calls.mono (CP.out _) ?_; rintro e w1 ⟨rfl, hb⟩; replace HB := Lib.hid (HB.out.trans (hb.mono HB.out.size)); replace HRG := Lib.hid (HRG.out.below hb); replace HP := Lib.hid (HP.out.below hb); replace HK := Lib.hid (HK.out.below hb); have kp0 : w1.cell? ⟨w.heap.size, 0, none⟩ = some (.string ⟨p.1.toArray⟩) := HP.out.cell 0; have kp1 : w1.cell? ⟨w.heap.size, 1, none⟩ = some (.string ⟨p.2.toArray⟩) := HP.out.cell 1; have kr : w1.cell? ⟨r, 0, none⟩ = some (.slice A n c) := EN.out ▸ HRG.out.blk.cell 0; clear hb)
    | (go_at_call 21; refine Calls.mono (CL.out _ HRG.out) ?_; rintro e w2 ⟨rfl, hb⟩; clear kp0 kp1 kr; replace HB := Lib.hid (HB.out.trans (hb.mono HB.out.size)); replace HRG := Lib.hid (HRG.out.below hb); replace HP := Lib.hid (HP.out.below hb); replace HK := Lib.hid (HK.out.below hb); have kp0 : w2.cell? ⟨w.heap.size, 0, none⟩ = some (.string ⟨p.1.toArray⟩) := HP.out.cell 0; have kp1 : w2.cell? ⟨w.heap.size, 1, none⟩ = some (.string ⟨p.2.toArray⟩) := HP.out.cell 1; have kr : w2.cell? ⟨r, 0, none⟩ = some (.slice A n c) := EN.out ▸ HRG.out.blk.cell 0; clear hb)
    | fail)
  go_ret2
  exact ⟨rfl, HB.out⟩
theorem add_any (B r : Nat) (v : Value) (es : List Ent) (p : Pr) (k : Nat → UInt8) (w : World) (h : Ring w B r v es) (hB : B ≤ w.heap.size) (h1 : p.1.length ≤ 1000000000) (h2 : p.2.length ≤ 1000000000) (hl : es.length ≤ 40) (hn : Num (its es)) :
    Calls Tryz.prog 7 #[.pointer (some ⟨r, 0, none⟩), prV p, .agg (key32 k)] w fun e w' => e = .returned (.tuple #[.int .i64 (addN (its es) p : Int), .int .i64 (addE (its es) p : Int)]) ∧ ∃ v' es', Ring w' B r v' es' ∧ its es' = addL (its es) p k ∧ (es' = es ∨ ∃ x, es' = es ++ [x] ∧ x.a = 0 ∧ x.o = 0 ∧ x.r = 0) ∧ Chg (fun q => q = r ∨ v.ownBlock = some q) w w' ∧ (∀ q, RO r v' es' q → RO r v es q ∨ w.heap.size ≤ q) := by
  cases hp : prB p with
  | false =>
    refine (add_arg (some r) p k w h1 h2 (.inr hp)).mono ?_
    rintro e w' ⟨rfl, hb⟩
    refine ⟨by rw [addN, addE, hp]; rfl, v, es, h.below hb, by rw [addL, hp]; rfl, .inl rfl, Chg.of_below hb, fun q hq => .inl hq⟩
  | true =>
    by_cases hx : es.length < 40
    · have hx2 : (its es).length < 40 := by rw [its_length]; exact hx
      have h255 : lastN (its es) p < 255 := by have := last_le hn p; omega
      refine (add_ok B r v es p k w h hB h1 h2 hp hx h255).mono ?_
      rintro e w' ⟨rfl, v', b, hbl, hr, hc, hnw⟩
      refine ⟨by rw [addN, addE, hp, if_pos rfl, if_pos rfl, if_pos hx2, if_pos hx2]; rfl, v', _, hr, ?_, .inr ⟨_, rfl, rfl, rfl, rfl⟩, hc, hnw⟩
      rw [its_snoc, addL, hp, if_pos rfl, if_pos hx2]
    · have hx2 : ¬ (its es).length < 40 := by rw [its_length]; exact hx
      refine (add_full B r v es p k w h h1 h2 hp (by omega) (by omega)).mono ?_
      rintro e w' ⟨rfl, hb⟩
      refine ⟨by rw [addN, addE, hp, if_pos rfl, if_pos rfl, if_neg hx2, if_neg hx2]; rfl, v, es, h.below hb, ?_, .inl rfl, Chg.of_below hb, fun q hq => .inl hq⟩
      rw [addL, hp, if_pos rfl, if_neg hx2]
end Go.Proofs.YtcjibpjdfhhhkaaGreat.Rg
end

section
set_option linter.unusedVariables false
set_option linter.unusedSimpArgs false
namespace Go.Proofs.YtcjibpjdfhhhkaaGreat.Rg
open Go.RowKit Go.Proofs.YtcjibpjdfhhhkaaGreat.Mem Go.Proofs.YtcjibpjdfhhhkaaGreat.Se

def kB (b : UInt8) (i : Nat) : UInt8 := if i = 0 then b else 0
theorem kB_lit (b : UInt8) : key32 (kB b) = #[.int .u8 (b.toNat : Int), .int .u8 0, .int .u8 0, .int .u8 0, .int .u8 0, .int .u8 0, .int .u8 0, .int .u8 0, .int .u8 0, .int .u8 0, .int .u8 0, .int .u8 0, .int .u8 0, .int .u8 0, .int .u8 0, .int .u8 0, .int .u8 0, .int .u8 0, .int .u8 0, .int .u8 0, .int .u8 0, .int .u8 0, .int .u8 0, .int .u8 0, .int .u8 0, .int .u8 0, .int .u8 0, .int .u8 0, .int .u8 0, .int .u8 0, .int .u8 0, .int .u8 0] := by kernel_rfl
abbrev p1 : Pr := ([65], [120])
theorem its_one (x : Ent) : its [x] = [x.it] := rfl
theorem its_two (x y : Ent) : its [x, y] = [x.it, y.it] := rfl
theorem last_none (p : Pr) : lastN (its []) p = 0 := rfl
theorem last_one (i : It) (p : Pr) (h : i.p = p) : lastN [i] p = i.n := by
  have := lastN_snoc [] i p
  rw [if_pos h] at this
  exact this
abbrev AT (r : Nat) (v : Value) (q : Nat) : Prop := q = r ∨ v.ownBlock = some q
theorem at_ro {r : Nat} {v : Value} {es : List Ent} {q : Nat} (h : AT r v q) : RO r v es q := by
  rcases h with h | h
  · exact .inl h
  · exact .inr (.inl h)
theorem ring_below {a w w' : World} {B r : Nat} {v : Value} {es : List Ent} (h : Below B a w) (hB : B ≤ w.heap.size) (hr : Ring w B r v es) (hc : Chg (AT r v) w w') : Below B a w' :=
  h.trans (hc.below hB (fun i _ hx => hr.own_lo (at_ro hx)))
theorem blk_add {w w' : World} {r g : Nat} {v : Value} {es : List Ent} {t : TypeId} {cs : Array Value} (h : Blk w g t cs) (hn : ¬ RO r v es g) (hc : Chg (AT r v) w w') : Blk w' g t cs := hc.blk h (fun x => hn (at_ro x))
theorem not_add {w : World} {r g : Nat} {v v' : Value} {es es' : List Ent} (hg : g < w.heap.size) (hn : ¬ RO r v es g) (hw : ∀ q, RO r v' es' q → RO r v es q ∨ w.heap.size ≤ q) : ¬ RO r v' es' g := fun x => by
  rcases hw g x with h | h
  · exact hn h
  · omega
theorem add_first {B r : Nat} {w : World} (p : Pr) (k : Nat → UInt8) (h1 : p.1.length ≤ 1000000000) (h2 : p.2.length ≤ 1000000000) (hp : prB p = true) (h : Ring w B r (.slice none 0 0) []) (hB : B ≤ w.heap.size) :
    Calls Tryz.prog 7 #[.pointer (some ⟨r, 0, none⟩), prV p, .agg (key32 k)] w fun e w' => e = .returned (.tuple #[.int .i64 1, .int .i64 0]) ∧ ∃ v' b, w.heap.size ≤ b ∧ Ring w' B r v' [⟨⟨p, 1, k⟩, b, none, 0, 0, 0⟩] ∧ Chg (AT r (.slice none 0 0)) w w' ∧ (∀ q, RO r v' [⟨⟨p, 1, k⟩, b, none, 0, 0, 0⟩] q → RO r (.slice none 0 0) [] q ∨ w.heap.size ≤ q) :=
  add_ok B r (.slice none 0 0) [] p k w h hB h1 h2 hp (by decide) (by rw [last_none]; decide)
theorem add_second {B r : Nat} {w : World} {v : Value} (p : Pr) (k : Nat → UInt8) (x : Ent) (hx : x.it.p = p) (hn : x.it.n = 1) (h1 : p.1.length ≤ 1000000000) (h2 : p.2.length ≤ 1000000000) (hp : prB p = true) (h : Ring w B r v [x]) (hB : B ≤ w.heap.size) :
    Calls Tryz.prog 7 #[.pointer (some ⟨r, 0, none⟩), prV p, .agg (key32 k)] w fun e w' => e = .returned (.tuple #[.int .i64 2, .int .i64 0]) ∧ ∃ v' b, w.heap.size ≤ b ∧ Ring w' B r v' [x, ⟨⟨p, 2, k⟩, b, none, 0, 0, 0⟩] ∧ Chg (AT r v) w w' ∧ (∀ q, RO r v' [x, ⟨⟨p, 2, k⟩, b, none, 0, 0, 0⟩] q → RO r v [x] q ∨ w.heap.size ≤ q) := by
  have e : lastN (its [x]) p = 1 := by rw [its_one, last_one _ _ hx, hn]
  have := add_ok B r v [x] p k w h hB h1 h2 hp (by simp) (by rw [e]; decide)
  rw [e] at this
  exact this
theorem last_two (p : Pr) (x y : Ent) (hy : y.it.p = p) : lastI (its [x, y]) p = some 1 := by
  rw [its_two, lastI]
  show lastTo _ p 2 = _
  rw [lastTo, if_pos (by simp [hy])]
theorem nil_ro {r g : Nat} (h : RO r (.slice none 0 0) [] g) : g = r := by
  rcases h with h | h | ⟨i, e, he, _⟩
  · exact h
  · cases h
  · simp at he
set_option maxRecDepth 100000 in
set_option maxHeartbeats 3200000 in
theorem rknown_any (w : World) : Calls Tryz.prog 17 #[] w fun e w' => e = .returned (.bool true) ∧ Below w.heap.size w w' := by
  obtain ⟨B, eB⟩ : ∃ B, B = w.heap.size := ⟨_, rfl⟩
  have c1 := ring_new B w (Nat.le_of_eq eB)
  have C2 := Lib.hid (fun (w1 : World) (r : Nat) (h : Ring w1 B r (.slice none 0 0) []) (hB : B ≤ w1.heap.size) => add_first p1 (kB 1) (by decide) (by decide) (by decide) h hB)
  have C3 := Lib.hid (fun (w1 : World) (r b : Nat) (v : Value) (h : Ring w1 B r v [⟨⟨p1, 1, kB 1⟩, b, none, 0, 0, 0⟩]) (hB : B ≤ w1.heap.size) => add_second p1 (kB 2) ⟨⟨p1, 1, kB 1⟩, b, none, 0, 0, 0⟩ rfl rfl (by decide) (by decide) (by decide) h hB)
  have C4 := Lib.hid (fun (w1 : World) (r b b2 : Nat) (v : Value) (h : Ring w1 B r v [⟨⟨p1, 1, kB 1⟩, b, none, 0, 0, 0⟩, ⟨⟨p1, 2, kB 2⟩, b2, none, 0, 0, 0⟩]) => lastp_hit (p := p1) (i := 1) (x := ⟨⟨p1, 2, kB 2⟩, b2, none, 0, 0, 0⟩) h (by simp) (last_two _ _ _ rfl) rfl)
  have C5 := Lib.hid (fun (w1 : World) (r b b2 : Nat) (v : Value) (h : Ring w1 B r v [⟨⟨p1, 1, kB 1⟩, b, none, 0, 0, 0⟩, ⟨⟨p1, 2, kB 2⟩, b2, none, 0, 0, 0⟩]) => len_any B r v _ w1 h)
  simp only [kB_lit] at C2 C3
  have EB := Lib.hid eB
  have HB := Lib.hid (Below.refl B w)
  go_enter Tryz.func17, Tryz.ntmps17
  go_wp2_with (first
    | (go_at_call 6; refine Calls.mono c1 ?_; rintro e w1 ⟨r, rfl, hr, hrg, hb⟩; clear c1; rw [← eB] at hr hb; clear eB; replace HB := Lib.hid hb; have HR := Lib.hid hr; have hal := (Below.refl w1.heap.size w1).alloc (Nat.le_refl _) (.cells #[.string ⟨#[65]⟩, .string ⟨#[120]⟩] 31); have HRG := Lib.hid (hrg.below hal); have HP := Lib.hid (Blk.new w1 31 #[.string ⟨#[65]⟩, .string ⟨#[120]⟩]); have HNP := Lib.hid (show ¬ RO r (.slice none 0 0) [] w1.heap.size from fun x => by have := nil_ro x; have := hrg.lt; omega); replace HB := Lib.hid (HB.out.trans (hal.mono (Nat.le_trans (Nat.le_of_eq EB.out) HB.out.size))); have c2 := C2.out _ r HRG.out (Nat.le_trans (Nat.le_of_eq EB.out) HB.out.size); clear hb hrg hr hal)
    | (go_at_call 7; refine Calls.mono c2 ?_; rintro e w2 ⟨rfl, v2, b, hbl, hrg, hc, hnw⟩; clear c2; replace HB := Lib.hid (ring_below HB.out (Nat.le_trans (Nat.le_of_eq EB.out) HB.out.size) HRG.out hc); have HP2 := Lib.hid (blk_add HP.out HNP.out hc); have HNP2 := Lib.hid (not_add HP.out.lt HNP.out hnw); have HRG2 := Lib.hid hrg; have k0 : w2.cell? ⟨w1.heap.size, 0, none⟩ = some (.string ⟨#[65]⟩) := HP2.out.cell 0; have k1 : w2.cell? ⟨w1.heap.size, 1, none⟩ = some (.string ⟨#[120]⟩) := HP2.out.cell 1; have c3 := C3.out _ r b v2 HRG2.out (Nat.le_trans (Nat.le_of_eq EB.out) HB.out.size); clear hbl hrg hc hnw)
    | (go_at_call 7; refine Calls.mono c3 ?_; rintro e w3 ⟨rfl, v3, b3, hbl, hrg, hc, hnw⟩; clear c3 k0 k1; replace HB := Lib.hid (ring_below HB.out (Nat.le_trans (Nat.le_of_eq EB.out) HB.out.size) HRG2.out hc); have HP3 := Lib.hid (blk_add HP2.out HNP2.out hc); have HRG3 := Lib.hid hrg; have k0 : w3.cell? ⟨w1.heap.size, 0, none⟩ = some (.string ⟨#[65]⟩) := HP3.out.cell 0; have k1 : w3.cell? ⟨w1.heap.size, 1, none⟩ = some (.string ⟨#[120]⟩) := HP3.out.cell 1; have c4 := C4.out _ r b b3 v3 HRG3.out; clear hbl hrg hc hnw)
    | (go_at_call 13; refine Calls.mono c4 ?_; rintro e w4 ⟨rfl, hb⟩; clear c4; replace HB := Lib.hid (HB.out.trans (hb.mono (Nat.le_trans (Nat.le_of_eq EB.out) HB.out.size))); have HRG4 := Lib.hid (HRG3.out.below hb); have c5 := C5.out _ r b b3 v3 HRG4.out; clear hb)
    | (go_at_call 16; refine Calls.mono c5 ?_; rintro e w5 ⟨rfl, hw⟩; have hw := hw.symm; subst hw; clear c5)
    | fail)
  go_ret
  exact ⟨rfl, by rw [← EB.out]; exact HB.out⟩
end Go.Proofs.YtcjibpjdfhhhkaaGreat.Rg
end

section
set_option linter.unusedVariables false
namespace Go.Proofs.YtcjibpjdfhhhkaaGreat.Rg
open Go.RowKit Go.Proofs.YtcjibpjdfhhhkaaGreat.Mem Go.Proofs.YtcjibpjdfhhhkaaGreat.Se

theorem mapM_each {α β : Type} (g : α → Option β) (h : α → β) : ∀ l : List α, (∀ i ∈ l, g i = some (h i)) → l.mapM g = some (l.map h)
  | [], _ => rfl
  | a :: l, hh => by
    rw [List.mapM_cons, hh a (by simp), mapM_each g h l (fun i hi => hh i (by simp [hi]))]
    rfl
theorem flatten_one {α β : Type} (g : α → β) : ∀ l : List α, (l.map fun i => [g i]).flatten = l.map g
  | [] => rfl
  | a :: l => by rw [List.map_cons, List.flatten_cons, flatten_one g l, List.map_cons]; rfl
def klits (f : Nat → UInt8) : List Lit := (List.range 32).map fun i => Lit.int .u8 ((f i).toNat : Int)
theorem klits_of (f : Nat → UInt8) : Tryz.prog.keyLits 5 33 (key32 f).toList = some (klits f) := by
  have hu26 := Tryz.underlying33
  have hu5 := Tryz.underlying5
  have c26 : Tryz.prog.cellsOf 33 = 32 := by kernel_rfl
  have c5 : Tryz.prog.cellsOf 5 = 1 := by kernel_rfl
  have one : ∀ b : UInt8, Tryz.prog.keyLits 4 5 [bv b] = some [Lit.int .u8 (b.toNat : Int)] := fun b => by
    have hw : (Lit.int .u8 (b.toNat : Int)).wf = true := by
      have := b.toNat_lt
      simp [Lit.wf, IntKind.min, IntKind.max, IntKind.signed, IntKind.bits]
      omega
    unfold Program.keyLits bv
    simp only [hu5, hw, and_self, if_true]
  unfold Program.keyLits
  simp only [hu26]
  have hl : (key32 f).toList.length = Tryz.prog.cellsOf 33 := by rw [c26, Array.length_toList, key32_size]
  rw [if_pos hl]
  have hm := mapM_each (fun i => Tryz.prog.keyLits 4 5 (((key32 f).toList.drop (i * Tryz.prog.cellsOf 5)).take (Tryz.prog.cellsOf 5))) (fun i => [Lit.int .u8 ((f i).toNat : Int)]) (List.range 32) (fun i hi => by
    have h32 : i < 32 := List.mem_range.1 hi
    have hlt : i < (key32 f).toList.length := by rw [Array.length_toList, key32_size]; exact h32
    rw [c5, Nat.mul_one, List.drop_eq_getElem_cons hlt, List.take_succ_cons, List.take_zero]
    have e : (key32 f).toList[i] = bv (f i) := by simp [key32]
    rw [e]
    exact one (f i))
  rw [hm]
  show some ((List.range 32).map fun i => [Lit.int .u8 ((f i).toNat : Int)]).flatten = _
  rw [flatten_one]; rfl
theorem eql_key_same (f : Nat → UInt8) (w : World) : (Op.equalIn 10000 33 (.agg (key32 f)) (.agg (key32 f))).run Tryz.prog w = .ok true w := by
  have h := run_equalIn_deep (P := Tryz.prog) 9998 2 33 (by kernel_rfl)
  obtain ⟨r, h1, h2⟩ := h w 5 5 (.agg (key32 f)) (.agg (key32 f)) (klits f) (klits f) (by kernel_rfl) (by kernel_rfl) (klits_of f) (klits_of f)
  rw [h1, h2.2 rfl]
theorem exec_load_mid {P : Program} {w' : World} {a : Act} {o : Oper} {g off : Nat} {ty : TypeId} {cs : Array Value} {d : TypeDesc} (x : Operand) (ho : o.op = .load ty x) (hx : a.eval x = .pointer (some ⟨g, off, none⟩)) (h : w'.rangeAt g off cs.toList) (hu : P.underlying ty = some d) (hd : d.isRow = true) (hi : (P.info? ty).map (·.size) = some cs.size) :
    (execOp a.eval o).run P w' = .ok (.value (.agg cs)) w' := by
  have := run_loadVar_mid (P := P) w' g off ty cs.toList d h hu hd (by simpa using hi)
  simp only [Array.toArray_toList] at this
  unfold execOp
  simp only [ho, hx, Instr.loadAt, Instr.sureAddr, Sem.run_bind, Sem.run_pure, Result.andThen_ok, this]
end Go.Proofs.YtcjibpjdfhhhkaaGreat.Rg
end

section
set_option linter.unusedVariables false
namespace Go.Proofs.YtcjibpjdfhhhkaaGreat.Sp
open Go.RowKit Go.Proofs.YtcjibpjdfhhhkaaGreat.Mem

theorem key16_at (f : Nat → UInt8) (j : Nat) (hj : j < 16) : (key16 f)[j]? = some (bv (f j)) := by
  rw [key16, List.getElem?_toArray]; simp [hj]
theorem key16_congr {f g : Nat → UInt8} (h : ∀ j, j < 16 → f j = g j) : key16 f = key16 g := by
  unfold key16
  congr 1
  apply List.map_congr_left
  intro j hj
  rw [h j (by simpa using hj)]
end Go.Proofs.YtcjibpjdfhhhkaaGreat.Sp
end

section
set_option linter.unusedVariables false
namespace Go.Proofs.YtcjibpjdfhhhkaaGreat.SpL
open Go.RowKit Go.Proofs.YtcjibpjdfhhhkaaGreat.Mem Go.Proofs.YtcjibpjdfhhhkaaGreat.Sp

theorem sbyte_lo (K : Nat → Wd) (up lo : Wd) (i j : Nat) (hj : j < 4) : (sbyte K up lo (8 * i + j)).toNat = (blockK K (up, lo + BitVec.ofNat 32 i)).1.toNat / 256 ^ j % 256 := by
  have q1 : (8 * i + j) / 8 = i := by omega
  have q2 : (8 * i + j) % 8 = j := by omega
  rw [sbyte, q1, q2, UInt8.toNat_ofNat', blk64]
  have hx := wd_lt (blockK K (up, lo + BitVec.ofNat 32 i)).1
  have h : j = 0 ∨ j = 1 ∨ j = 2 ∨ j = 3 := by omega
  rcases h with rfl | rfl | rfl | rfl <;> simp only [Nat.reducePow] <;> omega
theorem sbyte_hi (K : Nat → Wd) (up lo : Wd) (i j : Nat) (hj : j < 4) : (sbyte K up lo (8 * i + 4 + j)).toNat = (blockK K (up, lo + BitVec.ofNat 32 i)).2.toNat / 256 ^ j % 256 := by
  have q1 : (8 * i + 4 + j) / 8 = i := by omega
  have q2 : (8 * i + 4 + j) % 8 = 4 + j := by omega
  rw [sbyte, q1, q2, UInt8.toNat_ofNat', blk64]
  have hx := wd_lt (blockK K (up, lo + BitVec.ofNat 32 i)).1
  have h : j = 0 ∨ j = 1 ∨ j = 2 ∨ j = 3 := by omega
  rcases h with rfl | rfl | rfl | rfl <;> simp only [Nat.reducePow, Nat.reduceAdd] <;> omega
end Go.Proofs.YtcjibpjdfhhhkaaGreat.SpL
end
