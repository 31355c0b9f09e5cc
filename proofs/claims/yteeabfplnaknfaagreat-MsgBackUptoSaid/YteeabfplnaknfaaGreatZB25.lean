import Derived.Deep.LoopGhost
import Derived.DeepKeys
import Derived.Laws.StructEq
import Derived.ProofKit
import Derived.OpenShut
import Derived.ShutString
import Derived.ChangeOld
import Derived.Deep.Matrix
import Derived.Deep.Slices
import Derived.SizedLaws
import Derived.Test.YteeabfplnaknfaaGreatRows
import Derived.Lib.SmallJoins
import Derived.Deep.Strs
import Derived.ChangeSame
import Derived.Test.YteeabfplnaknfaaGreatZB1
import Derived.Test.YteeabfplnaknfaaGreatZB2
import Derived.Test.YteeabfplnaknfaaGreatZB3
import Derived.Test.YteeabfplnaknfaaGreatZB4
import Derived.Test.YteeabfplnaknfaaGreatZB5
import Derived.Test.YteeabfplnaknfaaGreatZB6
import Derived.Test.YteeabfplnaknfaaGreatZB7
import Derived.Test.YteeabfplnaknfaaGreatZB8
import Derived.Test.YteeabfplnaknfaaGreatZB9
import Derived.Test.YteeabfplnaknfaaGreatZB10
import Derived.Test.YteeabfplnaknfaaGreatZB11
import Derived.Test.YteeabfplnaknfaaGreatZB12
import Derived.Test.YteeabfplnaknfaaGreatZB13
import Derived.Test.YteeabfplnaknfaaGreatZB14
import Derived.Test.YteeabfplnaknfaaGreatZB15
import Derived.Test.YteeabfplnaknfaaGreatZB16
import Derived.Test.YteeabfplnaknfaaGreatZB17
import Derived.Test.YteeabfplnaknfaaGreatZB18
import Derived.Test.YteeabfplnaknfaaGreatZB19
import Derived.Test.YteeabfplnaknfaaGreatZB20
import Derived.Test.YteeabfplnaknfaaGreatZB21
import Derived.Test.YteeabfplnaknfaaGreatZB22
section
set_option linter.unusedVariables false
set_option linter.unusedSimpArgs false
namespace Go.Proofs.YteeabfplnaknfaaGreat.Mc
open Go.RowKit Go.Proofs.YteeabfplnaknfaaGreat.Mem Go.Proofs.YteeabfplnaknfaaGreat.DerP Go.Proofs.YteeabfplnaknfaaGreat.DerR Go.Proofs.YteeabfplnaknfaaGreat.Ms

theorem renc8_v (cs : Array Value) (m : Mg) (w : World) (h : MgV w w.heap.size cs m) (hs : mSm m) : Calls Tryz.prog 10 #[.agg cs] w (EncR w (mgO m)) := by
  obtain ⟨pa, pt, pr, pp, pf, rfl, ha, ht, hr, hp, hf⟩ := h
  obtain ⟨b1, a1, rfl, ⟨A1, c1, rfl, _, r1⟩, ⟨A2, c2, rfl, _, r2⟩⟩ := ht
  obtain ⟨b2, a2, rfl, ⟨A3, c3, rfl, _, r3⟩, ⟨A4, c4, rfl, _, r4⟩⟩ := hr
  obtain ⟨b3, a3, rfl, ⟨A5, c5, rfl, _, r5⟩, ⟨A6, c6, rfl, _, r6⟩⟩ := hp
  rw [ha, hf]
  exact renc8_any m A1 A2 A3 A4 A5 A6 c1 c2 c3 c4 c5 c6 w hs r1 r2 r3 r4 r5 r6
end Go.Proofs.YteeabfplnaknfaaGreat.Mc
end

section
set_option linter.unusedVariables false
set_option linter.unusedSimpArgs false
namespace Go.Proofs.YteeabfplnaknfaaGreat.Mc
open Go.RowKit Go.Proofs.YteeabfplnaknfaaGreat.Mem Go.Proofs.YteeabfplnaknfaaGreat.DerP Go.Proofs.YteeabfplnaknfaaGreat.Ms

theorem mapM_all {α β : Type} (g : α → Option β) (h : α → β) : ∀ l : List α, (∀ i ∈ l, g i = some (h i)) → l.mapM g = some (l.map h)
  | [], _ => rfl
  | a :: l, hh => by
    rw [List.mapM_cons, hh a (by simp), mapM_all g h l (fun i hi => hh i (by simp [hi]))]
    rfl
theorem flat_one {α β : Type} (g : α → β) : ∀ l : List α, (l.map fun i => [g i]).flatten = l.map g
  | [] => rfl
  | a :: l => by rw [List.map_cons, List.flatten_cons, flat_one g l, List.map_cons]; rfl
def litsK (k : L) : List Lit := (List.range 32).map fun i => Lit.int .u8 ((k.getD i 0).toNat : Int)
theorem lits_key (k : L) (hk : k.length = 32) : Tryz.prog.keyLits 5 53 (bvs k) = some (litsK k) := by
  have hu26 := Tryz.underlying53
  have hu5 := Tryz.underlying5
  have c26 : Tryz.prog.cellsOf 53 = 32 := by kernel_rfl
  have c5 : Tryz.prog.cellsOf 5 = 1 := by kernel_rfl
  have one : ∀ b : UInt8, Tryz.prog.keyLits 4 5 [bv b] = some [Lit.int .u8 (b.toNat : Int)] := fun b => by
    have hw : (Lit.int .u8 (b.toNat : Int)).wf = true := by
      have := b.toNat_lt
      simp [Lit.wf, IntKind.min, IntKind.max, IntKind.signed, IntKind.bits]
      omega
    unfold Program.keyLits bv
    simp only [hu5, hw, and_self, if_true]
  unfold Program.keyLits
  simp only [hu26]
  have hl : (bvs k).length = Tryz.prog.cellsOf 53 := by rw [c26, bvs_length, hk]
  rw [if_pos hl]
  have hm := mapM_all (fun i => Tryz.prog.keyLits 4 5 (((bvs k).drop (i * Tryz.prog.cellsOf 5)).take (Tryz.prog.cellsOf 5))) (fun i => [Lit.int .u8 ((k.getD i 0).toNat : Int)]) (List.range 32) (fun i hi => by
    have h32 : i < 32 := List.mem_range.1 hi
    have hlt : i < (bvs k).length := by rw [bvs_length, hk]; exact h32
    rw [c5, Nat.mul_one, List.drop_eq_getElem_cons hlt, List.take_succ_cons, List.take_zero]
    have hlk : i < k.length := by omega
    have e : (bvs k)[i] = bv (k.getD i 0) := by simp [bvs, List.getD, hlk]
    rw [e]
    exact one _)
  rw [hm]
  show some ((List.range 32).map fun i => [Lit.int .u8 ((k.getD i 0).toNat : Int)]).flatten = _
  rw [flat_one]; rfl
theorem eql_key (k : L) (hk : k.length = 32) (w : World) : (Op.equalIn 9999 53 (.agg (bvs k).toArray) (.agg (bvs k).toArray)).run Tryz.prog w = .ok true w := by
  have h := run_equalIn_deep (P := Tryz.prog) 9997 2 53 (by kernel_rfl)
  have c26 : Tryz.prog.cellsOf 53 = 32 := by kernel_rfl
  have hf : (Value.agg (bvs k).toArray).formed Tryz.prog 53 = true := by
    obtain ⟨k0, k1, k2, k3, k4, k5, k6, k7, k8, k9, k10, k11, k12, k13, k14, k15, k16, k17, k18, k19, k20, k21, k22, k23, k24, k25, k26, k27, k28, k29, k30, k31, rfl⟩ := len32 hk
    kernel_rfl
  obtain ⟨r, h1, h2⟩ := h w 5 5 (.agg (bvs k).toArray) (.agg (bvs k).toArray) (litsK k) (litsK k) hf hf (lits_key k hk) (lits_key k hk)
  rw [h2.2 rfl] at h1
  exact h1
set_option maxRecDepth 10000 in
set_option maxHeartbeats 3200000 in
theorem eql_pt (p : Pt) (hk : p.ss.length = 32) (w : World) : (Op.equalIn 10000 55 (.agg (ptC p).toArray) (.agg (ptC p).toArray)).run Tryz.prog w = .ok true w := by
  obtain ⟨c, k, tr, st, en⟩ := p
  simp only at hk
  have hq := eql_key k hk w
  obtain ⟨k0, k1, k2, k3, k4, k5, k6, k7, k8, k9, k10, k11, k12, k13, k14, k15, k16, k17, k18, k19, k20, k21, k22, k23, k24, k25, k26, k27, k28, k29, k30, k31, rfl⟩ := len32 hk
  replace hq : (Op.equalIn 9999 53 (.agg #[.int .u8 (k0.toNat : Int), .int .u8 (k1.toNat : Int), .int .u8 (k2.toNat : Int), .int .u8 (k3.toNat : Int), .int .u8 (k4.toNat : Int), .int .u8 (k5.toNat : Int), .int .u8 (k6.toNat : Int), .int .u8 (k7.toNat : Int), .int .u8 (k8.toNat : Int), .int .u8 (k9.toNat : Int), .int .u8 (k10.toNat : Int), .int .u8 (k11.toNat : Int), .int .u8 (k12.toNat : Int), .int .u8 (k13.toNat : Int), .int .u8 (k14.toNat : Int), .int .u8 (k15.toNat : Int), .int .u8 (k16.toNat : Int), .int .u8 (k17.toNat : Int), .int .u8 (k18.toNat : Int), .int .u8 (k19.toNat : Int), .int .u8 (k20.toNat : Int), .int .u8 (k21.toNat : Int), .int .u8 (k22.toNat : Int), .int .u8 (k23.toNat : Int), .int .u8 (k24.toNat : Int), .int .u8 (k25.toNat : Int), .int .u8 (k26.toNat : Int), .int .u8 (k27.toNat : Int), .int .u8 (k28.toNat : Int), .int .u8 (k29.toNat : Int), .int .u8 (k30.toNat : Int), .int .u8 (k31.toNat : Int)]) (.agg #[.int .u8 (k0.toNat : Int), .int .u8 (k1.toNat : Int), .int .u8 (k2.toNat : Int), .int .u8 (k3.toNat : Int), .int .u8 (k4.toNat : Int), .int .u8 (k5.toNat : Int), .int .u8 (k6.toNat : Int), .int .u8 (k7.toNat : Int), .int .u8 (k8.toNat : Int), .int .u8 (k9.toNat : Int), .int .u8 (k10.toNat : Int), .int .u8 (k11.toNat : Int), .int .u8 (k12.toNat : Int), .int .u8 (k13.toNat : Int), .int .u8 (k14.toNat : Int), .int .u8 (k15.toNat : Int), .int .u8 (k16.toNat : Int), .int .u8 (k17.toNat : Int), .int .u8 (k18.toNat : Int), .int .u8 (k19.toNat : Int), .int .u8 (k20.toNat : Int), .int .u8 (k21.toNat : Int), .int .u8 (k22.toNat : Int), .int .u8 (k23.toNat : Int), .int .u8 (k24.toNat : Int), .int .u8 (k25.toNat : Int), .int .u8 (k26.toNat : Int), .int .u8 (k27.toNat : Int), .int .u8 (k28.toNat : Int), .int .u8 (k29.toNat : Int), .int .u8 (k30.toNat : Int), .int .u8 (k31.toNat : Int)])).run Tryz.prog w = .ok true w := hq
  show (Op.equalIn 10000 55 (.agg #[.string ⟨c.1.toArray⟩, .string ⟨c.2.toArray⟩, .int .u8 (k0.toNat : Int), .int .u8 (k1.toNat : Int), .int .u8 (k2.toNat : Int), .int .u8 (k3.toNat : Int), .int .u8 (k4.toNat : Int), .int .u8 (k5.toNat : Int), .int .u8 (k6.toNat : Int), .int .u8 (k7.toNat : Int), .int .u8 (k8.toNat : Int), .int .u8 (k9.toNat : Int), .int .u8 (k10.toNat : Int), .int .u8 (k11.toNat : Int), .int .u8 (k12.toNat : Int), .int .u8 (k13.toNat : Int), .int .u8 (k14.toNat : Int), .int .u8 (k15.toNat : Int), .int .u8 (k16.toNat : Int), .int .u8 (k17.toNat : Int), .int .u8 (k18.toNat : Int), .int .u8 (k19.toNat : Int), .int .u8 (k20.toNat : Int), .int .u8 (k21.toNat : Int), .int .u8 (k22.toNat : Int), .int .u8 (k23.toNat : Int), .int .u8 (k24.toNat : Int), .int .u8 (k25.toNat : Int), .int .u8 (k26.toNat : Int), .int .u8 (k27.toNat : Int), .int .u8 (k28.toNat : Int), .int .u8 (k29.toNat : Int), .int .u8 (k30.toNat : Int), .int .u8 (k31.toNat : Int), .string ⟨tr.toArray⟩, .int .i64 st, .int .i64 en]) (.agg #[.string ⟨c.1.toArray⟩, .string ⟨c.2.toArray⟩, .int .u8 (k0.toNat : Int), .int .u8 (k1.toNat : Int), .int .u8 (k2.toNat : Int), .int .u8 (k3.toNat : Int), .int .u8 (k4.toNat : Int), .int .u8 (k5.toNat : Int), .int .u8 (k6.toNat : Int), .int .u8 (k7.toNat : Int), .int .u8 (k8.toNat : Int), .int .u8 (k9.toNat : Int), .int .u8 (k10.toNat : Int), .int .u8 (k11.toNat : Int), .int .u8 (k12.toNat : Int), .int .u8 (k13.toNat : Int), .int .u8 (k14.toNat : Int), .int .u8 (k15.toNat : Int), .int .u8 (k16.toNat : Int), .int .u8 (k17.toNat : Int), .int .u8 (k18.toNat : Int), .int .u8 (k19.toNat : Int), .int .u8 (k20.toNat : Int), .int .u8 (k21.toNat : Int), .int .u8 (k22.toNat : Int), .int .u8 (k23.toNat : Int), .int .u8 (k24.toNat : Int), .int .u8 (k25.toNat : Int), .int .u8 (k26.toNat : Int), .int .u8 (k27.toNat : Int), .int .u8 (k28.toNat : Int), .int .u8 (k29.toNat : Int), .int .u8 (k30.toNat : Int), .int .u8 (k31.toNat : Int), .string ⟨tr.toArray⟩, .int .i64 st, .int .i64 en])).run Tryz.prog w = .ok true w
  go_simp
set_option maxRecDepth 10000 in
set_option maxHeartbeats 3200000 in
theorem eql_rp (p : Rp) (hk : p.ss.length = 32) (w : World) : (Op.equalIn 10000 59 (.agg (rpC p).toArray) (.agg (rpC p).toArray)).run Tryz.prog w = .ok true w := by
  obtain ⟨k, c, st, en, no⟩ := p
  simp only at hk
  have hq := eql_key k hk w
  obtain ⟨k0, k1, k2, k3, k4, k5, k6, k7, k8, k9, k10, k11, k12, k13, k14, k15, k16, k17, k18, k19, k20, k21, k22, k23, k24, k25, k26, k27, k28, k29, k30, k31, rfl⟩ := len32 hk
  replace hq : (Op.equalIn 9999 53 (.agg #[.int .u8 (k0.toNat : Int), .int .u8 (k1.toNat : Int), .int .u8 (k2.toNat : Int), .int .u8 (k3.toNat : Int), .int .u8 (k4.toNat : Int), .int .u8 (k5.toNat : Int), .int .u8 (k6.toNat : Int), .int .u8 (k7.toNat : Int), .int .u8 (k8.toNat : Int), .int .u8 (k9.toNat : Int), .int .u8 (k10.toNat : Int), .int .u8 (k11.toNat : Int), .int .u8 (k12.toNat : Int), .int .u8 (k13.toNat : Int), .int .u8 (k14.toNat : Int), .int .u8 (k15.toNat : Int), .int .u8 (k16.toNat : Int), .int .u8 (k17.toNat : Int), .int .u8 (k18.toNat : Int), .int .u8 (k19.toNat : Int), .int .u8 (k20.toNat : Int), .int .u8 (k21.toNat : Int), .int .u8 (k22.toNat : Int), .int .u8 (k23.toNat : Int), .int .u8 (k24.toNat : Int), .int .u8 (k25.toNat : Int), .int .u8 (k26.toNat : Int), .int .u8 (k27.toNat : Int), .int .u8 (k28.toNat : Int), .int .u8 (k29.toNat : Int), .int .u8 (k30.toNat : Int), .int .u8 (k31.toNat : Int)]) (.agg #[.int .u8 (k0.toNat : Int), .int .u8 (k1.toNat : Int), .int .u8 (k2.toNat : Int), .int .u8 (k3.toNat : Int), .int .u8 (k4.toNat : Int), .int .u8 (k5.toNat : Int), .int .u8 (k6.toNat : Int), .int .u8 (k7.toNat : Int), .int .u8 (k8.toNat : Int), .int .u8 (k9.toNat : Int), .int .u8 (k10.toNat : Int), .int .u8 (k11.toNat : Int), .int .u8 (k12.toNat : Int), .int .u8 (k13.toNat : Int), .int .u8 (k14.toNat : Int), .int .u8 (k15.toNat : Int), .int .u8 (k16.toNat : Int), .int .u8 (k17.toNat : Int), .int .u8 (k18.toNat : Int), .int .u8 (k19.toNat : Int), .int .u8 (k20.toNat : Int), .int .u8 (k21.toNat : Int), .int .u8 (k22.toNat : Int), .int .u8 (k23.toNat : Int), .int .u8 (k24.toNat : Int), .int .u8 (k25.toNat : Int), .int .u8 (k26.toNat : Int), .int .u8 (k27.toNat : Int), .int .u8 (k28.toNat : Int), .int .u8 (k29.toNat : Int), .int .u8 (k30.toNat : Int), .int .u8 (k31.toNat : Int)])).run Tryz.prog w = .ok true w := hq
  show (Op.equalIn 10000 59 (.agg #[.int .u8 (k0.toNat : Int), .int .u8 (k1.toNat : Int), .int .u8 (k2.toNat : Int), .int .u8 (k3.toNat : Int), .int .u8 (k4.toNat : Int), .int .u8 (k5.toNat : Int), .int .u8 (k6.toNat : Int), .int .u8 (k7.toNat : Int), .int .u8 (k8.toNat : Int), .int .u8 (k9.toNat : Int), .int .u8 (k10.toNat : Int), .int .u8 (k11.toNat : Int), .int .u8 (k12.toNat : Int), .int .u8 (k13.toNat : Int), .int .u8 (k14.toNat : Int), .int .u8 (k15.toNat : Int), .int .u8 (k16.toNat : Int), .int .u8 (k17.toNat : Int), .int .u8 (k18.toNat : Int), .int .u8 (k19.toNat : Int), .int .u8 (k20.toNat : Int), .int .u8 (k21.toNat : Int), .int .u8 (k22.toNat : Int), .int .u8 (k23.toNat : Int), .int .u8 (k24.toNat : Int), .int .u8 (k25.toNat : Int), .int .u8 (k26.toNat : Int), .int .u8 (k27.toNat : Int), .int .u8 (k28.toNat : Int), .int .u8 (k29.toNat : Int), .int .u8 (k30.toNat : Int), .int .u8 (k31.toNat : Int), .string ⟨c.1.toArray⟩, .string ⟨c.2.toArray⟩, .int .i64 st, .int .i64 en, .int .i64 no]) (.agg #[.int .u8 (k0.toNat : Int), .int .u8 (k1.toNat : Int), .int .u8 (k2.toNat : Int), .int .u8 (k3.toNat : Int), .int .u8 (k4.toNat : Int), .int .u8 (k5.toNat : Int), .int .u8 (k6.toNat : Int), .int .u8 (k7.toNat : Int), .int .u8 (k8.toNat : Int), .int .u8 (k9.toNat : Int), .int .u8 (k10.toNat : Int), .int .u8 (k11.toNat : Int), .int .u8 (k12.toNat : Int), .int .u8 (k13.toNat : Int), .int .u8 (k14.toNat : Int), .int .u8 (k15.toNat : Int), .int .u8 (k16.toNat : Int), .int .u8 (k17.toNat : Int), .int .u8 (k18.toNat : Int), .int .u8 (k19.toNat : Int), .int .u8 (k20.toNat : Int), .int .u8 (k21.toNat : Int), .int .u8 (k22.toNat : Int), .int .u8 (k23.toNat : Int), .int .u8 (k24.toNat : Int), .int .u8 (k25.toNat : Int), .int .u8 (k26.toNat : Int), .int .u8 (k27.toNat : Int), .int .u8 (k28.toNat : Int), .int .u8 (k29.toNat : Int), .int .u8 (k30.toNat : Int), .int .u8 (k31.toNat : Int), .string ⟨c.1.toArray⟩, .string ⟨c.2.toArray⟩, .int .i64 st, .int .i64 en, .int .i64 no])).run Tryz.prog w = .ok true w
  go_simp
end Go.Proofs.YteeabfplnaknfaaGreat.Mc
end

section
set_option linter.unusedVariables false
set_option linter.unusedSimpArgs false
namespace Go.Proofs.YteeabfplnaknfaaGreat.Mc
open Go.RowKit Go.Proofs.YteeabfplnaknfaaGreat.Mem Go.Proofs.YteeabfplnaknfaaGreat.DerP Go.Proofs.YteeabfplnaknfaaGreat.Ms

theorem kn_form : mgO ⟨5, as0, tg0, re0, ap0, ⟨3, 1⟩⟩ = some [126, 6, 2, 1, 3, 2, 1, 1] := by decide +kernel
theorem kn_sm : mSm ⟨5, as0, tg0, re0, ap0, ⟨3, 1⟩⟩ := ⟨⟨⟨by decide, by decide⟩, ⟨by decide, by decide⟩⟩, ⟨⟨by decide, by decide⟩, ⟨by decide, by decide⟩⟩, ⟨⟨by decide, by decide⟩, ⟨by decide, by decide⟩⟩, ⟨by decide, by decide⟩⟩
set_option maxHeartbeats 3200000 in
set_option maxRecDepth 10000 in
theorem known_any (w : World) : Calls Tryz.prog 15 #[] w fun e w' => e = .returned (.bool true) ∧ Below w.heap.size w w' := by
  have HF : FaV #[.int .i64 3, .int .i64 1] ⟨3, 1⟩ := rfl
  have HB := Lib.hid (built_fa HF)
  have HV : MgV w w.heap.size (mgA 5 zA zT zR zP #[.int .i64 3, .int .i64 1]) ⟨5, as0, tg0, re0, ap0, ⟨3, 1⟩⟩ := ⟨_, _, _, _, _, rfl, ⟨zA_v, zT_v w _, zR_v w _, zP_v w _, HF⟩⟩
  have EN := enc_any _ _ w HV kn_sm
  rw [kn_form] at EN
  clear HF HV
  obtain ⟨ds, eds⟩ : ∃ ds, ds = mgA 5 zA zT zR zP #[.int .i64 3, .int .i64 1] := ⟨_, rfl⟩
  rw [← eds] at HB EN
  clear eds
  go_enter Tryz.func15, Tryz.ntmps15
  go_wp2_with (first
    | (refine wpList_built (by rfl) 39 #[(0, .const (.int .i64 5)), (5, .tmp 4)] (by rfl) ds (by simp only [List.map_toArray, List.map_cons, List.map_nil]; exact HB.out) ?_)
    | (go_at_call 9; refine Calls.mono EN ?_; rintro e we ⟨⟨v, i, rfl, hn, hsm⟩, hb⟩; obtain ⟨rfl, gx, cx, rfl, hgx, hcx, hrx⟩ := hsm _ rfl; have H := Lib.hid hb; clear EN hb hn hsm; have hcv1 := run_bytes_str (P := Tryz.prog) we 26 5 Tryz.underlying26 Tryz.underlying5 hrx 8 cx rfl 9 Tryz.underlying9)
    | fail)
  go_ret
  exact ⟨rfl, H.out⟩
end Go.Proofs.YteeabfplnaknfaaGreat.Mc
end

section
set_option linter.unusedVariables false
set_option linter.unusedSimpArgs false
namespace Go.Proofs.YteeabfplnaknfaaGreat.Mc
open Go.RowKit Go.Proofs.YteeabfplnaknfaaGreat.Mem Go.Proofs.YteeabfplnaknfaaGreat.DerP Go.Proofs.YteeabfplnaknfaaGreat.Ms

theorem stored_at (w : World) (t : TypeId) (lit cs : Array Value) (hs : lit.size = cs.size) : Blk ((w.alloc (.cells lit t)).setCells w.heap.size 0 cs.toList) w.heap.size t cs ∧ Below w.heap.size w ((w.alloc (.cells lit t)).setCells w.heap.size 0 cs.toList) :=
  ⟨blk_cells (Blk.new w t lit) hs, below_g ((Below.refl w.heap.size w).alloc (Nat.le_refl _) _) (put_cells _ _ _) (by simp) (Nat.le_refl _)⟩
theorem store_new {P : Program} {ops : Array Oper} {rest : List Oper} {op : Oper} {a : Act} {w w0 : World} {Q : Exit → Act → World → Prop} {lit : Array Value} (hgd : op.guard = none) (ty : TypeId) (x y : Operand) (ho : op.op = .store ty x y) (t : TypeId) (hw : w = w0.alloc (.cells lit t))
    (cells : Array Value) (hx : a.eval x = .pointer (some ⟨w0.heap.size, 0, none⟩)) (hy : a.eval y = .agg cells) (hs : lit.size = cells.size)
    (hi : (P.info? ty).map (·.size) = some cells.size) (h1 : cells.all (·.oneCell') = true)
    (h : ∀ V, Blk V w0.heap.size t cells → Below w0.heap.size w0 V → wpList P ops Q rest (a.put op.dst undef) V) : wpList P ops Q (op :: rest) a w := by
  subst hw
  have hV := stored_at w0 t lit cells hs
  exact wpList_store_mid hgd ty x y ho w0.heap.size 0 cells hx hy (there_blk (Blk.new w0 t lit) _ (by omega)) hi h1 (h _ hV.1 hV.2)
theorem enc_str {w w' : World} {o : Option L} {e : Ending} (h : EncR w o e w') : ∃ A c, e = .returned (.tuple #[.slice A (o.getD []).length c, .int .i64 (if o.isSome then 0 else 1)]) ∧ (o.getD []).length ≤ c ∧ Rd w' w'.heap.size A (bvs (o.getD [])) ∧ Below w.heap.size w w' := by
  obtain ⟨⟨v, i, rfl, hn, hs⟩, hb⟩ := h
  cases o with
  | none => obtain ⟨rfl, rfl⟩ := hn rfl; exact ⟨none, 0, rfl, Nat.le_refl _, .inl rfl, hb⟩
  | some l => obtain ⟨rfl, g, c, rfl, _, hc, hr⟩ := hs l rfl; exact ⟨_, c, rfl, hc, hr, hb⟩
end Go.Proofs.YteeabfplnaknfaaGreat.Mc
end

section
namespace Go.Proofs.YteeabfplnaknfaaGreat.Open
open Go.ChangeShapes Go.WideShapes Go.ChangeAt Go.RowKit Go.Deep Go.Proofs.YteeabfplnaknfaaGreat.Mem

theorem u8_of_wf {n : Int} (h : (Lit.int .u8 n).wf = true) : ∃ b : UInt8, n = (b.toNat : Int) := by
  have hx : 0 ≤ n ∧ n ≤ 255 := by simpa [Lit.wf, IntKind.min, IntKind.max, IntKind.signed, IntKind.bits] using h
  refine ⟨UInt8.ofNat n.toNat, ?_⟩
  have : (UInt8.ofNat n.toNat).toNat = n.toNat := by simp; omega
  rw [this]; omega
theorem u32_of_wf {n : Int} (h : (Lit.int .u32 n).wf = true) : ∃ v : BitVec 32, n = (v.toNat : Int) := by
  have hx : 0 ≤ n ∧ n ≤ 4294967295 := by simpa [Lit.wf, IntKind.min, IntKind.max, IntKind.signed, IntKind.bits] using h
  refine ⟨BitVec.ofNat 32 n.toNat, ?_⟩
  rw [BitVec.toNat_ofNat]; omega
theorem u64_of_wf {n : Int} (h : (Lit.int .u64 n).wf = true) : ∃ v : Nat, n = (v : Int) ∧ v < 18446744073709551616 := by
  have hx : 0 ≤ n ∧ n ≤ 18446744073709551615 := by simpa [Lit.wf, IntKind.min, IntKind.max, IntKind.signed, IntKind.bits] using h
  exact ⟨n.toNat, by omega, by omega⟩
theorem i64_of_wf {n : Int} (h : (Lit.int .i64 n).wf = true) : -9223372036854775808 ≤ n ∧ n ≤ 9223372036854775807 := by
  simpa [Lit.wf, IntKind.min, IntKind.max, IntKind.signed, IntKind.bits] using h

theorem addr_none {w : World} {x : Addr} {v : Value} (h : w.cell? x = some v) : ∃ b o, x = ⟨b, o, none⟩ := by
  obtain ⟨b, o, s⟩ := x
  have := World.cell?_spot h
  exact ⟨b, o, by rw [show s = none from this]⟩

theorem rd_of_cells {w : World} {x : Addr} {xs : List Value} (h : ∀ i u, xs[i]? = some u → w.cell? (x.add i) = some u) : Rd w w.heap.size (some x) xs := by
  cases xs with
  | nil => exact .inl rfl
  | cons a r =>
    have h0 := h 0 a rfl
    rw [show x.add 0 = x by simp [Addr.add]] at h0
    obtain ⟨b, o, rfl⟩ := addr_none h0
    exact .inr ⟨b, o, rfl, World.block_lt_of_cell? w _ h0, fun i u hu => by have := h i u hu; rwa [addr_add] at this⟩

theorem bytes_of_ints {k : Nat} {zs : List Int} (hk : k ≤ zs.length) (hw : ∀ n ∈ zs, (Lit.int .u8 n).wf = true) : ∃ l : List UInt8, l.length = k ∧ ∀ i u, (bvs l)[i]? = some u → i < zs.length ∧ u = .int .u8 (zs.getD i 0) := by
  refine ⟨(zs.take k).map fun n => UInt8.ofNat n.toNat, by simp; omega, fun i u hu => ?_⟩
  have hi : i < k := by
    rcases Nat.lt_or_ge i k with g | g
    · exact g
    · rw [List.getElem?_eq_none (by simp [bvs]; omega)] at hu; cases hu
  have hz : i < zs.length := by omega
  refine ⟨hz, ?_⟩
  obtain ⟨b, hb⟩ := u8_of_wf (hw _ (List.getElem_mem hz))
  simp only [bvs, List.map_map, List.getElem?_map, List.getElem?_take, if_pos hi, List.getElem?_eq_getElem hz, Option.map_some, Function.comp] at hu
  injection hu with hu
  rw [← hu, List.getD, List.getElem?_eq_getElem hz, Option.getD_some, hb]
  simp [bv]

section
variable {H : Type} {enc : TypeId × Value → H} {P : Program} {W : World}

theorem bytes_trod {t e : TypeId} {held : Bool} {fuel : Nat} {v : Value} {x : DataW H × List MemPlace} (ht : P.underlying t = some (.slice e)) (he : P.underlying e = some (.int .u8)) (hc : P.cellsOf e = 1)
    (h : DataW.trod enc P W 0 (fun _ => true) held fuel t [v] = some x) : ∃ A l c, v = .slice A (List.length l) c ∧ Rd W W.heap.size A (bvs l) ∧ l.length ≤ c ∧ c ≤ maxLen := by
  rcases open_ints ht he hc h with ⟨hcs, _⟩ | ⟨x, l, c, zs, hcs, _, hl, hm, hz, _, hcell, hwz⟩
  · injection hcs with hcs
    exact ⟨none, [], 0, hcs, .inl rfl, Nat.le_refl _, Nat.zero_le _⟩
  · injection hcs with hcs
    simp only [if_true] at hz
    obtain ⟨bs, hbl, hb⟩ := bytes_of_ints (k := l) (zs := zs) (by omega) hwz
    refine ⟨some x, bs, c, by rw [hbl]; exact hcs, rd_of_cells fun i u hu => ?_, by omega, hm⟩
    obtain ⟨h1, h2⟩ := hb i u hu
    rw [hcell i h1, h2]

theorem open_bytes {t e : TypeId} {v : Value} {d : DataW H} {ps : List MemPlace} (ht : P.underlying t = some (.slice e)) (he : P.underlying e = some (.int .u8)) (hc : P.cellsOf e = 1)
    (hv : ∃ A n c, v = .slice A n c) (h : DataW.Trod enc P W 0 (fun _ => true) true t v d ps) : ∃ A l c, v = .slice A (List.length l) c ∧ Rd W W.heap.size A (bvs l) ∧ l.length ≤ c ∧ c ≤ maxLen := by
  obtain ⟨A, n, c, rfl⟩ := hv
  obtain ⟨fuel, hf⟩ := h
  exact bytes_trod ht he hc hf

end

end Go.Proofs.YteeabfplnaknfaaGreat.Open
end

section
set_option linter.unusedVariables false
namespace Go.Proofs.YteeabfplnaknfaaGreat.OpenW
open Go.Joins Go.ChangeShapes Go.WideShapes Go.ChangeAt Go.RowKit Go.Deep Go.Proofs.YteeabfplnaknfaaGreat Go.Proofs.YteeabfplnaknfaaGreat.Open Go.Proofs.YteeabfplnaknfaaGreat.Mem Go.Proofs.YteeabfplnaknfaaGreat.Ms Go.Proofs.YteeabfplnaknfaaGreat.Mc

theorem cut {α : Type} (cs : List α) (o c : Nat) : cs.drop o = (cs.drop o).take c ++ cs.drop (o + c) := by
  rw [← List.drop_drop]; exact (List.take_append_drop c _).symm
section
variable {H : Type} {enc : TypeId × Value → H} {W : World}
theorem bytes_trod_w {t e : TypeId} {held : Bool} {fuel : Nat} {v : Value} {x : DataW H × List MemPlace} {P : Program} (ht : P.underlying t = some (.slice e)) (he : P.underlying e = some (.int .u8)) (hc : P.cellsOf e = 1) (hb1 : P.bytesOf e = 1)
    (h : DataW.trod enc P W 0 (fun _ => true) held fuel t [v] = some x) (hw : ∀ n ∈ DataW.weights P t x.1, n ≤ reachBytes) : ∃ A l c, v = .slice A (List.length l) c ∧ Rd W W.heap.size A (bvs l) ∧ l.length ≤ c ∧ l.length ≤ reachBytes := by
  rcases open_ints ht he hc h with ⟨hcs, _⟩ | ⟨a0, l, c, zs, hcs, _, hl, hm, hz, hdat, hcell, hwz⟩
  · injection hcs with hcs
    exact ⟨none, [], 0, hcs, .inl rfl, Nat.le_refl _, Nat.zero_le _⟩
  · injection hcs with hcs
    simp only [if_true] at hz
    obtain ⟨bs, hbl, hb⟩ := bytes_of_ints (k := l) (zs := zs) (by omega) hwz
    refine ⟨some a0, bs, c, by rw [hbl]; exact hcs, rd_of_cells fun i u hu => ?_, by omega, ?_⟩
    · obtain ⟨h1, h2⟩ := hb i u hu
      rw [hcell i h1, h2]
    · have h1 := hw ((lits (H := H) .u8 (zs.take l)).length + (lits (H := H) .u8 (zs.drop l)).length) (by rw [hdat]; simp [DataW.weights, ht, hb1])
      have h2 : (lits (H := H) .u8 (zs.take l)).length + (lits (H := H) .u8 (zs.drop l)).length = zs.length := by simp [lits]; omega
      omega
theorem c_str : Tryz.prog.cellsOf 9 = 1 := by kernel_rfl
theorem c_int : Tryz.prog.cellsOf 3 = 1 := by kernel_rfl
theorem c_byt : Tryz.prog.cellsOf 26 = 1 := by kernel_rfl
theorem c_u8 : Tryz.prog.cellsOf 5 = 1 := by kernel_rfl
theorem c_pr : Tryz.prog.cellsOf 23 = 2 := by kernel_rfl
def Lp (p : Pr) : Prop := p.1.length ≤ reachBytes ∧ p.2.length ≤ reachBytes
theorem in_str {n : Nat} {cs : List Value} {x : DataW H × List MemPlace} (h : DataW.trod enc Tryz.prog W 0 (fun _ => true) true n 9 cs = some x) (hw : ∀ n ∈ DataW.weights Tryz.prog 9 x.1, n ≤ reachBytes) : ∃ l : List UInt8, cs = [.string ⟨l.toArray⟩] ∧ l.length ≤ reachBytes ∧ l.length ≤ Rows.uptoBulk x.1 := by
  obtain ⟨s, hs, hx, hz⟩ := DataW.trod_string Tryz.underlying9 h
  refine ⟨s.data.toList, by rw [hs, ← Mem.bytes_eta s], hw _ (by rw [hx]; simp [DataW.weights]), ?_⟩
  rw [hx]; show _ ≤ Rows.uptoBulk (.lit (.string s.data.toList)); rw [Rows.uptoBulk]; omega
theorem in_int {n : Nat} {cs : List Value} {x : DataW H × List MemPlace} (h : DataW.trod enc Tryz.prog W 0 (fun _ => true) true n 3 cs = some x) : ∃ i : Int, cs = [.int .i64 i] ∧ (Lit.int .i64 i).wf = true := by
  obtain ⟨i, h1, _, h2⟩ := DataW.trod_int Tryz.underlying3 h
  exact ⟨i, h1, h2⟩
theorem in_byt {n : Nat} {cs : List Value} {x : DataW H × List MemPlace} (hl : cs.length = 1) (h : DataW.trod enc Tryz.prog W 0 (fun _ => true) true n 26 cs = some x) (hw : ∀ n ∈ DataW.weights Tryz.prog 26 x.1, n ≤ reachBytes) : ∃ u l, cs = [u] ∧ SlB W W.heap.size u l ∧ l.length ≤ reachBytes := by
  match cs, hl with
  | [u], _ =>
    obtain ⟨A, l, c, rfl, h1, h2, h3⟩ := bytes_trod_w Tryz.underlying26 Tryz.underlying5 c_u8 (by kernel_rfl) h hw
    exact ⟨_, l, rfl, ⟨A, c, rfl, h2, h1⟩, h3⟩
theorem in_pr {n : Nat} {cs : List Value} {x : DataW H × List MemPlace} (h : DataW.trod enc Tryz.prog W 0 (fun _ => true) true n 23 cs = some x) (hw : ∀ n ∈ DataW.weights Tryz.prog 23 x.1, n ≤ reachBytes) : ∃ p : Pr, cs = prC p ∧ Lp p ∧ p.1.length ≤ Rows.uptoBulk x.1 ∧ p.2.length ≤ Rows.uptoBulk x.1 := by
  obtain ⟨y0, y1, m, hx, hl, h0, h1⟩ := trod_struct2 Tryz.underlying23 h
  simp only [c_str] at h0 h1
  have fw := fun (j : Nat) (t : TypeId) (d : DataW H) (ht : [9, 9][j]? = some t) (hd : [y0.1, y1.1][j]? = some d) (n : Nat) (hn : n ∈ d.weights Tryz.prog t) => hw n (by rw [hx]; simp only [DataW.weights, Tryz.underlying23]; exact DataW.weights_mem_each ht hd n hn)
  obtain ⟨l0, e0, b0, u0⟩ := in_str h0 (fw 0 _ _ rfl rfl)
  obtain ⟨l1, e1, b1, u1⟩ := in_str h1 (fw 1 _ _ rfl rfl)
  rw [c_pr] at hl
  refine ⟨(l0, l1), ?_, ⟨b0, b1⟩, ?_⟩
  · have k0 := cut cs 0 1
    have k1 := cut cs 1 1
    rw [e0] at k0
    rw [show 0 + 1 = 1 from rfl, k1, e1, List.drop_of_length_le (show cs.length ≤ 1 + 1 by omega)] at k0
    exact k0
  · rw [hx]
    show _ ≤ Rows.uptoBulk (.agg [y0.1, y1.1]) ∧ _ ≤ Rows.uptoBulk (.agg [y0.1, y1.1])
    rw [Rows.uptoBulk, Rows.uptoBulkAll, Rows.uptoBulkAll, Rows.uptoBulkAll]
    constructor <;> (simp only; omega)
theorem fn_list {α : Type} {n : Nat} {p : Nat → α → Prop} (h : ∀ i, i < n → ∃ a, p i a) : ∃ l : List α, l.length = n ∧ ∀ i (hi : i < l.length), p i l[i] := by
  induction n with
  | zero => exact ⟨[], rfl, fun i hi => by simp at hi⟩
  | succ n ih =>
    obtain ⟨l, hl, hp⟩ := ih fun i hi => h i (by omega)
    obtain ⟨a, ha⟩ := h n (by omega)
    refine ⟨l ++ [a], by simp [hl], fun i hi => ?_⟩
    rw [List.length_append, List.length_singleton] at hi
    by_cases g : i < l.length
    · rw [List.getElem_append_left g]; exact hp i g
    · obtain rfl : i = l.length := by omega
      rw [List.getElem_append_right (Nat.le_refl _)]
      simp only [Nat.sub_self, List.getElem_cons_zero]
      rw [hl]; exact ha
theorem bulk_in {d : DataW H} {l : List (DataW H)} (h : d ∈ l) : Rows.uptoBulk d ≤ Rows.uptoBulkAll l := by
  induction l with
  | nil => cases h
  | cons x r ih =>
    rw [Rows.uptoBulkAll]
    rcases List.mem_cons.1 h with e | e
    · rw [e]; omega
    · have := ih e; omega
theorem bulk_agg {d : DataW H} {l : List (DataW H)} (h : d ∈ l) : Rows.uptoBulk d ≤ Rows.uptoBulk (.agg l) := by
  have := bulk_in h
  rw [Rows.uptoBulk]; omega
theorem c_key : Tryz.prog.cellsOf 53 = 32 := by kernel_rfl
theorem in_key {n : Nat} {cs : List Value} {x : DataW H × List MemPlace} (h : DataW.trod enc Tryz.prog W 0 (fun _ => true) true n 53 cs = some x) : ∃ k : List UInt8, k.length = 32 ∧ cs = bvs k := by
  obtain ⟨xs, m, _, hx, hl, hxl, hxs⟩ := DataW.trod_array Tryz.underlying53 h
  rw [c_key] at hl
  have each : ∀ i, i < 32 → ∃ b : UInt8, cs[i]? = some (bv b) := by
    intro i hi
    have g := hxs i (by omega)
    rw [c_u8, Nat.mul_one, List.getElem?_eq_getElem (by omega)] at g
    obtain ⟨v, h1, _, h2⟩ := DataW.trod_int Tryz.underlying5 g
    obtain ⟨b, rfl⟩ := u8_of_wf h2
    refine ⟨b, ?_⟩
    have e := congrArg (fun l : List Value => l[0]?) h1
    simp only [List.getElem?_cons_zero] at e
    rw [List.getElem?_take_of_lt (by omega), List.getElem?_drop, Nat.add_zero] at e
    exact e
  obtain ⟨k, hk, hp⟩ := fn_list each
  refine ⟨k, hk, List.ext_getElem? fun i => ?_⟩
  by_cases hi : i < k.length
  · rw [hp i hi, bvs_at hi]
  · rw [List.getElem?_eq_none (by omega), List.getElem?_eq_none (by rw [bvs_length]; omega)]
theorem c_tk : Tryz.prog.cellsOf 28 = 4 := by kernel_rfl
theorem in_tk {n : Nat} {cs : List Value} {x : DataW H × List MemPlace} (h : DataW.trod enc Tryz.prog W 0 (fun _ => true) true n 28 cs = some x) (hw : ∀ n ∈ DataW.weights Tryz.prog 28 x.1, n ≤ reachBytes) : ∃ (t : Tk) (b : Value), cs = tkC t b ∧ SlB W W.heap.size b t.b ∧ (Lp t.s ∧ t.b.length ≤ reachBytes) := by
  obtain ⟨xs, m, _, hx, hl, hxl, hf⟩ := DataW.trod_struct Tryz.underlying28 h
  rw [c_tk] at hl
  match xs, hxl with
  | [y0_, y1_, y2_], _ =>
    have fw := fun (j : Nat) (t : TypeId) (d : DataW H) (ht : _[j]? = some t) (hd : [y0_.1, y1_.1, y2_.1][j]? = some d) (n : Nat) (hn : n ∈ d.weights Tryz.prog t) => hw n (by rw [hx]; simp only [DataW.weights, Tryz.underlying28]; exact DataW.weights_mem_each ht hd n hn)
    have h0 : DataW.trod enc Tryz.prog W 0 (fun _ => true) true m 23 ((cs.drop 0).take (Tryz.prog.cellsOf 23)) = some y0_ := hf 0 _ rfl
    rw [c_pr] at h0
    obtain ⟨l0, e0, b0, u0, w0⟩ := in_pr h0 (fw 0 _ _ rfl rfl)
    have h1 : DataW.trod enc Tryz.prog W 0 (fun _ => true) true m 3 ((cs.drop 2).take (Tryz.prog.cellsOf 3)) = some y1_ := hf 1 _ rfl
    rw [c_int] at h1
    obtain ⟨l1, e1, b1⟩ := in_int h1
    have h2 : DataW.trod enc Tryz.prog W 0 (fun _ => true) true m 26 ((cs.drop 3).take (Tryz.prog.cellsOf 26)) = some y2_ := hf 2 _ rfl
    rw [c_byt] at h2
    obtain ⟨z2, l2, e2, s2, b2⟩ := in_byt (by rw [List.length_take, List.length_drop]; omega) h2 (fw 2 _ _ rfl rfl)
    have k0 := cut cs 0 2
    rw [e0] at k0
    have k1 := cut cs 2 1
    rw [e1] at k1
    have k2 := cut cs 3 1
    rw [e2] at k2
    have k : cs = cs.drop 0 := rfl
    rw [k0, show 0 + 2 = 2 from rfl] at k
    rw [k1, show 2 + 1 = 3 from rfl] at k
    rw [k2, show 3 + 1 = 4 from rfl] at k
    rw [show cs.drop 4 = [] from List.drop_of_length_le (by omega)] at k
    clear hf h h0 k0 e0 h1 k1 e1 h2 k2 e2
    exact ⟨⟨l0, l1, l2⟩, z2, k, s2, b0, b2⟩
theorem c_as : Tryz.prog.cellsOf 25 = 6 := by kernel_rfl
theorem in_as {n : Nat} {cs : List Value} {x : DataW H × List MemPlace} (h : DataW.trod enc Tryz.prog W 0 (fun _ => true) true n 25 cs = some x) (hw : ∀ n ∈ DataW.weights Tryz.prog 25 x.1, n ≤ reachBytes) : ∃ (q : As), cs = asC q ∧ (Lp q.c ∧ Lp q.s) := by
  obtain ⟨xs, m, _, hx, hl, hxl, hf⟩ := DataW.trod_struct Tryz.underlying25 h
  rw [c_as] at hl
  match xs, hxl with
  | [y0_, y1_, y2_, y3_], _ =>
    have fw := fun (j : Nat) (t : TypeId) (d : DataW H) (ht : _[j]? = some t) (hd : [y0_.1, y1_.1, y2_.1, y3_.1][j]? = some d) (n : Nat) (hn : n ∈ d.weights Tryz.prog t) => hw n (by rw [hx]; simp only [DataW.weights, Tryz.underlying25]; exact DataW.weights_mem_each ht hd n hn)
    have h0 : DataW.trod enc Tryz.prog W 0 (fun _ => true) true m 23 ((cs.drop 0).take (Tryz.prog.cellsOf 23)) = some y0_ := hf 0 _ rfl
    rw [c_pr] at h0
    obtain ⟨l0, e0, b0, u0, w0⟩ := in_pr h0 (fw 0 _ _ rfl rfl)
    have h1 : DataW.trod enc Tryz.prog W 0 (fun _ => true) true m 23 ((cs.drop 2).take (Tryz.prog.cellsOf 23)) = some y1_ := hf 1 _ rfl
    rw [c_pr] at h1
    obtain ⟨l1, e1, b1, u1, w1⟩ := in_pr h1 (fw 1 _ _ rfl rfl)
    have h2 : DataW.trod enc Tryz.prog W 0 (fun _ => true) true m 3 ((cs.drop 4).take (Tryz.prog.cellsOf 3)) = some y2_ := hf 2 _ rfl
    rw [c_int] at h2
    obtain ⟨l2, e2, b2⟩ := in_int h2
    have h3 : DataW.trod enc Tryz.prog W 0 (fun _ => true) true m 3 ((cs.drop 5).take (Tryz.prog.cellsOf 3)) = some y3_ := hf 3 _ rfl
    rw [c_int] at h3
    obtain ⟨l3, e3, b3⟩ := in_int h3
    have k0 := cut cs 0 2
    rw [e0] at k0
    have k1 := cut cs 2 2
    rw [e1] at k1
    have k2 := cut cs 4 1
    rw [e2] at k2
    have k3 := cut cs 5 1
    rw [e3] at k3
    have k : cs = cs.drop 0 := rfl
    rw [k0, show 0 + 2 = 2 from rfl] at k
    rw [k1, show 2 + 2 = 4 from rfl] at k
    rw [k2, show 4 + 1 = 5 from rfl] at k
    rw [k3, show 5 + 1 = 6 from rfl] at k
    rw [show cs.drop 6 = [] from List.drop_of_length_le (by omega)] at k
    clear hf h h0 k0 e0 h1 k1 e1 h2 k2 e2 h3 k3 e3
    exact ⟨⟨l0, l1, l2, l3⟩, k, b0, b1⟩
theorem c_tg : Tryz.prog.cellsOf 30 = 9 := by kernel_rfl
theorem in_tg {n : Nat} {cs : List Value} {x : DataW H × List MemPlace} (h : DataW.trod enc Tryz.prog W 0 (fun _ => true) true n 30 cs = some x) (hw : ∀ n ∈ DataW.weights Tryz.prog 30 x.1, n ≤ reachBytes) : ∃ (q : Tg) (b a : Value), cs = tgC q b a ∧ SlB W W.heap.size b q.t.b ∧ SlB W W.heap.size a q.a ∧ ((Lp q.t.s ∧ q.t.b.length ≤ reachBytes) ∧ q.a.length ≤ reachBytes ∧ Lp q.s) := by
  obtain ⟨xs, m, _, hx, hl, hxl, hf⟩ := DataW.trod_struct Tryz.underlying30 h
  rw [c_tg] at hl
  match xs, hxl with
  | [y0_, y1_, y2_, y3_, y4_], _ =>
    have fw := fun (j : Nat) (t : TypeId) (d : DataW H) (ht : _[j]? = some t) (hd : [y0_.1, y1_.1, y2_.1, y3_.1, y4_.1][j]? = some d) (n : Nat) (hn : n ∈ d.weights Tryz.prog t) => hw n (by rw [hx]; simp only [DataW.weights, Tryz.underlying30]; exact DataW.weights_mem_each ht hd n hn)
    have h0 : DataW.trod enc Tryz.prog W 0 (fun _ => true) true m 28 ((cs.drop 0).take (Tryz.prog.cellsOf 28)) = some y0_ := hf 0 _ rfl
    rw [c_tk] at h0
    obtain ⟨l0, z0, e0, s0, b0⟩ := in_tk h0 (fw 0 _ _ rfl rfl)
    have h1 : DataW.trod enc Tryz.prog W 0 (fun _ => true) true m 26 ((cs.drop 4).take (Tryz.prog.cellsOf 26)) = some y1_ := hf 1 _ rfl
    rw [c_byt] at h1
    obtain ⟨z1, l1, e1, s1, b1⟩ := in_byt (by rw [List.length_take, List.length_drop]; omega) h1 (fw 1 _ _ rfl rfl)
    have h2 : DataW.trod enc Tryz.prog W 0 (fun _ => true) true m 23 ((cs.drop 5).take (Tryz.prog.cellsOf 23)) = some y2_ := hf 2 _ rfl
    rw [c_pr] at h2
    obtain ⟨l2, e2, b2, u2, w2⟩ := in_pr h2 (fw 2 _ _ rfl rfl)
    have h3 : DataW.trod enc Tryz.prog W 0 (fun _ => true) true m 3 ((cs.drop 7).take (Tryz.prog.cellsOf 3)) = some y3_ := hf 3 _ rfl
    rw [c_int] at h3
    obtain ⟨l3, e3, b3⟩ := in_int h3
    have h4 : DataW.trod enc Tryz.prog W 0 (fun _ => true) true m 3 ((cs.drop 8).take (Tryz.prog.cellsOf 3)) = some y4_ := hf 4 _ rfl
    rw [c_int] at h4
    obtain ⟨l4, e4, b4⟩ := in_int h4
    have k0 := cut cs 0 4
    rw [e0] at k0
    have k1 := cut cs 4 1
    rw [e1] at k1
    have k2 := cut cs 5 2
    rw [e2] at k2
    have k3 := cut cs 7 1
    rw [e3] at k3
    have k4 := cut cs 8 1
    rw [e4] at k4
    have k : cs = cs.drop 0 := rfl
    rw [k0, show 0 + 4 = 4 from rfl] at k
    rw [k1, show 4 + 1 = 5 from rfl] at k
    rw [k2, show 5 + 2 = 7 from rfl] at k
    rw [k3, show 7 + 1 = 8 from rfl] at k
    rw [k4, show 8 + 1 = 9 from rfl] at k
    rw [show cs.drop 9 = [] from List.drop_of_length_le (by omega)] at k
    clear hf h h0 k0 e0 h1 k1 e1 h2 k2 e2 h3 k3 e3 h4 k4 e4
    exact ⟨⟨l0, l1, l2, l3, l4⟩, z0, z1, k, s0, s1, b0, b1, b2⟩
theorem c_re : Tryz.prog.cellsOf 32 = 7 := by kernel_rfl
theorem in_re {n : Nat} {cs : List Value} {x : DataW H × List MemPlace} (h : DataW.trod enc Tryz.prog W 0 (fun _ => true) true n 32 cs = some x) (hw : ∀ n ∈ DataW.weights Tryz.prog 32 x.1, n ≤ reachBytes) : ∃ (q : Re) (b a : Value), cs = reC q b a ∧ SlB W W.heap.size b q.t.b ∧ SlB W W.heap.size a q.b ∧ ((Lp q.t.s ∧ q.t.b.length ≤ reachBytes) ∧ q.b.length ≤ reachBytes ∧ Lp q.c) := by
  obtain ⟨xs, m, _, hx, hl, hxl, hf⟩ := DataW.trod_struct Tryz.underlying32 h
  rw [c_re] at hl
  match xs, hxl with
  | [y0_, y1_, y2_], _ =>
    have fw := fun (j : Nat) (t : TypeId) (d : DataW H) (ht : _[j]? = some t) (hd : [y0_.1, y1_.1, y2_.1][j]? = some d) (n : Nat) (hn : n ∈ d.weights Tryz.prog t) => hw n (by rw [hx]; simp only [DataW.weights, Tryz.underlying32]; exact DataW.weights_mem_each ht hd n hn)
    have h0 : DataW.trod enc Tryz.prog W 0 (fun _ => true) true m 23 ((cs.drop 0).take (Tryz.prog.cellsOf 23)) = some y0_ := hf 0 _ rfl
    rw [c_pr] at h0
    obtain ⟨l0, e0, b0, u0, w0⟩ := in_pr h0 (fw 0 _ _ rfl rfl)
    have h1 : DataW.trod enc Tryz.prog W 0 (fun _ => true) true m 28 ((cs.drop 2).take (Tryz.prog.cellsOf 28)) = some y1_ := hf 1 _ rfl
    rw [c_tk] at h1
    obtain ⟨l1, z1, e1, s1, b1⟩ := in_tk h1 (fw 1 _ _ rfl rfl)
    have h2 : DataW.trod enc Tryz.prog W 0 (fun _ => true) true m 26 ((cs.drop 6).take (Tryz.prog.cellsOf 26)) = some y2_ := hf 2 _ rfl
    rw [c_byt] at h2
    obtain ⟨z2, l2, e2, s2, b2⟩ := in_byt (by rw [List.length_take, List.length_drop]; omega) h2 (fw 2 _ _ rfl rfl)
    have k0 := cut cs 0 2
    rw [e0] at k0
    have k1 := cut cs 2 4
    rw [e1] at k1
    have k2 := cut cs 6 1
    rw [e2] at k2
    have k : cs = cs.drop 0 := rfl
    rw [k0, show 0 + 2 = 2 from rfl] at k
    rw [k1, show 2 + 4 = 6 from rfl] at k
    rw [k2, show 6 + 1 = 7 from rfl] at k
    rw [show cs.drop 7 = [] from List.drop_of_length_le (by omega)] at k
    clear hf h h0 k0 e0 h1 k1 e1 h2 k2 e2
    exact ⟨⟨l0, l1, l2⟩, z1, z2, k, s1, s2, b1, b2, b0⟩
theorem c_ap : Tryz.prog.cellsOf 34 = 5 := by kernel_rfl
theorem in_ap {n : Nat} {cs : List Value} {x : DataW H × List MemPlace} (h : DataW.trod enc Tryz.prog W 0 (fun _ => true) true n 34 cs = some x) (hw : ∀ n ∈ DataW.weights Tryz.prog 34 x.1, n ≤ reachBytes) : ∃ (q : Ap) (b a : Value), cs = apC q b a ∧ SlB W W.heap.size b q.t.b ∧ SlB W W.heap.size a q.a ∧ ((Lp q.t.s ∧ q.t.b.length ≤ reachBytes) ∧ q.a.length ≤ reachBytes) := by
  obtain ⟨xs, m, _, hx, hl, hxl, hf⟩ := DataW.trod_struct Tryz.underlying34 h
  rw [c_ap] at hl
  match xs, hxl with
  | [y0_, y1_], _ =>
    have fw := fun (j : Nat) (t : TypeId) (d : DataW H) (ht : _[j]? = some t) (hd : [y0_.1, y1_.1][j]? = some d) (n : Nat) (hn : n ∈ d.weights Tryz.prog t) => hw n (by rw [hx]; simp only [DataW.weights, Tryz.underlying34]; exact DataW.weights_mem_each ht hd n hn)
    have h0 : DataW.trod enc Tryz.prog W 0 (fun _ => true) true m 28 ((cs.drop 0).take (Tryz.prog.cellsOf 28)) = some y0_ := hf 0 _ rfl
    rw [c_tk] at h0
    obtain ⟨l0, z0, e0, s0, b0⟩ := in_tk h0 (fw 0 _ _ rfl rfl)
    have h1 : DataW.trod enc Tryz.prog W 0 (fun _ => true) true m 26 ((cs.drop 4).take (Tryz.prog.cellsOf 26)) = some y1_ := hf 1 _ rfl
    rw [c_byt] at h1
    obtain ⟨z1, l1, e1, s1, b1⟩ := in_byt (by rw [List.length_take, List.length_drop]; omega) h1 (fw 1 _ _ rfl rfl)
    have k0 := cut cs 0 4
    rw [e0] at k0
    have k1 := cut cs 4 1
    rw [e1] at k1
    have k : cs = cs.drop 0 := rfl
    rw [k0, show 0 + 4 = 4 from rfl] at k
    rw [k1, show 4 + 1 = 5 from rfl] at k
    rw [show cs.drop 5 = [] from List.drop_of_length_le (by omega)] at k
    clear hf h h0 k0 e0 h1 k1 e1
    exact ⟨⟨l0, l1⟩, z0, z1, k, s0, s1, b0, b1⟩
theorem c_er : Tryz.prog.cellsOf 35 = 1 := by kernel_rfl
theorem in_er {n : Nat} {cs : List Value} {x : DataW H × List MemPlace} (h : DataW.trod enc Tryz.prog W 0 (fun _ => true) true n 35 cs = some x) : ∃ i : Int, cs = [.int .i64 i] ∧ (Lit.int .i64 i).wf = true := by
  obtain ⟨i, h1, _, h2⟩ := DataW.trod_int Tryz.underlying35 h
  exact ⟨i, h1, h2⟩
theorem c_fa : Tryz.prog.cellsOf 37 = 2 := by kernel_rfl
theorem in_fa {n : Nat} {cs : List Value} {x : DataW H × List MemPlace} (h : DataW.trod enc Tryz.prog W 0 (fun _ => true) true n 37 cs = some x) : ∃ (q : Fa), cs = faC q := by
  obtain ⟨xs, m, _, hx, hl, hxl, hf⟩ := DataW.trod_struct Tryz.underlying37 h
  rw [c_fa] at hl
  match xs, hxl with
  | [y0_, y1_], _ =>
    have h0 : DataW.trod enc Tryz.prog W 0 (fun _ => true) true m 35 ((cs.drop 0).take (Tryz.prog.cellsOf 35)) = some y0_ := hf 0 _ rfl
    rw [c_er] at h0
    obtain ⟨l0, e0, b0⟩ := in_er h0
    have h1 : DataW.trod enc Tryz.prog W 0 (fun _ => true) true m 3 ((cs.drop 1).take (Tryz.prog.cellsOf 3)) = some y1_ := hf 1 _ rfl
    rw [c_int] at h1
    obtain ⟨l1, e1, b1⟩ := in_int h1
    have k0 := cut cs 0 1
    rw [e0] at k0
    have k1 := cut cs 1 1
    rw [e1] at k1
    have k : cs = cs.drop 0 := rfl
    rw [k0, show 0 + 1 = 1 from rfl] at k
    rw [k1, show 1 + 1 = 2 from rfl] at k
    rw [show cs.drop 2 = [] from List.drop_of_length_le (by omega)] at k
    clear hf h h0 k0 e0 h1 k1 e1
    exact ⟨⟨l0, l1⟩, k⟩
def Lm (m : Mg) : Prop := (Lp m.aq.c ∧ Lp m.aq.s) ∧ ((Lp m.tg.t.s ∧ m.tg.t.b.length ≤ reachBytes) ∧ m.tg.a.length ≤ reachBytes ∧ Lp m.tg.s) ∧ ((Lp m.re.t.s ∧ m.re.t.b.length ≤ reachBytes) ∧ m.re.b.length ≤ reachBytes ∧ Lp m.re.c) ∧ ((Lp m.ap.t.s ∧ m.ap.t.b.length ≤ reachBytes) ∧ m.ap.a.length ≤ reachBytes)
theorem c_mg : Tryz.prog.cellsOf 39 = 30 := by kernel_rfl
theorem in_mg {n : Nat} {cs : List Value} {x : DataW H × List MemPlace} (h : DataW.trod enc Tryz.prog W 0 (fun _ => true) true n 39 cs = some x) (hw : ∀ n ∈ DataW.weights Tryz.prog 39 x.1, n ≤ reachBytes) : ∃ m : Mg, MgV W W.heap.size cs.toArray m ∧ Lm m := by
  obtain ⟨xs, m, _, hx, hl, hxl, hf⟩ := DataW.trod_struct Tryz.underlying39 h
  rw [c_mg] at hl
  match xs, hxl with
  | [y0_, y1_, y2_, y3_, y4_, y5_], _ =>
    have fw := fun (j : Nat) (t : TypeId) (d : DataW H) (ht : _[j]? = some t) (hd : [y0_.1, y1_.1, y2_.1, y3_.1, y4_.1, y5_.1][j]? = some d) (n : Nat) (hn : n ∈ d.weights Tryz.prog t) => hw n (by rw [hx]; simp only [DataW.weights, Tryz.underlying39]; exact DataW.weights_mem_each ht hd n hn)
    have h0 : DataW.trod enc Tryz.prog W 0 (fun _ => true) true m 3 ((cs.drop 0).take (Tryz.prog.cellsOf 3)) = some y0_ := hf 0 _ rfl
    rw [c_int] at h0
    obtain ⟨l0, e0, b0⟩ := in_int h0
    have h1 : DataW.trod enc Tryz.prog W 0 (fun _ => true) true m 25 ((cs.drop 1).take (Tryz.prog.cellsOf 25)) = some y1_ := hf 1 _ rfl
    rw [c_as] at h1
    obtain ⟨l1, e1, b1⟩ := in_as h1 (fw 1 _ _ rfl rfl)
    have h2 : DataW.trod enc Tryz.prog W 0 (fun _ => true) true m 30 ((cs.drop 7).take (Tryz.prog.cellsOf 30)) = some y2_ := hf 2 _ rfl
    rw [c_tg] at h2
    obtain ⟨l2, z2, y2, e2, s2, r2, b2⟩ := in_tg h2 (fw 2 _ _ rfl rfl)
    have h3 : DataW.trod enc Tryz.prog W 0 (fun _ => true) true m 32 ((cs.drop 16).take (Tryz.prog.cellsOf 32)) = some y3_ := hf 3 _ rfl
    rw [c_re] at h3
    obtain ⟨l3, z3, y3, e3, s3, r3, b3⟩ := in_re h3 (fw 3 _ _ rfl rfl)
    have h4 : DataW.trod enc Tryz.prog W 0 (fun _ => true) true m 34 ((cs.drop 23).take (Tryz.prog.cellsOf 34)) = some y4_ := hf 4 _ rfl
    rw [c_ap] at h4
    obtain ⟨l4, z4, y4, e4, s4, r4, b4⟩ := in_ap h4 (fw 4 _ _ rfl rfl)
    have h5 : DataW.trod enc Tryz.prog W 0 (fun _ => true) true m 37 ((cs.drop 28).take (Tryz.prog.cellsOf 37)) = some y5_ := hf 5 _ rfl
    rw [c_fa] at h5
    obtain ⟨l5, e5⟩ := in_fa h5
    have k0 := cut cs 0 1
    rw [e0] at k0
    have k1 := cut cs 1 6
    rw [e1] at k1
    have k2 := cut cs 7 9
    rw [e2] at k2
    have k3 := cut cs 16 7
    rw [e3] at k3
    have k4 := cut cs 23 5
    rw [e4] at k4
    have k5 := cut cs 28 2
    rw [e5] at k5
    have k : cs = cs.drop 0 := rfl
    rw [k0, show 0 + 1 = 1 from rfl] at k
    rw [k1, show 1 + 6 = 7 from rfl] at k
    rw [k2, show 7 + 9 = 16 from rfl] at k
    rw [k3, show 16 + 7 = 23 from rfl] at k
    rw [k4, show 23 + 5 = 28 from rfl] at k
    rw [k5, show 28 + 2 = 30 from rfl] at k
    rw [show cs.drop 30 = [] from List.drop_of_length_le (by omega)] at k
    clear hf h h0 k0 e0 h1 k1 e1 h2 k2 e2 h3 k3 e3 h4 k4 e4 h5 k5 e5
    refine ⟨⟨l0, l1, l2, l3, l4, l5⟩, ⟨(asC l1).toArray, (tgC l2 z2 y2).toArray, (reC l3 z3 y3).toArray, (apC l4 z4 y4).toArray, (faC l5).toArray, ?_, ⟨rfl, ⟨_, _, rfl, s2, r2⟩, ⟨_, _, rfl, s3, r3⟩, ⟨_, _, rfl, s4, r4⟩, rfl⟩⟩, b1, b2, b3, b4⟩
    rw [k]; simp [mgA]
theorem c_an : Tryz.prog.cellsOf 57 = 4 := by kernel_rfl
theorem in_an {n : Nat} {cs : List Value} {x : DataW H × List MemPlace} (h : DataW.trod enc Tryz.prog W 0 (fun _ => true) true n 57 cs = some x) (hw : ∀ n ∈ DataW.weights Tryz.prog 57 x.1, n ≤ reachBytes) : ∃ (a : An), cs = anC a ∧ Lp a.c ∧ a.c.1.length ≤ Rows.uptoBulk x.1 ∧ a.c.2.length ≤ Rows.uptoBulk x.1 := by
  obtain ⟨xs, m, _, hx, hl, hxl, hf⟩ := DataW.trod_struct Tryz.underlying57 h
  rw [c_an] at hl
  match xs, hxl with
  | [y0_, y1_, y2_], _ =>
    have fw := fun (j : Nat) (t : TypeId) (d : DataW H) (ht : _[j]? = some t) (hd : [y0_.1, y1_.1, y2_.1][j]? = some d) (n : Nat) (hn : n ∈ d.weights Tryz.prog t) => hw n (by rw [hx]; simp only [DataW.weights, Tryz.underlying57]; exact DataW.weights_mem_each ht hd n hn)
    have h0 : DataW.trod enc Tryz.prog W 0 (fun _ => true) true m 23 ((cs.drop 0).take (Tryz.prog.cellsOf 23)) = some y0_ := hf 0 _ rfl
    rw [c_pr] at h0
    obtain ⟨l0, e0, b0, u0, w0⟩ := in_pr h0 (fw 0 _ _ rfl rfl)
    have h1 : DataW.trod enc Tryz.prog W 0 (fun _ => true) true m 3 ((cs.drop 2).take (Tryz.prog.cellsOf 3)) = some y1_ := hf 1 _ rfl
    rw [c_int] at h1
    obtain ⟨l1, e1, b1⟩ := in_int h1
    have h2 : DataW.trod enc Tryz.prog W 0 (fun _ => true) true m 3 ((cs.drop 3).take (Tryz.prog.cellsOf 3)) = some y2_ := hf 2 _ rfl
    rw [c_int] at h2
    obtain ⟨l2, e2, b2⟩ := in_int h2
    have k0 := cut cs 0 2
    rw [e0] at k0
    have k1 := cut cs 2 1
    rw [e1] at k1
    have k2 := cut cs 3 1
    rw [e2] at k2
    have k : cs = cs.drop 0 := rfl
    rw [k0, show 0 + 2 = 2 from rfl] at k
    rw [k1, show 2 + 1 = 3 from rfl] at k
    rw [k2, show 3 + 1 = 4 from rfl] at k
    rw [show cs.drop 4 = [] from List.drop_of_length_le (by omega)] at k
    clear hf h h0 k0 e0 h1 k1 e1 h2 k2 e2
    have g := bulk_agg (d := y0_.1) (l := [y0_.1, y1_.1, y2_.1]) (by simp)
    rw [hx]
    exact ⟨⟨l0, l1, l2⟩, k, b0, Nat.le_trans u0 g, Nat.le_trans w0 g⟩
theorem c_pt : Tryz.prog.cellsOf 55 = 37 := by kernel_rfl
theorem in_pt {n : Nat} {cs : List Value} {x : DataW H × List MemPlace} (h : DataW.trod enc Tryz.prog W 0 (fun _ => true) true n 55 cs = some x) (hw : ∀ n ∈ DataW.weights Tryz.prog 55 x.1, n ≤ reachBytes) : ∃ (p : Pt), p.ss.length = 32 ∧ cs = ptC p ∧ Lp p.c ∧ p.tr.length ≤ reachBytes ∧ p.c.1.length ≤ Rows.uptoBulk x.1 ∧ p.c.2.length ≤ Rows.uptoBulk x.1 ∧ p.tr.length ≤ Rows.uptoBulk x.1 := by
  obtain ⟨xs, m, _, hx, hl, hxl, hf⟩ := DataW.trod_struct Tryz.underlying55 h
  rw [c_pt] at hl
  match xs, hxl with
  | [y0_, y1_, y2_, y3_, y4_], _ =>
    have fw := fun (j : Nat) (t : TypeId) (d : DataW H) (ht : _[j]? = some t) (hd : [y0_.1, y1_.1, y2_.1, y3_.1, y4_.1][j]? = some d) (n : Nat) (hn : n ∈ d.weights Tryz.prog t) => hw n (by rw [hx]; simp only [DataW.weights, Tryz.underlying55]; exact DataW.weights_mem_each ht hd n hn)
    have h0 : DataW.trod enc Tryz.prog W 0 (fun _ => true) true m 23 ((cs.drop 0).take (Tryz.prog.cellsOf 23)) = some y0_ := hf 0 _ rfl
    rw [c_pr] at h0
    obtain ⟨l0, e0, b0, u0, w0⟩ := in_pr h0 (fw 0 _ _ rfl rfl)
    have h1 : DataW.trod enc Tryz.prog W 0 (fun _ => true) true m 53 ((cs.drop 2).take (Tryz.prog.cellsOf 53)) = some y1_ := hf 1 _ rfl
    rw [c_key] at h1
    obtain ⟨l1, hk1, e1⟩ := in_key h1
    have h2 : DataW.trod enc Tryz.prog W 0 (fun _ => true) true m 9 ((cs.drop 34).take (Tryz.prog.cellsOf 9)) = some y2_ := hf 2 _ rfl
    rw [c_str] at h2
    obtain ⟨l2, e2, b2, u2⟩ := in_str h2 (fw 2 _ _ rfl rfl)
    have h3 : DataW.trod enc Tryz.prog W 0 (fun _ => true) true m 3 ((cs.drop 35).take (Tryz.prog.cellsOf 3)) = some y3_ := hf 3 _ rfl
    rw [c_int] at h3
    obtain ⟨l3, e3, b3⟩ := in_int h3
    have h4 : DataW.trod enc Tryz.prog W 0 (fun _ => true) true m 3 ((cs.drop 36).take (Tryz.prog.cellsOf 3)) = some y4_ := hf 4 _ rfl
    rw [c_int] at h4
    obtain ⟨l4, e4, b4⟩ := in_int h4
    have k0 := cut cs 0 2
    rw [e0] at k0
    have k1 := cut cs 2 32
    rw [e1] at k1
    have k2 := cut cs 34 1
    rw [e2] at k2
    have k3 := cut cs 35 1
    rw [e3] at k3
    have k4 := cut cs 36 1
    rw [e4] at k4
    have k : cs = cs.drop 0 := rfl
    rw [k0, show 0 + 2 = 2 from rfl] at k
    rw [k1, show 2 + 32 = 34 from rfl] at k
    rw [k2, show 34 + 1 = 35 from rfl] at k
    rw [k3, show 35 + 1 = 36 from rfl] at k
    rw [k4, show 36 + 1 = 37 from rfl] at k
    rw [show cs.drop 37 = [] from List.drop_of_length_le (by omega)] at k
    clear hf h h0 k0 e0 h1 k1 e1 h2 k2 e2 h3 k3 e3 h4 k4 e4
    have g := bulk_agg (d := y0_.1) (l := [y0_.1, y1_.1, y2_.1, y3_.1, y4_.1]) (by simp)
    have g2 := bulk_agg (d := y2_.1) (l := [y0_.1, y1_.1, y2_.1, y3_.1, y4_.1]) (by simp)
    rw [hx]
    exact ⟨⟨l0, l1, l2, l3, l4⟩, hk1, k, b0, b2, Nat.le_trans u0 g, Nat.le_trans w0 g, Nat.le_trans u2 g2⟩
theorem c_rp : Tryz.prog.cellsOf 59 = 37 := by kernel_rfl
theorem in_rp {n : Nat} {cs : List Value} {x : DataW H × List MemPlace} (h : DataW.trod enc Tryz.prog W 0 (fun _ => true) true n 59 cs = some x) (hw : ∀ n ∈ DataW.weights Tryz.prog 59 x.1, n ≤ reachBytes) : ∃ (p : Rp), p.ss.length = 32 ∧ cs = rpC p ∧ Lp p.s ∧ p.s.1.length ≤ Rows.uptoBulk x.1 ∧ p.s.2.length ≤ Rows.uptoBulk x.1 := by
  obtain ⟨xs, m, _, hx, hl, hxl, hf⟩ := DataW.trod_struct Tryz.underlying59 h
  rw [c_rp] at hl
  match xs, hxl with
  | [y0_, y1_, y2_, y3_, y4_], _ =>
    have fw := fun (j : Nat) (t : TypeId) (d : DataW H) (ht : _[j]? = some t) (hd : [y0_.1, y1_.1, y2_.1, y3_.1, y4_.1][j]? = some d) (n : Nat) (hn : n ∈ d.weights Tryz.prog t) => hw n (by rw [hx]; simp only [DataW.weights, Tryz.underlying59]; exact DataW.weights_mem_each ht hd n hn)
    have h0 : DataW.trod enc Tryz.prog W 0 (fun _ => true) true m 53 ((cs.drop 0).take (Tryz.prog.cellsOf 53)) = some y0_ := hf 0 _ rfl
    rw [c_key] at h0
    obtain ⟨l0, hk0, e0⟩ := in_key h0
    have h1 : DataW.trod enc Tryz.prog W 0 (fun _ => true) true m 23 ((cs.drop 32).take (Tryz.prog.cellsOf 23)) = some y1_ := hf 1 _ rfl
    rw [c_pr] at h1
    obtain ⟨l1, e1, b1, u1, w1⟩ := in_pr h1 (fw 1 _ _ rfl rfl)
    have h2 : DataW.trod enc Tryz.prog W 0 (fun _ => true) true m 3 ((cs.drop 34).take (Tryz.prog.cellsOf 3)) = some y2_ := hf 2 _ rfl
    rw [c_int] at h2
    obtain ⟨l2, e2, b2⟩ := in_int h2
    have h3 : DataW.trod enc Tryz.prog W 0 (fun _ => true) true m 3 ((cs.drop 35).take (Tryz.prog.cellsOf 3)) = some y3_ := hf 3 _ rfl
    rw [c_int] at h3
    obtain ⟨l3, e3, b3⟩ := in_int h3
    have h4 : DataW.trod enc Tryz.prog W 0 (fun _ => true) true m 3 ((cs.drop 36).take (Tryz.prog.cellsOf 3)) = some y4_ := hf 4 _ rfl
    rw [c_int] at h4
    obtain ⟨l4, e4, b4⟩ := in_int h4
    have k0 := cut cs 0 32
    rw [e0] at k0
    have k1 := cut cs 32 2
    rw [e1] at k1
    have k2 := cut cs 34 1
    rw [e2] at k2
    have k3 := cut cs 35 1
    rw [e3] at k3
    have k4 := cut cs 36 1
    rw [e4] at k4
    have k : cs = cs.drop 0 := rfl
    rw [k0, show 0 + 32 = 32 from rfl] at k
    rw [k1, show 32 + 2 = 34 from rfl] at k
    rw [k2, show 34 + 1 = 35 from rfl] at k
    rw [k3, show 35 + 1 = 36 from rfl] at k
    rw [k4, show 36 + 1 = 37 from rfl] at k
    rw [show cs.drop 37 = [] from List.drop_of_length_le (by omega)] at k
    clear hf h h0 k0 e0 h1 k1 e1 h2 k2 e2 h3 k3 e3 h4 k4 e4
    have g := bulk_agg (d := y1_.1) (l := [y0_.1, y1_.1, y2_.1, y3_.1, y4_.1]) (by simp)
    rw [hx]
    exact ⟨⟨l0, l1, l2, l3, l4⟩, hk0, k, b1, Nat.le_trans u1 g, Nat.le_trans w1 g⟩
theorem open_st {P : Program} {t : TypeId} {fs : Array Field} (ht : P.underlying t = some (.struct fs)) {r : Reach} {b0 : Nat} {v : Value} {d : DataW H} {ps : List MemPlace} (hv : Value.okWide P W r b0 t v) (h : DataW.Trod enc P W 0 (fun _ => true) true t v d ps) :
    ∃ cs : Array Value, ∃ n : Nat, v = Value.agg cs ∧ DataW.trod enc P W 0 (fun _ => true) true n t cs.toList = some (d, ps) := by
  obtain ⟨cs, hcs, _⟩ := okWide_struct ht hv
  obtain ⟨n, hf⟩ := h
  rw [hcs] at hf
  exact ⟨cs, n, hcs, hf⟩
theorem upto_of {ds : List (DataW H)} {d : DataW H} {n : Nat} (hk : Rows.uptoSmall H ds = true) (h : d ∈ ds) (hn : n ≤ Rows.uptoBulk d) : n ≤ 1048576 := by
  have h1 := bulk_in h
  have h2 : Rows.uptoBulkAll ds ≤ 1048576 := of_decide_eq_true hk
  omega
end
end Go.Proofs.YteeabfplnaknfaaGreat.OpenW
end
