/-
  The document's own of chapter 8: are any two messages one?
-/
import Derived.Test.YteeabfplnaknfaaGreatZMcSame
set_option linter.unusedVariables false
set_option linter.unusedSimpArgs false
namespace Go.Proofs.YteeabfplnaknfaaGreat.Mc
open Go.RowKit Go.Proofs.YteeabfplnaknfaaGreat.Mem Go.Proofs.YteeabfplnaknfaaGreat.DerP Go.Proofs.YteeabfplnaknfaaGreat.Ms

theorem nm_1 (m : Mg) (h : m.k = 1) : nm m = ⟨1, m.aq, tg0, re0, ap0, fa0⟩ := by
  unfold nm
  rw [if_pos h]
theorem nm_2 (m : Mg) (h : m.k = 2) : nm m = ⟨2, as0, m.tg, re0, ap0, fa0⟩ := by
  unfold nm
  rw [if_neg (show ¬ m.k = 1 by omega)]
  rw [if_pos h]
theorem nm_3 (m : Mg) (h : m.k = 3) : nm m = ⟨3, as0, tg0, m.re, ap0, fa0⟩ := by
  unfold nm
  rw [if_neg (show ¬ m.k = 1 by omega)]
  rw [if_neg (show ¬ m.k = 2 by omega)]
  rw [if_pos h]
theorem nm_4 (m : Mg) (h : m.k = 4) : nm m = ⟨4, as0, tg0, re0, m.ap, fa0⟩ := by
  unfold nm
  rw [if_neg (show ¬ m.k = 1 by omega)]
  rw [if_neg (show ¬ m.k = 2 by omega)]
  rw [if_neg (show ¬ m.k = 3 by omega)]
  rw [if_pos h]
theorem nm_5 (m : Mg) (h : m.k = 5) : nm m = ⟨5, as0, tg0, re0, ap0, m.fa⟩ := by
  unfold nm
  rw [if_neg (show ¬ m.k = 1 by omega)]
  rw [if_neg (show ¬ m.k = 2 by omega)]
  rw [if_neg (show ¬ m.k = 3 by omega)]
  rw [if_neg (show ¬ m.k = 4 by omega)]
  rw [if_pos h]
theorem nm_6 (m : Mg) (h1 : m.k ≠ 1) (h2 : m.k ≠ 2) (h3 : m.k ≠ 3) (h4 : m.k ≠ 4) (h5 : m.k ≠ 5) : nm m = ⟨m.k, as0, tg0, re0, ap0, fa0⟩ := by
  unfold nm
  rw [if_neg h1, if_neg h2, if_neg h3, if_neg h4, if_neg h5]
theorem dec_iff {p q : Prop} [Decidable p] [Decidable q] (h : p ↔ q) : decide p = decide q := by
  by_cases hp : p
  · rw [decide_eq_true hp, decide_eq_true (h.1 hp)]
  · rw [decide_eq_false hp, decide_eq_false (fun hq => hp (h.2 hq))]
set_option maxHeartbeats 3200000 in
set_option maxRecDepth 10000 in
theorem rsame8_any (cs ds : Array Value) (m o : Mg) (w : World) (h : MgV w w.heap.size cs m) (g : MgV w w.heap.size ds o) : Calls Tryz.prog 13 #[.agg cs, .agg ds] w fun e w' => e = .returned (.bool (decide (nm m = nm o))) ∧ Below w.heap.size w w' := by
  obtain ⟨pa, pt, pr, pp, pf, rfl, ha, ⟨b1, a1, rfl, ⟨A1, c1, rfl, _, r1⟩, ⟨A2, c2, rfl, _, r2⟩⟩, ⟨b3, a3, rfl, ⟨A3, c3, rfl, _, r3⟩, ⟨A4, c4, rfl, _, r4⟩⟩, ⟨b5, a5, rfl, ⟨A5, c5, rfl, _, r5⟩, ⟨A6, c6, rfl, _, r6⟩⟩, hf⟩ := h
  obtain ⟨qa, qt, qr, qp, qf, rfl, ga, ⟨e1, f1, rfl, ⟨B1, d1, rfl, _, s1⟩, ⟨B2, d2, rfl, _, s2⟩⟩, ⟨e3, f3, rfl, ⟨B3, d3, rfl, _, s3⟩, ⟨B4, d4, rfl, _, s4⟩⟩, ⟨e5, f5, rfl, ⟨B5, d5, rfl, _, s5⟩, ⟨B6, d6, rfl, _, s6⟩⟩, gf⟩ := g
  obtain rfl := ha; obtain rfl := hf; obtain rfl := ga; obtain rfl := gf
  by_cases hk : m.k = o.k
  · by_cases h1 : m.k = 1
    · have h1' : o.k = 1 := by omega
      rw [nm_1 m h1, nm_1 o h1', dec_iff (p := (⟨1, m.aq, tg0, re0, ap0, fa0⟩ : Mg) = ⟨1, o.aq, tg0, re0, ap0, fa0⟩) (q := m.aq = o.aq) ⟨fun h => by injection h, fun h => by rw [h]⟩, h1, h1']
      exact rsame_as m.aq o.aq _ _ _ _ _ _ _ _ _ _ _ _ _ _ _ _ _ _ _ _ _ _ _ _ _ _ _ _ _ _ _ _ _ _ _ _ _ _ _ _ _ _ _ _ _ _ w
    by_cases h2 : m.k = 2
    · have h2' : o.k = 2 := by omega
      rw [nm_2 m h2, nm_2 o h2', dec_iff (p := (⟨2, as0, m.tg, re0, ap0, fa0⟩ : Mg) = ⟨2, as0, o.tg, re0, ap0, fa0⟩) (q := m.tg = o.tg) ⟨fun h => by injection h, fun h => by rw [h]⟩, h2, h2']
      exact rsame_tg m.tg.t o.tg.t m.tg.a o.tg.a m.tg.s.1 o.tg.s.1 m.tg.s.2 o.tg.s.2 m.tg.u o.tg.u m.tg.no o.tg.no A1 B1 A2 B2 c1 d1 c2 d2 _ _ _ _ _ _ _ _ _ _ _ _ _ _ _ _ _ _ _ _ _ _ _ _ _ _ _ _ _ _ _ _ _ _ _ _ _ _ _ _ w r1 s1 r2 s2
    by_cases h3 : m.k = 3
    · have h3' : o.k = 3 := by omega
      rw [nm_3 m h3, nm_3 o h3', dec_iff (p := (⟨3, as0, tg0, m.re, ap0, fa0⟩ : Mg) = ⟨3, as0, tg0, o.re, ap0, fa0⟩) (q := m.re = o.re) ⟨fun h => by injection h, fun h => by rw [h]⟩, h3, h3']
      exact rsame_re m.re o.re A3 B3 A4 B4 c3 d3 c4 d4 _ _ _ _ _ _ _ _ _ _ _ _ _ _ _ _ _ _ _ _ _ _ _ _ _ _ _ _ _ _ _ _ _ _ _ _ _ _ _ _ _ _ _ _ w r3 s3 r4 s4
    by_cases h4 : m.k = 4
    · have h4' : o.k = 4 := by omega
      rw [nm_4 m h4, nm_4 o h4', dec_iff (p := (⟨4, as0, tg0, re0, m.ap, fa0⟩ : Mg) = ⟨4, as0, tg0, re0, o.ap, fa0⟩) (q := m.ap = o.ap) ⟨fun h => by injection h, fun h => by rw [h]⟩, h4, h4']
      exact rsame_ap m.ap.t o.ap.t m.ap.a o.ap.a A5 B5 A6 B6 c5 d5 c6 d6 _ _ _ _ _ _ _ _ _ _ _ _ _ _ _ _ _ _ _ _ _ _ _ _ _ _ _ _ _ _ _ _ _ _ _ _ _ _ _ _ _ _ _ _ _ _ _ _ w r5 s5 r6 s6
    by_cases h5 : m.k = 5
    · have h5' : o.k = 5 := by omega
      rw [nm_5 m h5, nm_5 o h5', dec_iff (p := (⟨5, as0, tg0, re0, ap0, m.fa⟩ : Mg) = ⟨5, as0, tg0, re0, ap0, o.fa⟩) (q := m.fa = o.fa) ⟨fun h => by injection h, fun h => by rw [h]⟩, h5, h5']
      exact rsame_fa m.fa o.fa _ _ _ _ _ _ _ _ _ _ _ _ _ _ _ _ _ _ _ _ _ _ _ _ _ _ _ _ _ _ _ _ _ _ _ _ _ _ _ _ _ _ _ _ _ _ _ _ _ _ _ _ _ _ w
    rw [nm_6 m h1 h2 h3 h4 h5, nm_6 o (by omega) (by omega) (by omega) (by omega) (by omega), ← hk, decide_eq_true rfl]
    exact rsame_other m.k _ _ _ _ _ _ _ _ _ _ _ _ _ _ _ _ _ _ _ _ _ _ _ _ _ _ _ _ _ _ _ _ _ _ _ _ _ _ _ _ _ _ _ _ _ _ _ _ _ _ _ _ _ _ _ _ _ _ w h1 h2 h3 h4 h5
  · rw [show decide (nm m = nm o) = false from decide_eq_false (fun e => hk (by rw [← nm_k m, e, nm_k o]))]
    exact rsame_no m.k o.k _ _ _ _ _ _ _ _ _ _ _ _ _ _ _ _ _ _ _ _ _ _ _ _ _ _ _ _ _ _ _ _ _ _ _ _ _ _ _ _ _ _ _ _ _ _ _ _ _ _ _ _ _ _ _ _ _ _ w hk
end Go.Proofs.YteeabfplnaknfaaGreat.Mc
