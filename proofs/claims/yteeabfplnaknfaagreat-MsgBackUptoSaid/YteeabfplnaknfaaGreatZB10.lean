import Derived.Deep.LoopGhost
import Derived.Deep.MidRow
import Derived.Deep.Cut
import Derived.Deep.CutRange
import Derived.Deep.CutBlock
import Derived.Test.YteeabfplnaknfaaGreatZB1
import Derived.Test.YteeabfplnaknfaaGreatZB2
import Derived.Test.YteeabfplnaknfaaGreatZB3
import Derived.Test.YteeabfplnaknfaaGreatZB4
import Derived.Test.YteeabfplnaknfaaGreatZB5
import Derived.Test.YteeabfplnaknfaaGreatZB6
import Derived.Test.YteeabfplnaknfaaGreatZB7
import Derived.Test.YteeabfplnaknfaaGreatZB9
section
set_option linter.unusedVariables false
set_option linter.unusedSimpArgs false
namespace Go.Proofs.YteeabfplnaknfaaGreat.Ms
open Go.RowKit Go.Proofs.YteeabfplnaknfaaGreat.Mem Go.Proofs.YteeabfplnaknfaaGreat.DerP

def FitT (l : L) (k : Nat) : Prop := ∀ i (h : i < l.length), i < k → 32 ≤ l[i].toNat ∧ l[i].toNat ≤ 126
theorem txt_all {l : L} (h : FitT l l.length) : txtB l = true := by
  rw [txtB, List.all_eq_true]
  intro x hx
  obtain ⟨i, hi, rfl⟩ := List.getElem_of_mem hx
  have := h i hi hi
  simp [this.1, this.2]
theorem txt_bad {l : L} {k : Nat} (hk : k < l.length) (h : l[k].toNat < 32 ∨ 126 < l[k].toNat) : txtB l = false := by
  rw [txtB, List.all_eq_false]
  refine ⟨l[k], List.getElem_mem hk, ?_⟩
  simp; omega
theorem pt_cells {p : Pt} (hk : p.ss.length = 32) {g : Nat} {t : TypeId} {w' : World} (h : Blk w' g t (ptC p).toArray) : w'.cell? ⟨g, 0, none⟩ = some (.string ⟨p.c.1.toArray⟩) ∧ w'.cell? ⟨g, 1, none⟩ = some (.string ⟨p.c.2.toArray⟩) ∧ w'.cell? ⟨g, 34, none⟩ = some (.string ⟨p.tr.toArray⟩) ∧ w'.cell? ⟨g, 35, none⟩ = some (.int .i64 p.st) ∧ w'.cell? ⟨g, 36, none⟩ = some (.int .i64 p.en) := by
  have hl : (bvs p.ss).length = 32 := by rw [bvs_length]; exact hk
  have key : ∀ j, w'.cell? ⟨g, 34 + j, none⟩ = ([.string ⟨p.tr.toArray⟩, .int .i64 p.st, .int .i64 p.en] : List Value)[j]? := fun j => by
    rw [h.cell, List.getElem?_toArray, ptC, List.getElem?_append_right (by simp [prC]; omega), List.getElem?_append_right (by simp [prC]; omega)]
    congr 1
    simp [prC, hl]; omega
  refine ⟨by rw [h.cell]; rfl, by rw [h.cell]; rfl, key 0, key 1, key 2⟩
theorem pt_size {p : Pt} (hk : p.ss.length = 32) : (ptC p).toArray.size = 37 := by
  simp [ptC, prC, bvs_length, hk]
attribute [local go_sem] mk_at List.getElem_cons_zero List.getElem_cons_succ
set_option maxRecDepth 4000 in
set_option maxHeartbeats 3200000 in
theorem rispart_any (p : Pt) (w : World) (hk : p.ss.length = 32) (hs : pSm p.c) (ht : p.tr.length ≤ 1000000000) : Calls Tryz.prog 29 #[.agg (ptC p).toArray] w fun e w' => e = .returned (.bool (ptB p)) ∧ Below w.heap.size w w' := by
  have HI := Lib.hid (show (Tryz.prog.info? 55).map (·.size) = some (ptC p).toArray.size by rw [pt_size hk]; kernel_rfl)
  have CF := Lib.hid (show ∀ w' : World, Blk w' w.heap.size 55 (ptC p).toArray → w'.cell? ⟨w.heap.size, 0, none⟩ = some (.string ⟨p.c.1.toArray⟩) ∧ w'.cell? ⟨w.heap.size, 1, none⟩ = some (.string ⟨p.c.2.toArray⟩) ∧ w'.cell? ⟨w.heap.size, 34, none⟩ = some (.string ⟨p.tr.toArray⟩) ∧ w'.cell? ⟨w.heap.size, 35, none⟩ = some (.int .i64 p.st) ∧ w'.cell? ⟨w.heap.size, 36, none⟩ = some (.int .i64 p.en) from fun w' h => pt_cells hk h)
  obtain ⟨cs, ecs⟩ : ∃ cs, cs = (ptC p).toArray := ⟨_, rfl⟩
  rw [← ecs] at HI CF ⊢
  clear ecs
  have HB := Lib.hid ((Below.refl w.heap.size w).alloc (Nat.le_refl _) (.cells cs 55))
  have HK := Lib.hid (Blk.new w 55 cs)
  have T1 := Lib.hid (fun w1 => isprinc_any p.c w1 hs.1 hs.2)
  have T2 := Lib.hid (fun w1 => rtm_any p.st w1)
  have T3 := Lib.hid (fun w1 => rtm_any p.en w1)
  obtain ⟨k0, k1, k2, k3, k4⟩ := CF.out _ HK.out
  clear hs
  go_enter Tryz.func29, Tryz.ntmps29
  go_wp2
  go_loop [3] (fun iv => ∃ k : Nat, k ≤ p.tr.length ∧ iv = .int .i64 (k : Int) ∧ FitT p.tr k) (fun iv => p.tr.length - (intOf iv).toNat)
  case atStart => exact ⟨0, Nat.zero_le _, rfl, fun i _ h => by omega⟩
  case round =>
    obtain ⟨k, hk2, rfl, hf⟩ := hrel
    have HF := Lib.hid hf; clear hf
    by_cases hlt : k < p.tr.length
    · have e1 : (k : Int) < (p.tr.length : Int) := by omega
      by_cases b1 : p.tr[k].toNat < 32
      · have E := Lib.hid (show ptB p = false by rw [ptB, txt_bad hlt (Or.inl b1)]; rfl)
        have b1' : decide ((p.tr[k].toNat : Int) < 32) = true := by simp; omega
        clear b1
        go_wp2
        go_ret
        exact ⟨by rw [E.out]; rfl, HB.out⟩
      · have b1' : decide ((p.tr[k].toNat : Int) < 32) = false := by simp; omega
        by_cases b2 : 126 < p.tr[k].toNat
        · have E := Lib.hid (show ptB p = false by rw [ptB, txt_bad hlt (Or.inr b2)]; rfl)
          have b2' : decide (126 < (p.tr[k].toNat : Int)) = true := by simp; omega
          clear b1 b2
          go_wp2
          go_ret
          exact ⟨by rw [E.out]; rfl, HB.out⟩
        · have b2' : decide (126 < (p.tr[k].toNat : Int)) = false := by simp; omega
          have HP := Lib.hid (show 32 ≤ p.tr[k].toNat ∧ p.tr[k].toNat ≤ 126 from ⟨by omega, by omega⟩)
          clear b1 b2
          go_wp2
          go_round
          case rel => exact ⟨k + 1, by omega, by go_num, fun i hi hik => by
            by_cases q : i = k
            · subst q; exact HP.out
            · exact HF.out i hi (by omega)⟩
          case measure => simp [intOf]; omega
    · have HT := Lib.hid (txt_all (fun i hi _ => HF.out i hi (by omega)))
      have e1 : ¬ (k : Int) < (p.tr.length : Int) := by omega
      clear HF
      cases h1 : prB p.c with
      | false =>
        rw [h1] at T1
        have E := Lib.hid (show ptB p = false by rw [ptB, HT.out, h1]; rfl)
        clear h1
        go_wp2_with (first
          | (go_at_call 69; (with_reducible refine Calls.mono (T1.out _) ?_); rintro e w1 ⟨rfl, hb⟩; replace HK := Lib.hid (HK.out.below hb); replace HB := Lib.hid (HB.out.trans (hb.mono HB.out.size)); clear hb T1; (try clear k0 k1 k2 k3 k4); obtain ⟨k0, k1, k2, k3, k4⟩ := CF.out _ HK.out))
        go_ret
        exact ⟨by rw [E.out]; rfl, HB.out⟩
      | true =>
        rw [h1] at T1
        by_cases h0 : p.tr.length ≤ 300
        · have g3 : decide ((p.tr.length : Int) ≤ 300) = true := by simp; omega
          cases h2 : tmB p.st with
          | false =>
            rw [h2] at T2
            have E := Lib.hid (show ptB p = false by rw [ptB, HT.out, h1, h2, decide_eq_true h0]; rfl)
            clear h1 h2 h0
            go_wp2_with (first
              | (go_at_call 69; (with_reducible refine Calls.mono (T1.out _) ?_); rintro e w1 ⟨rfl, hb⟩; replace HK := Lib.hid (HK.out.below hb); replace HB := Lib.hid (HB.out.trans (hb.mono HB.out.size)); clear hb T1; (try clear k0 k1 k2 k3 k4); obtain ⟨k0, k1, k2, k3, k4⟩ := CF.out _ HK.out)
              | (go_at_call 70; (with_reducible refine Calls.mono (T2.out _) ?_); rintro e w2 ⟨rfl, hw⟩; subst hw; clear T2))
            go_ret
            exact ⟨by rw [E.out]; rfl, HB.out⟩
          | true =>
            rw [h2] at T2
            have E := Lib.hid (show ptB p = tmB p.en by rw [ptB, HT.out, h1, h2, decide_eq_true h0]; rfl)
            clear h1 h2 h0
            go_wp2_with (first
              | (go_at_call 69; (with_reducible refine Calls.mono (T1.out _) ?_); rintro e w1 ⟨rfl, hb⟩; replace HK := Lib.hid (HK.out.below hb); replace HB := Lib.hid (HB.out.trans (hb.mono HB.out.size)); clear hb T1; (try clear k0 k1 k2 k3 k4); obtain ⟨k0, k1, k2, k3, k4⟩ := CF.out _ HK.out)
              | (go_at_call 70; (with_reducible refine Calls.mono (T2.out _) ?_); rintro e w2 ⟨rfl, hw⟩; subst hw; clear T2)
              | (go_at_call 70; (with_reducible refine Calls.mono (T3.out _) ?_); rintro e w3 ⟨rfl, hw⟩; subst hw; clear T3))
            go_ret
            exact ⟨by rw [E.out]; rfl, HB.out⟩
        · have g3 : decide ((p.tr.length : Int) ≤ 300) = false := by simp; omega
          have E := Lib.hid (show ptB p = false by rw [ptB, HT.out, h1, decide_eq_false h0]; rfl)
          clear h1 h0
          go_wp2_with (first
            | (go_at_call 69; (with_reducible refine Calls.mono (T1.out _) ?_); rintro e w1 ⟨rfl, hb⟩; replace HK := Lib.hid (HK.out.below hb); replace HB := Lib.hid (HB.out.trans (hb.mono HB.out.size)); clear hb T1; (try clear k0 k1 k2 k3 k4); obtain ⟨k0, k1, k2, k3, k4⟩ := CF.out _ HK.out))
          go_ret
          exact ⟨by rw [E.out]; rfl, HB.out⟩
end Go.Proofs.YteeabfplnaknfaaGreat.Ms
end

section
set_option linter.unusedVariables false
set_option linter.unusedSimpArgs false
namespace Go.Proofs.YteeabfplnaknfaaGreat.Ms
open Go.RowKit Go.Proofs.YteeabfplnaknfaaGreat.Mem Go.Proofs.YteeabfplnaknfaaGreat.DerP Go.Proofs.YteeabfplnaknfaaGreat.DerR

theorem rp_key {p : Rp} (hk : p.ss.length = 32) {g : Nat} {t : TypeId} {w' : World} (h : Blk w' g t (rpC p).toArray) : Rd w' w'.heap.size (some ⟨g, 0, none⟩) (bvs p.ss) := by
  refine .inr ⟨g, 0, rfl, h.lt, fun i u hu => ?_⟩
  rw [Nat.zero_add, h.cell, List.getElem?_toArray, rpC]
  have hi : i < (bvs p.ss).length := (List.getElem?_eq_some_iff.1 hu).1
  rw [List.getElem?_append_left hi]; exact hu
set_option maxHeartbeats 6400000 in
theorem rencrep_any (p : Rp) (w : World) (hk : p.ss.length = 32) (hs : pSm p.s) : Calls Tryz.prog 22 #[.agg (rpC p).toArray] w (EncR w (rpO p)) := by
  have HI := Lib.hid (show (Tryz.prog.info? 59).map (·.size) = some (rpC p).toArray.size by rw [rp_size hk]; kernel_rfl)
  have CF := Lib.hid (show ∀ w' : World, Blk w' w.heap.size 59 (rpC p).toArray → w'.cell? ⟨w.heap.size, 32, none⟩ = some (.string ⟨p.s.1.toArray⟩) ∧ w'.cell? ⟨w.heap.size, 33, none⟩ = some (.string ⟨p.s.2.toArray⟩) ∧ w'.cell? ⟨w.heap.size, 34, none⟩ = some (.int .i64 p.st) ∧ w'.cell? ⟨w.heap.size, 35, none⟩ = some (.int .i64 p.en) ∧ w'.cell? ⟨w.heap.size, 36, none⟩ = some (.int .i64 p.no) from fun w' h => rp_cells hk h)
  have I1 := Lib.hid (fun w1 => risrep_any p w1 hk hs)
  have T1 := Lib.hid (fun w1 (h : Blk w1 w.heap.size 59 (rpC p).toArray) => DerR.octets_any p.ss (some ⟨w.heap.size, 0, none⟩) 32 32 w1.heap.size w1 (rp_key hk h) hk.symm (Nat.le_refl _) (by omega))
  obtain ⟨cs, ecs⟩ : ∃ cs, cs = (rpC p).toArray := ⟨_, rfl⟩
  rw [← ecs] at HI CF I1 T1 ⊢
  clear ecs
  have HB := Lib.hid ((Below.refl w.heap.size w).alloc (Nat.le_refl _) (.cells cs 59))
  have HK := Lib.hid (Blk.new w 59 cs)
  cases hx : rpB p with
  | false =>
    rw [hx] at I1
    have E := Lib.hid (show rpO p = none by unfold rpO limO; rw [hx]; rfl)
    rw [E.out]
    clear hx E
    go_enter Tryz.func22, Tryz.ntmps22
    go_wp2_with (first
      | (refine load_cells (by rfl) 59 (.tmp 1) (by rfl) w.heap.size 0 (by rfl) cs _ (range_blk (Blk.new w 59 cs)) Tryz.underlying59 (by rfl) HI.out ?_)
      | (go_at_call 31; refine Calls.mono (I1.out _) ?_; rintro e w1 ⟨rfl, hb⟩; replace HB := Lib.hid (HB.out.trans (hb.mono HB.out.size)); clear hb I1)
      | fail)
    go_ret2
    exact enc_none HB.out
  | true =>
    rw [hx] at I1
    have hp : prB p.s = true := (show prB p.s = true ∧ tmB p.st = true ∧ tmB p.en = true ∧ tmB p.no = true by simpa [rpB] using hx).1
    have b1 := pr_len hp
    have b2 := (prE_len hp).1
    have b3 := encI_le p.st
    have b4 := encI_le p.en
    have b5 := encI_le p.no
    have b6 := elem_len 4 p.ss
    have T2 := Lib.hid (fun w1 => rprinc_any p.s w1 (by omega) (by omega))
    have T3 := Lib.hid (fun w1 => DerR.int_any p.st w1)
    have T4 := Lib.hid (fun w1 => DerR.int_any p.en w1)
    have T5 := Lib.hid (fun w1 => DerR.int_any p.no w1)
    have hl : [elem 4 p.ss, prE p.s, encI p.st, encI p.en, encI p.no].flatten.length ≤ 1900 := by rw [flat5]; simp only [List.length_append]; omega
    have HL := Lib.hid (show [elem 4 p.ss, prE p.s, encI p.st, encI p.en, encI p.no].flatten.length ≤ 65535 by omega)
    have hE := elem_len 122 [elem 4 p.ss, prE p.s, encI p.st, encI p.en, encI p.no].flatten
    have E := Lib.hid (show rpO p = some (elem 122 [elem 4 p.ss, prE p.s, encI p.st, encI p.en, encI p.no].flatten) from lim_iff.2 ⟨hx, by show (elem 122 [elem 4 p.ss, prE p.s, encI p.st, encI p.en, encI p.no].flatten).length ≤ 2000; omega, rfl⟩)
    rw [E.out]
    rw [flat5] at hE hl ⊢
    obtain ⟨l1, el1⟩ : ∃ l, l = elem 4 p.ss := ⟨_, rfl⟩
    obtain ⟨l2, el2⟩ : ∃ l, l = prE p.s := ⟨_, rfl⟩
    obtain ⟨l3, el3⟩ : ∃ l, l = encI p.st := ⟨_, rfl⟩
    obtain ⟨l4, el4⟩ : ∃ l, l = encI p.en := ⟨_, rfl⟩
    obtain ⟨l5, el5⟩ : ∃ l, l = encI p.no := ⟨_, rfl⟩
    rw [← el1] at T1 HL hE hl ⊢
    rw [← el2] at T2 HL hE hl ⊢
    rw [← el3] at T3 HL hE hl ⊢
    rw [← el4] at T4 HL hE hl ⊢
    rw [← el5] at T5 HL hE hl ⊢
    have hlm : (elem 122 (l1 ++ (l2 ++ (l3 ++ (l4 ++ l5))))).length ≤ 2000 := by omega
    have LM := Lib.hid (fun A c w1 => rlimit_ok (elem 122 (l1 ++ (l2 ++ (l3 ++ (l4 ++ l5))))) A _ c w1 rfl hlm)
    clear hx E hE hl hlm el1 el2 el3 el4 el5 hp b1 b2 b3 b4 b5 b6 hs hk
    go_enter Tryz.func22, Tryz.ntmps22
    go_wp2_with (first
      | (refine load_cells (by rfl) 59 (.tmp 1) (by rfl) w.heap.size 0 (by rfl) cs _ (range_blk (Blk.new w 59 cs)) Tryz.underlying59 (by rfl) HI.out ?_)
      | (go_at_call 31; refine Calls.mono (I1.out _) ?_; rintro e w0 ⟨rfl, hb⟩; replace HK := Lib.hid (HK.out.below hb); replace HB := Lib.hid (HB.out.trans (hb.mono HB.out.size)); clear hb I1)
      | fail)
    replace HK := Lib.hid (show Blk w0.drew _ _ _ from HK.out.drewN 1)
    replace HB := Lib.hid (show Below _ _ w0.drew from below_drewN HB.out 1)
    go_region_held3 (fun w' => w'.cell? ⟨w.heap.size, 32, none⟩ = some (.string ⟨p.s.1.toArray⟩) ∧ w'.cell? ⟨w.heap.size, 33, none⟩ = some (.string ⟨p.s.2.toArray⟩) ∧ w'.cell? ⟨w.heap.size, 34, none⟩ = some (.int .i64 p.st) ∧ w'.cell? ⟨w.heap.size, 35, none⟩ = some (.int .i64 p.en) ∧ w'.cell? ⟨w.heap.size, 36, none⟩ = some (.int .i64 p.no)) (first | exact CF.out _ HK.out | exact CF.out _ (HK.out.alloc _)) ((first
      | (go_at_call 42; (with_reducible refine Calls.mono (T1.out _ HK.out) ?_); rintro e w1 ⟨⟨g1, c1, rfl, hg1, hc1, hr1⟩, hb⟩; clear T1; have HR1 := Lib.hid hr1; replace HK := Lib.hid (HK.out.below hb); replace HB := Lib.hid (HB.out.trans (hb.mono HB.out.size)); clear hb hr1 hg1 hc1)
      | (go_at_call 39; (with_reducible refine Calls.mono (T2.out _) ?_); rintro e w2 ⟨⟨g2, c2, rfl, hg2, hc2, hr2⟩, hb⟩; clear T2; replace HR1 := Lib.hid (rd_on HR1.out hb); have HR2 := Lib.hid hr2; replace HK := Lib.hid (HK.out.below hb); replace HB := Lib.hid (HB.out.trans (hb.mono HB.out.size)); clear hb hr2 hg2 hc2)
      | (go_at_call 40; (with_reducible refine Calls.mono (T3.out _) ?_); rintro e w3 ⟨⟨g3, c3, rfl, hg3, hc3, hr3⟩, hb⟩; clear T3; replace HR1 := Lib.hid (rd_on HR1.out hb); replace HR2 := Lib.hid (rd_on HR2.out hb); have HR3 := Lib.hid hr3; replace HK := Lib.hid (HK.out.below hb); replace HB := Lib.hid (HB.out.trans (hb.mono HB.out.size)); clear hb hr3 hg3 hc3)
      | (go_at_call 40; (with_reducible refine Calls.mono (T4.out _) ?_); rintro e w4 ⟨⟨g4, c4, rfl, hg4, hc4, hr4⟩, hb⟩; clear T4; replace HR1 := Lib.hid (rd_on HR1.out hb); replace HR2 := Lib.hid (rd_on HR2.out hb); replace HR3 := Lib.hid (rd_on HR3.out hb); have HR4 := Lib.hid hr4; replace HK := Lib.hid (HK.out.below hb); replace HB := Lib.hid (HB.out.trans (hb.mono HB.out.size)); clear hb hr4 hg4 hc4)
      | (go_at_call 40; (with_reducible refine Calls.mono (T5.out _) ?_); rintro e w5 ⟨⟨g5, c5, rfl, hg5, hc5, hr5⟩, hb⟩; clear T5; replace HR1 := Lib.hid (rd_on HR1.out hb); replace HR2 := Lib.hid (rd_on HR2.out hb); replace HR3 := Lib.hid (rd_on HR3.out hb); replace HR4 := Lib.hid (rd_on HR4.out hb); have HR5 := Lib.hid hr5; replace HK := Lib.hid (HK.out.below hb); replace HB := Lib.hid (HB.out.trans (hb.mono HB.out.size)); clear hb hr5 hg5 hc5)
      | (go_at_call 38; refine Calls.mono (wrap_any 122 [l1, l2, l3, l4, l5] _ 5 5 (w5.heap.size + 1) _ (lay_five HR1.out HR2.out HR3.out HR4.out HR5.out) rfl (by simp) HL.out (by simp)) ?_; rintro e wz ⟨⟨gz, cz, rfl, hgz, hcz, hrz⟩, hb⟩; have hal := (Below.refl w5.heap.size w5).alloc (Nat.le_refl _) (.cells #[.slice (some ⟨g1, 0, none⟩) l1.length c1, .slice (some ⟨g2, 0, none⟩) l2.length c2, .slice (some ⟨g3, 0, none⟩) l3.length c3, .slice (some ⟨g4, 0, none⟩) l4.length c4, .slice (some ⟨g5, 0, none⟩) l5.length c5] 26); have HG := Lib.hid (gives_on (l := elem 122 [l1, l2, l3, l4, l5].flatten) ⟨⟨gz, cz, rfl, hgz, hcz, hrz⟩, hb⟩ (HB.out.trans (hal.mono HB.out.size))); rw [flat5] at HG; replace HK := Lib.hid ((HK.out.alloc (.cells #[.slice (some ⟨g1, 0, none⟩) l1.length c1, .slice (some ⟨g2, 0, none⟩) l2.length c2, .slice (some ⟨g3, 0, none⟩) l3.length c3, .slice (some ⟨g4, 0, none⟩) l4.length c4, .slice (some ⟨g5, 0, none⟩) l5.length c5] 26)).below hb); clear hal hgz hcz hrz hb)
      | (go_at_call 37; refine Calls.mono (LM.out _ _ _) ?_; rintro e wy ⟨rfl, rfl⟩)))
    go_wp2
    go_ret2
    exact enc_some HG.out
end Go.Proofs.YteeabfplnaknfaaGreat.Ms
end

section
set_option linter.unusedVariables false
set_option linter.unusedSimpArgs false
namespace Go.Proofs.YteeabfplnaknfaaGreat.Ms
open Go.RowKit Go.Proofs.YteeabfplnaknfaaGreat.Mem Go.Proofs.YteeabfplnaknfaaGreat.DerP Go.Proofs.YteeabfplnaknfaaGreat.DerR

theorem pt_key {p : Pt} {g : Nat} {t : TypeId} {w' : World} (h : Blk w' g t (ptC p).toArray) : Rd w' w'.heap.size (some ⟨g, 2, none⟩) (bvs p.ss) := by
  refine .inr ⟨g, 2, rfl, h.lt, fun i u hu => ?_⟩
  have hi : i < (bvs p.ss).length := (List.getElem?_eq_some_iff.1 hu).1
  rw [h.cell, List.getElem?_toArray, ptC, List.getElem?_append_right (by simp [prC]), List.getElem?_append_left (by simp [prC]; exact hi)]
  simpa [prC] using hu
set_option maxHeartbeats 6400000 in
theorem rencpart_any (p : Pt) (w : World) (hk : p.ss.length = 32) (hs : pSm p.c) (ht : p.tr.length ≤ 1000000000) : Calls Tryz.prog 18 #[.agg (ptC p).toArray] w (EncR w (ptO p)) := by
  have HI := Lib.hid (show (Tryz.prog.info? 55).map (·.size) = some (ptC p).toArray.size by rw [pt_size hk]; kernel_rfl)
  have CF := Lib.hid (show ∀ w' : World, Blk w' w.heap.size 55 (ptC p).toArray → w'.cell? ⟨w.heap.size, 0, none⟩ = some (.string ⟨p.c.1.toArray⟩) ∧ w'.cell? ⟨w.heap.size, 1, none⟩ = some (.string ⟨p.c.2.toArray⟩) ∧ w'.cell? ⟨w.heap.size, 34, none⟩ = some (.string ⟨p.tr.toArray⟩) ∧ w'.cell? ⟨w.heap.size, 35, none⟩ = some (.int .i64 p.st) ∧ w'.cell? ⟨w.heap.size, 36, none⟩ = some (.int .i64 p.en) from fun w' h => pt_cells hk h)
  have I1 := Lib.hid (fun w1 => rispart_any p w1 hk hs ht)
  have T2 := Lib.hid (fun w1 (h : Blk w1 w.heap.size 55 (ptC p).toArray) => DerR.octets_any p.ss (some ⟨w.heap.size, 2, none⟩) 32 32 w1.heap.size w1 (pt_key h) hk.symm (Nat.le_refl _) (by omega))
  obtain ⟨cs, ecs⟩ : ∃ cs, cs = (ptC p).toArray := ⟨_, rfl⟩
  rw [← ecs] at HI CF I1 T2 ⊢
  clear ecs
  have HB := Lib.hid ((Below.refl w.heap.size w).alloc (Nat.le_refl _) (.cells cs 55))
  have HK := Lib.hid (Blk.new w 55 cs)
  cases hx : ptB p with
  | false =>
    rw [hx] at I1
    have E := Lib.hid (show ptO p = none by unfold ptO limO; rw [hx]; rfl)
    rw [E.out]
    clear hx E
    go_enter Tryz.func18, Tryz.ntmps18
    go_wp2_with (first
      | (refine load_cells (by rfl) 55 (.tmp 1) (by rfl) w.heap.size 0 (by rfl) cs _ (range_blk (Blk.new w 55 cs)) Tryz.underlying55 (by rfl) HI.out ?_)
      | (go_at_call 29; refine Calls.mono (I1.out _) ?_; rintro e w1 ⟨rfl, hb⟩; replace HB := Lib.hid (HB.out.trans (hb.mono HB.out.size)); clear hb I1)
      | fail)
    go_ret2
    exact enc_none HB.out
  | true =>
    rw [hx] at I1
    have hp : prB p.c = true := (pt_parts hx).2.1
    have h3 : p.tr.length ≤ 300 := (pt_parts hx).2.2.1
    have b1 := pr_len hp
    have b2 := (prE_len hp).1
    have b3 := encI_le p.st
    have b4 := encI_le p.en
    have b5 := elem_len 27 p.tr
    have b6 := elem_len 4 p.ss
    have T1 := Lib.hid (fun w1 => rprinc_any p.c w1 (by omega) (by omega))
    have T3 := Lib.hid (fun w1 => DerR.text_any p.tr w1 (by omega))
    have T4 := Lib.hid (fun w1 => DerR.int_any p.st w1)
    have T5 := Lib.hid (fun w1 => DerR.int_any p.en w1)
    have hl : [prE p.c, elem 4 p.ss, elem 27 p.tr, encI p.st, encI p.en].flatten.length ≤ 1900 := by rw [flat5]; simp only [List.length_append]; omega
    have HL := Lib.hid (show [prE p.c, elem 4 p.ss, elem 27 p.tr, encI p.st, encI p.en].flatten.length ≤ 65535 by omega)
    have hE := elem_len 99 [prE p.c, elem 4 p.ss, elem 27 p.tr, encI p.st, encI p.en].flatten
    have E := Lib.hid (show ptO p = some (elem 99 [prE p.c, elem 4 p.ss, elem 27 p.tr, encI p.st, encI p.en].flatten) from lim_iff.2 ⟨hx, by show (elem 99 [prE p.c, elem 4 p.ss, elem 27 p.tr, encI p.st, encI p.en].flatten).length ≤ 2000; omega, rfl⟩)
    rw [E.out]
    rw [flat5] at hE hl ⊢
    obtain ⟨l1, el1⟩ : ∃ l, l = prE p.c := ⟨_, rfl⟩
    obtain ⟨l2, el2⟩ : ∃ l, l = elem 4 p.ss := ⟨_, rfl⟩
    obtain ⟨l3, el3⟩ : ∃ l, l = elem 27 p.tr := ⟨_, rfl⟩
    obtain ⟨l4, el4⟩ : ∃ l, l = encI p.st := ⟨_, rfl⟩
    obtain ⟨l5, el5⟩ : ∃ l, l = encI p.en := ⟨_, rfl⟩
    rw [← el1] at T1 HL hE hl ⊢
    rw [← el2] at T2 HL hE hl ⊢
    rw [← el3] at T3 HL hE hl ⊢
    rw [← el4] at T4 HL hE hl ⊢
    rw [← el5] at T5 HL hE hl ⊢
    have hlm : (elem 99 (l1 ++ (l2 ++ (l3 ++ (l4 ++ l5))))).length ≤ 2000 := by omega
    have LM := Lib.hid (fun A c w1 => rlimit_ok (elem 99 (l1 ++ (l2 ++ (l3 ++ (l4 ++ l5))))) A _ c w1 rfl hlm)
    clear hx E hE hl hlm el1 el2 el3 el4 el5 hp h3 b1 b2 b3 b4 b5 b6 hs hk ht
    go_enter Tryz.func18, Tryz.ntmps18
    go_wp2_with (first
      | (refine load_cells (by rfl) 55 (.tmp 1) (by rfl) w.heap.size 0 (by rfl) cs _ (range_blk (Blk.new w 55 cs)) Tryz.underlying55 (by rfl) HI.out ?_)
      | (go_at_call 29; refine Calls.mono (I1.out _) ?_; rintro e w0 ⟨rfl, hb⟩; replace HK := Lib.hid (HK.out.below hb); replace HB := Lib.hid (HB.out.trans (hb.mono HB.out.size)); clear hb I1)
      | fail)
    replace HK := Lib.hid (show Blk w0.drew _ _ _ from HK.out.drewN 1)
    replace HB := Lib.hid (show Below _ _ w0.drew from below_drewN HB.out 1)
    go_region_held3 (fun w' => w'.cell? ⟨w.heap.size, 0, none⟩ = some (.string ⟨p.c.1.toArray⟩) ∧ w'.cell? ⟨w.heap.size, 1, none⟩ = some (.string ⟨p.c.2.toArray⟩) ∧ w'.cell? ⟨w.heap.size, 34, none⟩ = some (.string ⟨p.tr.toArray⟩) ∧ w'.cell? ⟨w.heap.size, 35, none⟩ = some (.int .i64 p.st) ∧ w'.cell? ⟨w.heap.size, 36, none⟩ = some (.int .i64 p.en)) (first | exact CF.out _ HK.out | exact CF.out _ (HK.out.alloc _)) ((first
      | (go_at_call 39; (with_reducible refine Calls.mono (T1.out _) ?_); rintro e w1 ⟨⟨g1, c1, rfl, hg1, hc1, hr1⟩, hb⟩; clear T1; have HR1 := Lib.hid hr1; replace HK := Lib.hid (HK.out.below hb); replace HB := Lib.hid (HB.out.trans (hb.mono HB.out.size)); clear hb hr1 hg1 hc1)
      | (go_at_call 42; (with_reducible refine Calls.mono (T2.out _ HK.out) ?_); rintro e w2 ⟨⟨g2, c2, rfl, hg2, hc2, hr2⟩, hb⟩; clear T2; replace HR1 := Lib.hid (rd_on HR1.out hb); have HR2 := Lib.hid hr2; replace HK := Lib.hid (HK.out.below hb); replace HB := Lib.hid (HB.out.trans (hb.mono HB.out.size)); clear hb hr2 hg2 hc2)
      | (go_at_call 56; (with_reducible refine Calls.mono (T3.out _) ?_); rintro e w3 ⟨⟨g3, c3, rfl, hg3, hc3, hr3⟩, hb⟩; clear T3; replace HR1 := Lib.hid (rd_on HR1.out hb); replace HR2 := Lib.hid (rd_on HR2.out hb); have HR3 := Lib.hid hr3; replace HK := Lib.hid (HK.out.below hb); replace HB := Lib.hid (HB.out.trans (hb.mono HB.out.size)); clear hb hr3 hg3 hc3)
      | (go_at_call 40; (with_reducible refine Calls.mono (T4.out _) ?_); rintro e w4 ⟨⟨g4, c4, rfl, hg4, hc4, hr4⟩, hb⟩; clear T4; replace HR1 := Lib.hid (rd_on HR1.out hb); replace HR2 := Lib.hid (rd_on HR2.out hb); replace HR3 := Lib.hid (rd_on HR3.out hb); have HR4 := Lib.hid hr4; replace HK := Lib.hid (HK.out.below hb); replace HB := Lib.hid (HB.out.trans (hb.mono HB.out.size)); clear hb hr4 hg4 hc4)
      | (go_at_call 40; (with_reducible refine Calls.mono (T5.out _) ?_); rintro e w5 ⟨⟨g5, c5, rfl, hg5, hc5, hr5⟩, hb⟩; clear T5; replace HR1 := Lib.hid (rd_on HR1.out hb); replace HR2 := Lib.hid (rd_on HR2.out hb); replace HR3 := Lib.hid (rd_on HR3.out hb); replace HR4 := Lib.hid (rd_on HR4.out hb); have HR5 := Lib.hid hr5; replace HK := Lib.hid (HK.out.below hb); replace HB := Lib.hid (HB.out.trans (hb.mono HB.out.size)); clear hb hr5 hg5 hc5)
      | (go_at_call 38; refine Calls.mono (wrap_any 99 [l1, l2, l3, l4, l5] _ 5 5 (w5.heap.size + 1) _ (lay_five HR1.out HR2.out HR3.out HR4.out HR5.out) rfl (by simp) HL.out (by simp)) ?_; rintro e wz ⟨⟨gz, cz, rfl, hgz, hcz, hrz⟩, hb⟩; have hal := (Below.refl w5.heap.size w5).alloc (Nat.le_refl _) (.cells #[.slice (some ⟨g1, 0, none⟩) l1.length c1, .slice (some ⟨g2, 0, none⟩) l2.length c2, .slice (some ⟨g3, 0, none⟩) l3.length c3, .slice (some ⟨g4, 0, none⟩) l4.length c4, .slice (some ⟨g5, 0, none⟩) l5.length c5] 26); have HG := Lib.hid (gives_on (l := elem 99 [l1, l2, l3, l4, l5].flatten) ⟨⟨gz, cz, rfl, hgz, hcz, hrz⟩, hb⟩ (HB.out.trans (hal.mono HB.out.size))); rw [flat5] at HG; replace HK := Lib.hid ((HK.out.alloc (.cells #[.slice (some ⟨g1, 0, none⟩) l1.length c1, .slice (some ⟨g2, 0, none⟩) l2.length c2, .slice (some ⟨g3, 0, none⟩) l3.length c3, .slice (some ⟨g4, 0, none⟩) l4.length c4, .slice (some ⟨g5, 0, none⟩) l5.length c5] 26)).below hb); clear hal hgz hcz hrz hb)
      | (go_at_call 37; refine Calls.mono (LM.out _ _ _) ?_; rintro e wy ⟨rfl, rfl⟩)))
    go_wp2
    go_ret2
    exact enc_some HG.out
end Go.Proofs.YteeabfplnaknfaaGreat.Ms
end

section
set_option linter.unusedVariables false
set_option linter.unusedSimpArgs false
namespace Go.Proofs.YteeabfplnaknfaaGreat.Ms
open Go.RowKit Go.Proofs.YteeabfplnaknfaaGreat.Mem Go.Proofs.YteeabfplnaknfaaGreat.DerP Go.Proofs.YteeabfplnaknfaaGreat.DerR

theorem wh_eq (c : Option L) : DerC.wholeC c = whC c := by
  cases c with
  | none => rfl
  | some l => cases l <;> rfl
theorem g_same {a b c : World} {row : Option Nat} (h : a.grownBy b row) (k : b.grownBy c row) : a.grownBy c row :=
  ⟨k.os.trans h.os, k.tape.trans h.tape, k.output.trans h.output, Nat.le_trans h.size k.size, fun i hi hn => (k.block i (Nat.lt_of_lt_of_le hi h.size) hn).trans (h.block i hi hn)⟩
theorem g_new {a b c : World} {row : Option Nat} {q : Nat} (h : a.grownBy b row) (k : b.grownBy c (some q)) (hq : a.heap.size ≤ q) : a.grownBy c row :=
  ⟨k.os.trans h.os, k.tape.trans h.tape, k.output.trans h.output, Nat.le_trans h.size k.size, fun i hi hn => (k.block i (Nat.lt_of_lt_of_le hi h.size) (fun e => by injection e with e; omega)).trans (h.block i hi hn)⟩
theorem rc_lt {w : World} {B g : Nat} {c : Option L} (h : RC w B g c) : g < w.heap.size := by
  obtain ⟨A, n, cap, e, hb, _⟩ := h
  exact hb.lt
theorem rc_far {w w' : World} {B g q : Nat} {c : Option L} (h : RC w B g c) (hg : w.grownBy w' (some q)) (hq : q ≠ g) (hB : B ≤ w.heap.size) (hBq : B ≤ q) : RC w' B g c :=
  h.keep hg (fun e => hq (by injection e)) hB (fun k hk => by injection hk with hk; omega)
theorem rc_alloc {w : World} {B g : Nat} {c : Option L} (h : RC w B g c) (hB : B ≤ w.heap.size) (o : Obj) : RC (w.alloc o) B g c :=
  h.keep (row := none) (g_alloc (World.grownBy.refl _ _) o) (by simp) hB (by simp)
theorem rc_err {w : World} {B g : Nat} {c : Option L} (h : RC w B g c) : RC (w.setCell ⟨g, 1, none⟩ (.bool true)) B g none := by
  obtain ⟨A, n, cap, e, hb, _⟩ := h
  exact ⟨A, n, cap, true, hb.set 1 _, rfl⟩
theorem rc_set {w : World} {B g q j : Nat} {c : Option L} {u : Value} (h : RC w B g c) (hq : q ≠ g) (hB : B ≤ w.heap.size) (hBq : B ≤ q) : RC (w.setCell ⟨q, j, none⟩ u) B g c :=
  rc_far (q := q) h (g_set (World.grownBy.refl _ _) (.inl rfl) u) hq hB hBq
theorem rc_cell {w : World} {B g : Nat} {c : Option L} (h : RC w B g c) : w.cell? ⟨g, 1, none⟩ = some (.bool (!c.isSome)) ∧ w.frozen? ⟨g, 1, none⟩ = false := by
  obtain ⟨A, n, cap, e, hb, hr⟩ := h
  refine ⟨?_, hb.frozen 1⟩
  cases c with
  | none => obtain rfl : e = true := hr; exact hb.cell 1
  | some l => obtain rfl : e = false := hr.1; exact hb.cell 1
theorem rc_same {w : World} {B g : Nat} {l : L} (h : RC w B g (some l)) : RC (w.setCell ⟨g, 1, none⟩ (.bool false)) B g (some l) := by
  obtain ⟨A, n, cap, e, hb, hr⟩ := h
  obtain rfl : e = false := hr.1
  have hB := hr.2.2.2
  refine ⟨A, n, cap, false, hb.set 1 _, rfl, hr.2.1, hr.2.2.1, ?_⟩
  refine hB.keep fun b o hb' => ?_
  by_cases e : b = g
  · subst e
    rw [(hb.set 1 (.bool false)).cell, hb.cell]
    rfl
  · exact World.cell?_setCell_other _ _ _ _ (fun h => e (by injection h with h; exact h.symm))

theorem results_cell {P : Program} {fn : Func} {tmps : Array Value} {w : World} {v : Value} (t : Nat) (ty : TypeId) (a : Addr) (hres : fn.results = #[.cell t ty]) (ht : tmps.getD t undef = .pointer (some a)) (hl : (loadVar ty a).run P w = .ok v w) :
    (results fn tmps).run P w = .ok v w := by
  have ht' : tmps[t]?.getD undef = .pointer (some a) := by simpa using ht
  simp [results, hres, ht', asAddr, hl]
theorem load_blk {P : Program} {w : World} {g : Nat} {t ty : TypeId} {cs : Array Value} {d : TypeDesc} (h : Blk w g t cs) (hu : P.underlying ty = some d) (hd : d.isRow = true) (hi : (P.info? ty).map (·.size) = some cs.size) :
    (loadVar ty ⟨g, 0, none⟩).run P w = .ok (.agg cs) w := by
  have hc : w.rangeAt g 0 cs.toList := fun j v hv => by rw [Nat.zero_add, h.cell]; simpa using hv
  have := run_loadVar_mid (P := P) w g 0 ty cs.toList d hc hu hd (by simpa using hi)
  simpa using this
set_option maxHeartbeats 3200000 in
theorem rtoprinc_any (B g : Nat) (c : Option L) (w : World) (h : RC w B g c) (hB : B ≤ w.heap.size) (hBg : B ≤ g) (hu : (c.getD []).length ≤ 100000) :
    Calls Tryz.prog 46 #[.pointer (some ⟨g, 0, none⟩)] w fun e w' => e = .returned (.agg #[.string ⟨(prP c).1.1.toArray⟩, .string ⟨(prP c).1.2.toArray⟩]) ∧ RC w' B g (prP c).2 ∧ w.grownBy w' (some g) := by
  have hlt := rc_lt h
  obtain ⟨W, eW⟩ : ∃ W, W = w.alloc (.cells #[.string ⟨#[]⟩, .string ⟨#[]⟩] 23) := ⟨_, rfl⟩
  have hWs : W.heap.size = w.heap.size + 1 := by rw [eW]; simp
  have h1 : RC W B g c := by rw [eW]; exact rc_alloc h hB _
  have HG := Lib.hid (show w.grownBy W (some g) by rw [eW]; exact g_alloc (World.grownBy.refl _ _) _)
  have HR := Lib.hid (show Blk W w.heap.size 23 #[.string ⟨#[]⟩, .string ⟨#[]⟩] by rw [eW]; exact Blk.new _ _ _)
  have c1 := rinto_any 48 B g c W h1 (by omega) hBg hu
  have HBW := Lib.hid (show B ≤ W.heap.size by omega)
  have HWS := Lib.hid hWs
  have HLT := Lib.hid hlt
  have HBg := Lib.hid hBg
  have HB0 := Lib.hid hB
  have hl1 := (body_len 48 c).1
  have HP1 := Lib.hid (show (prP c).1 = (txC (bodyC 48 c), txC (nextC 27 (bodyC 48 c))) from rfl)
  have HP2 := Lib.hid (show (prP c).2 = if whC (nextC 27 (nextC 27 (bodyC 48 c))) then nextC 48 c else none from rfl)
  obtain ⟨d, ed⟩ : ∃ d, d = bodyC 48 c := ⟨_, rfl⟩
  obtain ⟨r, er⟩ : ∃ r, r = nextC 48 c := ⟨_, rfl⟩
  rw [← ed] at c1 hl1 HP1 HP2
  rw [← er] at c1 HP2
  rw [HP1.out, HP2.out]
  have hl2 := (body_len 27 d).2
  have HL1 := Lib.hid (show (d.getD []).length ≤ 100000 by omega)
  have HL2 := Lib.hid (show ((nextC 27 d).getD []).length ≤ 100000 by omega)
  have T1 := Lib.hid (fun B g w h h1 h2 => (rtext_any B g d w h h1 h2 HL1.out))
  have T2 := Lib.hid (fun B g w h h1 h2 => (rtext_any B g (nextC 27 d) w h h1 h2 HL2.out))
  have WH := Lib.hid (fun B g w h => rwhole_any B g (nextC 27 (nextC 27 d)) w h)
  rw [wh_eq] at WH
  rw [show (bodyC 27 d).getD [] = txC d from rfl] at T1
  rw [show (bodyC 27 (nextC 27 d)).getD [] = txC (nextC 27 d) from rfl] at T2
  obtain ⟨t1, et1⟩ : ∃ t, t = txC d := ⟨_, rfl⟩
  obtain ⟨t2, et2⟩ : ∃ t, t = txC (nextC 27 d) := ⟨_, rfl⟩
  obtain ⟨d2, ed2⟩ : ∃ q, q = nextC 27 d := ⟨_, rfl⟩
  rw [← et1] at T1 ⊢
  rw [← et2] at T2 ⊢
  rw [← ed2] at T1 T2 WH ⊢
  obtain ⟨d3, ed3⟩ : ∃ q, q = nextC 27 d2 := ⟨_, rfl⟩
  rw [← ed3] at T2 WH ⊢
  obtain ⟨fi, efi⟩ : ∃ q, q = if whC d3 = true then r else none := ⟨_, rfl⟩
  rw [← efi]
  have EF := Lib.hid efi
  clear efi
  clear h h1 hB hBg hu hlt hWs hl1 hl2 HP1 HP2 HL1 HL2 ed er et1 et2 ed2 ed3
  subst eW
  go_enter Tryz.func46, Tryz.ntmps46
  go_upto_region 3 with (first
    | (go_at_call 45; refine Calls.mono c1 ?_; rintro e w2 ⟨⟨gd, rfl, hgd, hd⟩, hc, hg2⟩; clear c1; have HD := Lib.hid hd; have HC := Lib.hid hc; have HGD := Lib.hid (show w.heap.size + 1 ≤ gd by have := HWS.out; omega); replace HR := Lib.hid (HR.out.grown hg2 (by intro e; injection e with e; have := HLT.out; omega)); replace HG := Lib.hid (g_same HG.out hg2); replace HBW := Lib.hid (Nat.le_trans HBW.out hg2.size); have HDL := Lib.hid (rc_lt hd); clear hgd hd hc hg2)
    | (go_at_call 64; refine Calls.mono (T1.out B gd _ HD.out HBW.out (by have := HGD.out; have := HLT.out; have := HBg.out; omega)) ?_; rintro e w3 ⟨rfl, hd, hg3⟩; clear T1; replace HD := Lib.hid hd; replace HC := Lib.hid (rc_far HC.out hg3 (by have := HGD.out; have := HLT.out; omega) HBW.out (by have := HGD.out; have := HLT.out; have := HBg.out; omega)); replace HR := Lib.hid (HR.out.grown hg3 (by intro e; injection e with e; have := HGD.out; omega)); replace HG := Lib.hid (g_new HG.out hg3 (by have := HGD.out; omega)); replace HBW := Lib.hid (Nat.le_trans HBW.out hg3.size); replace HDL := Lib.hid (rc_lt hd); clear hd hg3))
  obtain ⟨P, eP⟩ : ∃ P, P = w3.heap.size := ⟨_, rfl⟩
  obtain ⟨W4, e4⟩ : ∃ W4, W4 = w3.alloc (.cells #[.string ⟨t1.toArray⟩, .string ⟨#[]⟩] 23) := ⟨_, rfl⟩
  have HPB := Lib.hid (show Blk W4 P 23 #[.string ⟨t1.toArray⟩, .string ⟨#[]⟩] by rw [e4, eP]; exact Blk.new _ _ _)
  have h4s : W4.heap.size = P + 1 := by rw [e4, eP]; simp
  have HPG := Lib.hid (show gd < P by rw [eP]; exact HDL.out)
  have hbp : B ≤ P := by rw [eP]; exact HBW.out
  have HBP := Lib.hid hbp
  have HNP := Lib.hid (show w.heap.size < P by have := HPG.out; have := HGD.out; omega)
  have HGP := Lib.hid (show g < P by have := HLT.out; have := HNP.out; omega)
  replace HD := Lib.hid (show RC W4 B gd d2 by rw [e4]; exact rc_alloc HD.out HBW.out _)
  replace HC := Lib.hid (show RC W4 B g r by rw [e4]; exact rc_alloc HC.out HBW.out _)
  replace HR := Lib.hid (show Blk W4 w.heap.size 23 _ by rw [e4]; exact HR.out.alloc _)
  replace HG := Lib.hid (show w.grownBy W4 (some g) by rw [e4]; exact g_alloc HG.out _)
  replace HBW := Lib.hid (show B ≤ W4.heap.size by omega)
  rw [← e4, ← eP]
  clear e4 eP h4s hbp
  go_upto_region 4 with (go_at_call 64; refine Calls.mono (T2.out B gd _ HD.out HBW.out (by have := HGD.out; have := HLT.out; have := HBg.out; omega)) ?_; rintro e w5 ⟨rfl, hd, hg3⟩; clear T2; replace HD := Lib.hid hd; replace HC := Lib.hid (rc_far HC.out hg3 (by have := HGD.out; have := HLT.out; omega) HBW.out (by have := HGD.out; have := HLT.out; have := HBg.out; omega)); replace HR := Lib.hid (HR.out.grown hg3 (by intro e; injection e with e; have := HGD.out; omega)); replace HPB := Lib.hid (HPB.out.grown hg3 (by intro e; injection e with e; have := HPG.out; omega)); replace HG := Lib.hid (g_new HG.out hg3 (by have := HGD.out; omega)); replace HBW := Lib.hid (Nat.le_trans HBW.out hg3.size); have f0 := HPB.out.frozen 1; have k9 : w5.cell? ⟨P, 1, none⟩ = some (.string ⟨#[]⟩) := HPB.out.cell 1; clear hd hg3)
  have H1 := Lib.hid (show Blk (w5.setCell ⟨P, 1, none⟩ (.string ⟨t2.toArray⟩)) P 23 #[.string ⟨t1.toArray⟩, .string ⟨t2.toArray⟩] from HPB.out.set 1 (.string ⟨t2.toArray⟩))
  have H2 := Lib.hid (rc_set (j := 1) (u := .string ⟨t2.toArray⟩) HD.out (q := P) (by have := HPG.out; omega) HBW.out HBP.out)
  have H3 := Lib.hid (rc_set (j := 1) (u := .string ⟨t2.toArray⟩) HC.out (q := P) (by have := HGP.out; omega) HBW.out HBP.out)
  have H4 := Lib.hid (show Blk (w5.setCell ⟨P, 1, none⟩ (.string ⟨t2.toArray⟩)) w.heap.size 23 _ from (Below.heap_setCell w5 _ _ w.heap.size (fun e => by have := HNP.out; simp only at e; omega)).trans HR.out)
  have H5 := Lib.hid (g_set HG.out (p := ⟨P, 1, none⟩) (.inr (show w.heap.size ≤ P by have := HNP.out; omega)) (.string ⟨t2.toArray⟩))
  have H6 := Lib.hid (show B ≤ (w5.setCell ⟨P, 1, none⟩ (.string ⟨t2.toArray⟩)).heap.size from Nat.le_trans HBW.out (g_set (World.grownBy.refl w5 (some P)) (p := ⟨P, 1, none⟩) (.inl rfl) (.string ⟨t2.toArray⟩)).size)
  obtain ⟨V, eV⟩ : ∃ V, V = w5.setCell ⟨P, 1, none⟩ (.string ⟨t2.toArray⟩) := ⟨_, rfl⟩
  rw [← eV] at H1 H2 H3 H4 H5 H6 ⊢
  clear eV k9 f0 HPB HD HC HR HG HBW
  have hcl := rc_cell H3.out
  have k1 := hcl.1
  have f1 := hcl.2
  clear hcl
  cases r with
  | none =>
    simp only [Option.isSome_none, Bool.not_false] at k1
    go_upto_region 5 with fail
    have K1 := Lib.hid (show Blk (V.setCell ⟨g, 1, none⟩ (.bool true)) P 23 _ from (Below.heap_setCell V _ _ P (fun e => by have := HGP.out; simp only at e; omega)).trans H1.out)
    have K2 := Lib.hid (show Blk (V.setCell ⟨g, 1, none⟩ (.bool true)) w.heap.size 23 _ from (Below.heap_setCell V _ _ w.heap.size (fun e => by have := HLT.out; simp only at e; omega)).trans H4.out)
    have K3 := Lib.hid (show RC (V.setCell ⟨g, 1, none⟩ (.bool true)) B g fi by rw [EF.out]; have h := rc_err H3.out; cases whC d3 <;> exact h)
    have K4 := Lib.hid (g_set H5.out (p := ⟨g, 1, none⟩) (.inl rfl) (.bool true))
    have K5 := Lib.hid (show B ≤ (V.setCell ⟨g, 1, none⟩ (.bool true)).heap.size from Nat.le_trans H6.out (g_set (World.grownBy.refl V (some g)) (p := ⟨g, 1, none⟩) (.inl rfl) (.bool true)).size)
    obtain ⟨Z, eZ⟩ : ∃ Z, Z = V.setCell ⟨g, 1, none⟩ (.bool true) := ⟨_, rfl⟩
    rw [← eZ] at K1 K2 K3 K4 K5 ⊢
    clear eZ k1 f1 H1 H2 H3 H4 H5 H6
    have p0 : Z.cell? ⟨P, 0, none⟩ = some (.string ⟨t1.toArray⟩) := K1.out.cell 0
    have p1 : Z.cell? ⟨P, 1, none⟩ = some (.string ⟨t2.toArray⟩) := K1.out.cell 1
    have n0 : Z.cell? ⟨w.heap.size, 0, none⟩ = some (.string ⟨#[]⟩) := K2.out.cell 0
    have n1 : Z.cell? ⟨w.heap.size, 1, none⟩ = some (.string ⟨#[]⟩) := K2.out.cell 1
    have z0 := K2.out.frozen 0
    have z1 := K2.out.frozen 1
    go_wp2
    have hE : Blk ((Z.setCell ⟨w.heap.size, 0, none⟩ (.string ⟨t1.toArray⟩)).setCell ⟨w.heap.size, 1, none⟩ (.string ⟨t2.toArray⟩)) w.heap.size 23 #[.string ⟨t1.toArray⟩, .string ⟨t2.toArray⟩] := (K2.out.set 0 _).set 1 _
    have hq := load_blk (P := Tryz.prog) hE Tryz.underlying23 rfl (by kernel_rfl)
    refine bodyPost_ret (v := .agg #[.string ⟨t1.toArray⟩, .string ⟨t2.toArray⟩]) ?_ ?_ ?_
    · exact results_cell 2 23 ⟨w.heap.size, 0, none⟩ Tryz.results46 rfl hq
    · rfl
    refine ⟨rfl, ?_, ?_⟩
    · exact rc_set (rc_set K3.out (by have := HLT.out; omega) K5.out HB0.out) (by have := HLT.out; omega) (Nat.le_trans K5.out (g_set (World.grownBy.refl Z (some w.heap.size)) (p := ⟨w.heap.size, 0, none⟩) (.inl rfl) _).size) HB0.out
    · exact g_set (g_set K4.out (.inr (Nat.le_refl _)) _) (.inr (Nat.le_refl _)) _
  | some l =>
    simp only [Option.isSome_some, Bool.not_true] at k1
    have c5 := WH.out B gd _ H2.out
    clear WH
    cases q : whC d3 with
    | false =>
      rw [q] at c5
      rw [q, if_neg Bool.false_ne_true] at EF
      clear q
      go_upto_region 5 with (go_at_call 96; refine Calls.mono c5 ?_; rintro e wv ⟨rfl, hw⟩; subst hw; clear c5)
      have K1 := Lib.hid (show Blk (V.setCell ⟨g, 1, none⟩ (.bool true)) P 23 _ from (Below.heap_setCell V _ _ P (fun e => by have := HGP.out; simp only at e; omega)).trans H1.out)
      have K2 := Lib.hid (show Blk (V.setCell ⟨g, 1, none⟩ (.bool true)) w.heap.size 23 _ from (Below.heap_setCell V _ _ w.heap.size (fun e => by have := HLT.out; simp only at e; omega)).trans H4.out)
      have K3 := Lib.hid (show RC (V.setCell ⟨g, 1, none⟩ (.bool true)) B g fi by rw [EF.out]; exact rc_err H3.out)
      have K4 := Lib.hid (g_set H5.out (p := ⟨g, 1, none⟩) (.inl rfl) (.bool true))
      have K5 := Lib.hid (show B ≤ (V.setCell ⟨g, 1, none⟩ (.bool true)).heap.size from Nat.le_trans H6.out (g_set (World.grownBy.refl V (some g)) (p := ⟨g, 1, none⟩) (.inl rfl) (.bool true)).size)
      obtain ⟨Z, eZ⟩ : ∃ Z, Z = V.setCell ⟨g, 1, none⟩ (.bool true) := ⟨_, rfl⟩
      rw [← eZ] at K1 K2 K3 K4 K5 ⊢
      clear eZ k1 f1 H1 H2 H3 H4 H5 H6
      have p0 : Z.cell? ⟨P, 0, none⟩ = some (.string ⟨t1.toArray⟩) := K1.out.cell 0
      have p1 : Z.cell? ⟨P, 1, none⟩ = some (.string ⟨t2.toArray⟩) := K1.out.cell 1
      have n0 : Z.cell? ⟨w.heap.size, 0, none⟩ = some (.string ⟨#[]⟩) := K2.out.cell 0
      have n1 : Z.cell? ⟨w.heap.size, 1, none⟩ = some (.string ⟨#[]⟩) := K2.out.cell 1
      have z0 := K2.out.frozen 0
      have z1 := K2.out.frozen 1
      go_wp2
      have hE : Blk ((Z.setCell ⟨w.heap.size, 0, none⟩ (.string ⟨t1.toArray⟩)).setCell ⟨w.heap.size, 1, none⟩ (.string ⟨t2.toArray⟩)) w.heap.size 23 #[.string ⟨t1.toArray⟩, .string ⟨t2.toArray⟩] := (K2.out.set 0 _).set 1 _
      have hq := load_blk (P := Tryz.prog) hE Tryz.underlying23 rfl (by kernel_rfl)
      refine bodyPost_ret (v := .agg #[.string ⟨t1.toArray⟩, .string ⟨t2.toArray⟩]) ?_ ?_ ?_
      · exact results_cell 2 23 ⟨w.heap.size, 0, none⟩ Tryz.results46 rfl hq
      · rfl
      refine ⟨rfl, ?_, ?_⟩
      · exact rc_set (rc_set K3.out (by have := HLT.out; omega) K5.out HB0.out) (by have := HLT.out; omega) (Nat.le_trans K5.out (g_set (World.grownBy.refl Z (some w.heap.size)) (p := ⟨w.heap.size, 0, none⟩) (.inl rfl) _).size) HB0.out
      · exact g_set (g_set K4.out (.inr (Nat.le_refl _)) _) (.inr (Nat.le_refl _)) _
    | true =>
      rw [q] at c5
      rw [q, if_pos rfl] at EF
      clear q
      go_upto_region 5 with (go_at_call 96; refine Calls.mono c5 ?_; rintro e wv ⟨rfl, hw⟩; subst hw; clear c5)
      have K1 := Lib.hid (show Blk (V.setCell ⟨g, 1, none⟩ (.bool false)) P 23 _ from (Below.heap_setCell V _ _ P (fun e => by have := HGP.out; simp only at e; omega)).trans H1.out)
      have K2 := Lib.hid (show Blk (V.setCell ⟨g, 1, none⟩ (.bool false)) w.heap.size 23 _ from (Below.heap_setCell V _ _ w.heap.size (fun e => by have := HLT.out; simp only at e; omega)).trans H4.out)
      have K3 := Lib.hid (show RC (V.setCell ⟨g, 1, none⟩ (.bool false)) B g fi by rw [EF.out]; exact rc_same H3.out)
      have K4 := Lib.hid (g_set H5.out (p := ⟨g, 1, none⟩) (.inl rfl) (.bool false))
      have K5 := Lib.hid (show B ≤ (V.setCell ⟨g, 1, none⟩ (.bool false)).heap.size from Nat.le_trans H6.out (g_set (World.grownBy.refl V (some g)) (p := ⟨g, 1, none⟩) (.inl rfl) (.bool false)).size)
      obtain ⟨Z, eZ⟩ : ∃ Z, Z = V.setCell ⟨g, 1, none⟩ (.bool false) := ⟨_, rfl⟩
      rw [← eZ] at K1 K2 K3 K4 K5 ⊢
      clear eZ k1 f1 H1 H2 H3 H4 H5 H6
      have p0 : Z.cell? ⟨P, 0, none⟩ = some (.string ⟨t1.toArray⟩) := K1.out.cell 0
      have p1 : Z.cell? ⟨P, 1, none⟩ = some (.string ⟨t2.toArray⟩) := K1.out.cell 1
      have n0 : Z.cell? ⟨w.heap.size, 0, none⟩ = some (.string ⟨#[]⟩) := K2.out.cell 0
      have n1 : Z.cell? ⟨w.heap.size, 1, none⟩ = some (.string ⟨#[]⟩) := K2.out.cell 1
      have z0 := K2.out.frozen 0
      have z1 := K2.out.frozen 1
      go_wp2
      have hE : Blk ((Z.setCell ⟨w.heap.size, 0, none⟩ (.string ⟨t1.toArray⟩)).setCell ⟨w.heap.size, 1, none⟩ (.string ⟨t2.toArray⟩)) w.heap.size 23 #[.string ⟨t1.toArray⟩, .string ⟨t2.toArray⟩] := (K2.out.set 0 _).set 1 _
      have hq := load_blk (P := Tryz.prog) hE Tryz.underlying23 rfl (by kernel_rfl)
      refine bodyPost_ret (v := .agg #[.string ⟨t1.toArray⟩, .string ⟨t2.toArray⟩]) ?_ ?_ ?_
      · exact results_cell 2 23 ⟨w.heap.size, 0, none⟩ Tryz.results46 rfl hq
      · rfl
      refine ⟨rfl, ?_, ?_⟩
      · exact rc_set (rc_set K3.out (by have := HLT.out; omega) K5.out HB0.out) (by have := HLT.out; omega) (Nat.le_trans K5.out (g_set (World.grownBy.refl Z (some w.heap.size)) (p := ⟨w.heap.size, 0, none⟩) (.inl rfl) _).size) HB0.out
      · exact g_set (g_set K4.out (.inr (Nat.le_refl _)) _) (.inr (Nat.le_refl _)) _
end Go.Proofs.YteeabfplnaknfaaGreat.Ms
end

section
set_option linter.unusedVariables false
set_option linter.unusedSimpArgs false
namespace Go.Proofs.YteeabfplnaknfaaGreat.Ms
open Go.RowKit Go.Proofs.YteeabfplnaknfaaGreat.Mem Go.Proofs.YteeabfplnaknfaaGreat.DerP Go.Proofs.YteeabfplnaknfaaGreat.DerR

theorem intC_len (c : Option L) : ((intC c).2.getD []).length ≤ (c.getD []).length := by
  unfold intC
  cases h : bodyC 2 c with
  | none => simp
  | some b =>
    simp only
    cases numL b with
    | none => simp
    | some n => exact (body_len 2 c).2
theorem prP_len (c : Option L) : ((prP c).2.getD []).length ≤ (c.getD []).length := by
  unfold prP
  simp only
  split
  · exact (body_len 48 c).2
  · simp
end Go.Proofs.YteeabfplnaknfaaGreat.Ms
end
