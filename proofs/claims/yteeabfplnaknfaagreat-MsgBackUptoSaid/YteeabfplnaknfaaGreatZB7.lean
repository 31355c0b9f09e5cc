import Derived.Deep.LoopGhost
import Derived.Deep.RegionHeld3
import Derived.Test.YteeabfplnaknfaaGreatZB1
import Derived.Test.YteeabfplnaknfaaGreatZB2
import Derived.Test.YteeabfplnaknfaaGreatZB3
import Derived.Test.YteeabfplnaknfaaGreatZB5
import Derived.Test.YteeabfplnaknfaaGreatZB6
section
set_option linter.unusedVariables false
namespace Go.Proofs.YteeabfplnaknfaaGreat.Ms
open Go.RowKit Go.Proofs.YteeabfplnaknfaaGreat.Mem Go.Proofs.YteeabfplnaknfaaGreat.DerP

theorem rin_any (n a b : Int) (w : World) : Calls Tryz.prog 70 #[.int .i64 n, .int .i64 a, .int .i64 b] w fun e w' => e = .returned (.bool (inB n a b)) ∧ w = w' := by
  cases h1 : decide (a ≤ n) with
  | false =>
    go_enter Tryz.func70, Tryz.ntmps70
    go_wp2
    go_ret
    exact ⟨by rw [inB, h1]; rfl, rfl⟩
  | true =>
    go_enter Tryz.func70, Tryz.ntmps70
    go_wp2
    go_ret
    exact ⟨by rw [inB, h1]; rfl, rfl⟩
theorem rtm_any (n : Int) (w : World) : Calls Tryz.prog 70 #[.int .i64 n, .int .i64 0, .int .i64 1073741824] w fun e w' => e = .returned (.bool (tmB n)) ∧ w = w' := rin_any n 0 1073741824 w
theorem blob_in (b : L) : inB (b.length : Int) 1 800 = blobB b := by
  rw [inB, blobB]
  have e1 : decide ((1 : Int) ≤ (b.length : Int)) = decide (1 ≤ b.length) := by rw [decide_eq_decide]; omega
  have e2 : decide ((b.length : Int) ≤ 800) = decide (b.length ≤ 800) := by rw [decide_eq_decide]; omega
  rw [e1, e2]
theorem rblob_any (b : L) (A : Option Addr) (c : Nat) (w : World) : Calls Tryz.prog 85 #[.slice A b.length c] w fun e w' => e = .returned (.bool (blobB b)) ∧ w = w' := by
  have c1 := rin_any (b.length : Int) 1 800 w
  rw [blob_in] at c1
  go_enter Tryz.func85, Tryz.ntmps85
  go_wp2_with (go_at_call 70; refine Calls.mono c1 ?_; rintro e w1 ⟨rfl, rfl⟩)
  go_ret
  exact ⟨rfl, rfl⟩
theorem rlimit_any (l : L) (A : Option Addr) (n c : Nat) (w : World) (hn : n = l.length) : Calls Tryz.prog 37 #[.slice A n c] w fun e w' => e = .returned (.tuple (if l.length ≤ 2000 then #[.slice A n c, .int .i64 0] else #[.slice none 0 0, .int .i64 1])) ∧ w = w' := by
  subst hn
  by_cases h : l.length ≤ 2000
  · rw [if_pos h]
    have t1 : decide ((2000 : Int) < (l.length : Int)) = false := decide_eq_false (by omega)
    clear h
    go_enter Tryz.func37, Tryz.ntmps37
    go_wp2
    go_ret2
    exact ⟨rfl, rfl⟩
  · rw [if_neg h]
    have t1 : decide ((2000 : Int) < (l.length : Int)) = true := decide_eq_true (by omega)
    clear h
    go_enter Tryz.func37, Tryz.ntmps37
    go_wp2
    go_ret2
    exact ⟨rfl, rfl⟩

theorem isprinc_any (p : Pr) (w : World) (h1 : p.1.length ≤ 1000000000) (h2 : p.2.length ≤ 1000000000) : Calls Tryz.prog 69 #[prV p] w fun e w' => e = .returned (.bool (prB p)) ∧ Below w.heap.size w w' := Nm.risprinc_any p.1 p.2 w h1 h2
def pSm (p : Pr) : Prop := p.1.length ≤ 1000000000 ∧ p.2.length ≤ 1000000000
set_option maxHeartbeats 1600000 in
theorem rticket_any (t : Tk) (A : Option Addr) (c : Nat) (w : World) (hs : pSm t.s) : Calls Tryz.prog 84 #[.agg #[.string ⟨t.s.1.toArray⟩, .string ⟨t.s.2.toArray⟩, .int .i64 t.k, .slice A t.b.length c]] w fun e w' => e = .returned (.bool (tkB t)) ∧ Below w.heap.size w w' := by
  have hb0 := (Below.refl w.heap.size w).alloc (Nat.le_refl _) (.cells #[.string ⟨t.s.1.toArray⟩, .string ⟨t.s.2.toArray⟩, .int .i64 t.k, .slice A t.b.length c] 28)
  have HB := Lib.hid hb0
  have HK := Lib.hid (Blk.new w 28 #[.string ⟨t.s.1.toArray⟩, .string ⟨t.s.2.toArray⟩, .int .i64 t.k, .slice A t.b.length c])
  have c1 := isprinc_any t.s (w.alloc (.cells #[.string ⟨t.s.1.toArray⟩, .string ⟨t.s.2.toArray⟩, .int .i64 t.k, .slice A t.b.length c] 28)) hs.1 hs.2
  have C2 := Lib.hid (fun w1 => rin_any t.k 1 255 w1)
  have C3 := Lib.hid (fun w1 => rblob_any t.b A c w1)
  unfold prV at c1
  clear hb0
  cases h1 : prB t.s with
  | false =>
    rw [h1] at c1
    have E := Lib.hid (show tkB t = false by rw [tkB, h1]; rfl)
    clear h1
    go_enter Tryz.func84, Tryz.ntmps84
    go_wp2_with (go_at_call 69; refine Calls.mono c1 ?_; rintro e w1 ⟨rfl, hb⟩; replace HB := Lib.hid (HB.out.trans (hb.mono HB.out.size)); clear hb c1)
    go_ret
    exact ⟨by rw [E.out]; rfl, HB.out⟩
  | true =>
    rw [h1] at c1
    cases h2 : inB t.k 1 255 with
    | false =>
      rw [h2] at C2
      have E := Lib.hid (show tkB t = false by rw [tkB, h1, h2]; rfl)
      clear h1 h2
      go_enter Tryz.func84, Tryz.ntmps84
      go_wp2_with (first
        | (go_at_call 69; refine Calls.mono c1 ?_; rintro e w1 ⟨rfl, hb⟩; replace HK := Lib.hid (HK.out.below hb); replace HB := Lib.hid (HB.out.trans (hb.mono HB.out.size)); clear hb c1; have k2 := HK.out.cell 2; simp only [List.getElem?_toArray, List.getElem?_cons_zero, List.getElem?_cons_succ] at k2)
        | (go_at_call 70; refine Calls.mono (C2.out _) ?_; rintro e w2 ⟨rfl, rfl⟩))
      go_ret
      exact ⟨by rw [E.out]; rfl, HB.out⟩
    | true =>
      rw [h2] at C2
      have E := Lib.hid (show tkB t = blobB t.b by rw [tkB, h1, h2]; rfl)
      clear h1 h2
      go_enter Tryz.func84, Tryz.ntmps84
      go_wp2_with (first
        | (go_at_call 69; refine Calls.mono c1 ?_; rintro e w1 ⟨rfl, hb⟩; replace HK := Lib.hid (HK.out.below hb); replace HB := Lib.hid (HB.out.trans (hb.mono HB.out.size)); clear hb c1; have k2 := HK.out.cell 2; have k3 := HK.out.cell 3; simp only [List.getElem?_toArray, List.getElem?_cons_zero, List.getElem?_cons_succ] at k2 k3)
        | (go_at_call 70; refine Calls.mono (C2.out _) ?_; rintro e w2 ⟨rfl, rfl⟩)
        | (go_at_call 85; refine Calls.mono (C3.out _) ?_; rintro e w3 ⟨rfl, rfl⟩))
      go_ret
      exact ⟨by rw [E.out]; rfl, HB.out⟩
end Go.Proofs.YteeabfplnaknfaaGreat.Ms
end

section
set_option linter.unusedVariables false
namespace Go.Proofs.YteeabfplnaknfaaGreat.Ms
open Go.RowKit Go.Proofs.YteeabfplnaknfaaGreat.Mem Go.Proofs.YteeabfplnaknfaaGreat.DerP Go.Proofs.YteeabfplnaknfaaGreat.DerR

theorem gives_on {w0 w : World} {l : L} {e : Ending} {w' : World} (h : Gives w l e w') (hb : Below w0.heap.size w0 w) : Gives w0 l e w' := by
  obtain ⟨⟨g, c, h1, h2, h3, h4⟩, h5⟩ := h
  exact ⟨⟨g, c, h1, Nat.le_trans hb.size h2, h3, h4⟩, hb.trans (h5.mono hb.size)⟩
set_option maxHeartbeats 1600000 in
theorem rprinc_any (p : Pr) (w : World) (hs : p.1.length ≤ 20000) (hs2 : p.2.length ≤ 20000) : Calls Tryz.prog 39 #[.agg #[.string ⟨p.1.toArray⟩, .string ⟨p.2.toArray⟩]] w (Gives w (prE p)) := by
  have hb0 := (Below.refl w.heap.size w).alloc (Nat.le_refl _) (.cells #[.string ⟨p.1.toArray⟩, .string ⟨p.2.toArray⟩] 23)
  have HB := Lib.hid hb0
  have HK := Lib.hid (Blk.new w 23 #[.string ⟨p.1.toArray⟩, .string ⟨p.2.toArray⟩])
  have T1 := Lib.hid (fun w1 => DerR.text_any p.1 w1 (by omega))
  have T2 := Lib.hid (fun w1 => DerR.text_any p.2 w1 (by omega))
  have e1 := elem_len 27 p.1
  have e2 := elem_len 27 p.2
  have HL := Lib.hid (show [elem 27 p.1, elem 27 p.2].flatten.length ≤ 65535 by rw [flat2, List.length_append]; omega)
  have HE := Lib.hid (show prE p = elem 48 [elem 27 p.1, elem 27 p.2].flatten from rfl)
  obtain ⟨l1, el1⟩ : ∃ l, l = elem 27 p.1 := ⟨_, rfl⟩
  obtain ⟨l2, el2⟩ : ∃ l, l = elem 27 p.2 := ⟨_, rfl⟩
  rw [← el1] at T1 HL HE
  rw [← el2] at T2 HL HE
  rw [HE.out, flat2]
  clear hb0 e1 e2 hs hs2 el1 el2 HE
  go_enter Tryz.func39, Tryz.ntmps39
  go_wp2
  obtain ⟨W, eW⟩ : ∃ W, W = w.alloc (.cells #[.string ⟨p.1.toArray⟩, .string ⟨p.2.toArray⟩] 23) := ⟨_, rfl⟩
  rw [← eW] at HB HK ⊢
  clear eW
  replace HK := Lib.hid (show Blk W.drew _ _ _ from HK.out.drewN 1)
  replace HB := Lib.hid (show Below _ _ W.drew from below_drewN HB.out 1)
  go_region_held3 (fun w' => w'.cell? ⟨w.heap.size, 0, none⟩ = some (.string ⟨p.1.toArray⟩) ∧ w'.cell? ⟨w.heap.size, 1, none⟩ = some (.string ⟨p.2.toArray⟩)) (first | exact ⟨HK.out.cell 0, HK.out.cell 1⟩ | exact ⟨(HK.out.alloc _).cell 0, (HK.out.alloc _).cell 1⟩) ((first
    | (go_at_call 56; (with_reducible refine Calls.mono (T1.out _) ?_); rintro e w1 ⟨⟨g1, c1, rfl, hg1, hc1, hr1⟩, hb⟩; clear T1; have HR1 := Lib.hid hr1; replace HK := Lib.hid (HK.out.below hb); replace HB := Lib.hid (HB.out.trans (hb.mono HB.out.size)); clear hb hr1 hg1 hc1)
    | (go_at_call 56; (with_reducible refine Calls.mono (T2.out _) ?_); rintro e w2 ⟨⟨g2, c2, rfl, hg2, hc2, hr2⟩, hb⟩; clear T2; replace HR1 := Lib.hid (rd_on HR1.out hb); have HR2 := Lib.hid hr2; replace HK := Lib.hid (HK.out.below hb); replace HB := Lib.hid (HB.out.trans (hb.mono HB.out.size)); clear hb hr2 hg2 hc2)
    | (go_at_call 38; refine Calls.mono (wrap_any 48 [l1, l2] _ 2 2 (w2.heap.size + 1) _ (lay_two HR1.out HR2.out) rfl (by simp) HL.out (by simp)) ?_; rintro e wz ⟨⟨gz, cz, rfl, hgz, hcz, hrz⟩, hb⟩; have hal := (Below.refl w2.heap.size w2).alloc (Nat.le_refl _) (.cells #[.slice (some ⟨g1, 0, none⟩) l1.length c1, .slice (some ⟨g2, 0, none⟩) l2.length c2] 26); have HG := Lib.hid (gives_on (l := elem 48 [l1, l2].flatten) ⟨⟨gz, cz, rfl, hgz, hcz, hrz⟩, hb⟩ (HB.out.trans (hal.mono HB.out.size))); rw [flat2] at HG; replace HK := Lib.hid ((HK.out.alloc (.cells #[.slice (some ⟨g1, 0, none⟩) l1.length c1, .slice (some ⟨g2, 0, none⟩) l2.length c2] 26)).below hb); clear hal hgz hcz hrz hb)))
  go_wp2
  go_ret
  exact HG.out
set_option maxHeartbeats 1600000 in
theorem rtick_any (t : Tk) (A : Option Addr) (c B : Nat) (w : World) (hs : t.s.1.length ≤ 10000) (hs2 : t.s.2.length ≤ 10000) (hb2 : t.b.length ≤ 20000) (hr : Rd w B A (bvs t.b)) (hB : B ≤ w.heap.size) :
    Calls Tryz.prog 41 #[.agg #[.string ⟨t.s.1.toArray⟩, .string ⟨t.s.2.toArray⟩, .int .i64 t.k, .slice A t.b.length c]] w (Gives w (tkE t)) := by
  have hb0 := (Below.refl w.heap.size w).alloc (Nat.le_refl _) (.cells #[.string ⟨t.s.1.toArray⟩, .string ⟨t.s.2.toArray⟩, .int .i64 t.k, .slice A t.b.length c] 28)
  have HB := Lib.hid hb0
  have HK := Lib.hid (Blk.new w 28 #[.string ⟨t.s.1.toArray⟩, .string ⟨t.s.2.toArray⟩, .int .i64 t.k, .slice A t.b.length c])
  have T1 := Lib.hid (fun w1 => rprinc_any t.s w1 (by omega) (by omega))
  have T2 := Lib.hid (fun w1 => DerR.int_any t.k w1)
  have T3 := Lib.hid (fun w1 (h : Below w.heap.size w w1) => DerR.octets_any t.b A t.b.length c w1.heap.size w1 (((hr.more hB).below h).more h.size) rfl (Nat.le_refl _) (by omega))
  have e0 := elem_len 48 [elem 27 t.s.1, elem 27 t.s.2].flatten
  have e1 := elem_len 27 t.s.1
  have e2 := elem_len 27 t.s.2
  have e3 := encI_le t.k
  have e4 := elem_len 4 t.b
  rw [flat2, List.length_append] at e0
  have HL := Lib.hid (show [prE t.s, encI t.k, elem 4 t.b].flatten.length ≤ 65535 by rw [flat3, List.length_append, List.length_append, prE, flat2]; omega)
  have HE := Lib.hid (show tkE t = elem 97 [prE t.s, encI t.k, elem 4 t.b].flatten from rfl)
  obtain ⟨l1, el1⟩ : ∃ l, l = prE t.s := ⟨_, rfl⟩
  obtain ⟨l2, el2⟩ : ∃ l, l = encI t.k := ⟨_, rfl⟩
  obtain ⟨l3, el3⟩ : ∃ l, l = elem 4 t.b := ⟨_, rfl⟩
  rw [← el1] at T1 HL HE
  rw [← el2] at T2 HL HE
  rw [← el3] at T3 HL HE
  rw [HE.out, flat3]
  clear hb0 e0 e1 e2 e3 e4 hs hs2 hb2 hr el1 el2 el3 HE
  go_enter Tryz.func41, Tryz.ntmps41
  go_wp2
  obtain ⟨W, eW⟩ : ∃ W, W = w.alloc (.cells #[.string ⟨t.s.1.toArray⟩, .string ⟨t.s.2.toArray⟩, .int .i64 t.k, .slice A t.b.length c] 28) := ⟨_, rfl⟩
  rw [← eW] at HB HK ⊢
  clear eW
  replace HK := Lib.hid (show Blk W.drew _ _ _ from HK.out.drewN 1)
  replace HB := Lib.hid (show Below _ _ W.drew from below_drewN HB.out 1)
  go_region_held3 (fun w' => w'.cell? ⟨w.heap.size, 0, none⟩ = some (.string ⟨t.s.1.toArray⟩) ∧ w'.cell? ⟨w.heap.size, 1, none⟩ = some (.string ⟨t.s.2.toArray⟩) ∧ w'.cell? ⟨w.heap.size, 2, none⟩ = some (.int .i64 t.k) ∧ w'.cell? ⟨w.heap.size, 3, none⟩ = some (.slice A t.b.length c)) (first | exact ⟨HK.out.cell 0, HK.out.cell 1, HK.out.cell 2, HK.out.cell 3⟩ | exact ⟨(HK.out.alloc _).cell 0, (HK.out.alloc _).cell 1, (HK.out.alloc _).cell 2, (HK.out.alloc _).cell 3⟩) ((first
    | (go_at_call 39; (with_reducible refine Calls.mono (T1.out _) ?_); rintro e w1 ⟨⟨g1, c1, rfl, hg1, hc1, hr1⟩, hb⟩; clear T1; have HR1 := Lib.hid hr1; replace HK := Lib.hid (HK.out.below hb); replace HB := Lib.hid (HB.out.trans (hb.mono HB.out.size)); clear hb hr1 hg1 hc1)
    | (go_at_call 40; (with_reducible refine Calls.mono (T2.out _) ?_); rintro e w2 ⟨⟨g2, c2, rfl, hg2, hc2, hr2⟩, hb⟩; clear T2; replace HR1 := Lib.hid (rd_on HR1.out hb); have HR2 := Lib.hid hr2; replace HK := Lib.hid (HK.out.below hb); replace HB := Lib.hid (HB.out.trans (hb.mono HB.out.size)); clear hb hr2 hg2 hc2)
    | (go_at_call 42; (with_reducible refine Calls.mono (T3.out _ HB.out) ?_); rintro e w3 ⟨⟨g3, c3, rfl, hg3, hc3, hr3⟩, hb⟩; clear T3; replace HR1 := Lib.hid (rd_on HR1.out hb); replace HR2 := Lib.hid (rd_on HR2.out hb); have HR3 := Lib.hid hr3; replace HK := Lib.hid (HK.out.below hb); replace HB := Lib.hid (HB.out.trans (hb.mono HB.out.size)); clear hb hr3 hg3 hc3)
    | (go_at_call 38; refine Calls.mono (wrap_any 97 [l1, l2, l3] _ 3 3 (w3.heap.size + 1) _ (lay_three HR1.out HR2.out HR3.out) rfl (by simp) HL.out (by simp)) ?_; rintro e wz ⟨⟨gz, cz, rfl, hgz, hcz, hrz⟩, hb⟩; have hal := (Below.refl w3.heap.size w3).alloc (Nat.le_refl _) (.cells #[.slice (some ⟨g1, 0, none⟩) l1.length c1, .slice (some ⟨g2, 0, none⟩) l2.length c2, .slice (some ⟨g3, 0, none⟩) l3.length c3] 26); have HG := Lib.hid (gives_on (l := elem 97 [l1, l2, l3].flatten) ⟨⟨gz, cz, rfl, hgz, hcz, hrz⟩, hb⟩ (HB.out.trans (hal.mono HB.out.size))); rw [flat3] at HG; replace HK := Lib.hid ((HK.out.alloc (.cells #[.slice (some ⟨g1, 0, none⟩) l1.length c1, .slice (some ⟨g2, 0, none⟩) l2.length c2, .slice (some ⟨g3, 0, none⟩) l3.length c3] 26)).below hb); clear hal hgz hcz hrz hb)))
  go_wp2
  go_ret
  exact HG.out
end Go.Proofs.YteeabfplnaknfaaGreat.Ms
end

section
set_option linter.unusedVariables false
set_option linter.unusedSimpArgs false
namespace Go.Proofs.YteeabfplnaknfaaGreat.Ms
open Go.RowKit Go.Proofs.YteeabfplnaknfaaGreat.Mem Go.Proofs.YteeabfplnaknfaaGreat.DerP

set_option maxHeartbeats 3200000 in
theorem risauthn_any (a : An) (w : World) (hs : pSm a.c) : Calls Tryz.prog 30 #[.agg #[.string ⟨a.c.1.toArray⟩, .string ⟨a.c.2.toArray⟩, .int .i64 a.t, .int .i64 a.q]] w fun e w' => e = .returned (.bool (anB a)) ∧ Below w.heap.size w w' := by
  have hb0 := (Below.refl w.heap.size w).alloc (Nat.le_refl _) (.cells #[.string ⟨a.c.1.toArray⟩, .string ⟨a.c.2.toArray⟩, .int .i64 a.t, .int .i64 a.q] 57)
  have HB := Lib.hid hb0
  have HK := Lib.hid (Blk.new w 57 #[.string ⟨a.c.1.toArray⟩, .string ⟨a.c.2.toArray⟩, .int .i64 a.t, .int .i64 a.q])
  clear hb0
  have T1 := Lib.hid (fun w1 => isprinc_any a.c w1 hs.1 hs.2)
  have T2 := Lib.hid (fun w1 => rtm_any a.t w1)
  have T3 := Lib.hid (fun w1 => rtm_any a.q w1)
  cases h1 : prB a.c with
  | false =>
    rw [h1] at T1
    have E := Lib.hid (show anB a = false by rw [anB, h1]; rfl)
    clear h1
    go_enter Tryz.func30, Tryz.ntmps30
    go_wp2_with (go_at_call 69; (with_reducible refine Calls.mono (T1.out _) ?_); rintro e w1 ⟨rfl, hb⟩; replace HK := Lib.hid (HK.out.below hb); replace HB := Lib.hid (HB.out.trans (hb.mono HB.out.size)); clear hb T1; (try clear k0 k1 k2 k3); have k0 := HK.out.cell 0; have k1 := HK.out.cell 1; have k2 := HK.out.cell 2; have k3 := HK.out.cell 3; simp only [List.getElem?_toArray, List.getElem?_cons_zero, List.getElem?_cons_succ] at k0 k1 k2 k3)
    go_ret
    exact ⟨by rw [E.out]; rfl, HB.out⟩
  | true =>
    rw [h1] at T1
    cases h2 : tmB a.t with
    | false =>
      rw [h2] at T2
      have E := Lib.hid (show anB a = false by rw [anB, h1, h2]; rfl)
      clear h1 h2
      go_enter Tryz.func30, Tryz.ntmps30
      go_wp2_with (first
        | (go_at_call 69; (with_reducible refine Calls.mono (T1.out _) ?_); rintro e w1 ⟨rfl, hb⟩; replace HK := Lib.hid (HK.out.below hb); replace HB := Lib.hid (HB.out.trans (hb.mono HB.out.size)); clear hb T1; (try clear k0 k1 k2 k3); have k0 := HK.out.cell 0; have k1 := HK.out.cell 1; have k2 := HK.out.cell 2; have k3 := HK.out.cell 3; simp only [List.getElem?_toArray, List.getElem?_cons_zero, List.getElem?_cons_succ] at k0 k1 k2 k3)
        | (go_at_call 70; (with_reducible refine Calls.mono (T2.out _) ?_); rintro e w2 ⟨rfl, hw⟩; subst hw; clear T2))
      go_ret
      exact ⟨by rw [E.out]; rfl, HB.out⟩
    | true =>
      rw [h2] at T2
      have E := Lib.hid (show anB a = tmB a.q by rw [anB, h1, h2]; rfl)
      clear h1 h2
      go_enter Tryz.func30, Tryz.ntmps30
      go_wp2_with (first
        | (go_at_call 69; (with_reducible refine Calls.mono (T1.out _) ?_); rintro e w1 ⟨rfl, hb⟩; replace HK := Lib.hid (HK.out.below hb); replace HB := Lib.hid (HB.out.trans (hb.mono HB.out.size)); clear hb T1; (try clear k0 k1 k2 k3); have k0 := HK.out.cell 0; have k1 := HK.out.cell 1; have k2 := HK.out.cell 2; have k3 := HK.out.cell 3; simp only [List.getElem?_toArray, List.getElem?_cons_zero, List.getElem?_cons_succ] at k0 k1 k2 k3)
        | (go_at_call 70; (with_reducible refine Calls.mono (T2.out _) ?_); rintro e w2 ⟨rfl, hw⟩; subst hw; clear T2)
        | (go_at_call 70; (with_reducible refine Calls.mono (T3.out _) ?_); rintro e w3 ⟨rfl, hw⟩; subst hw; clear T3))
      go_ret
      exact ⟨by rw [E.out]; rfl, HB.out⟩
set_option maxHeartbeats 3200000 in
theorem risas_any (q : As) (w : World) (hs : pSm q.c) (hs2 : pSm q.s) : Calls Tryz.prog 82 #[.agg #[.string ⟨q.c.1.toArray⟩, .string ⟨q.c.2.toArray⟩, .string ⟨q.s.1.toArray⟩, .string ⟨q.s.2.toArray⟩, .int .i64 q.t, .int .i64 q.no]] w fun e w' => e = .returned (.bool (asB q)) ∧ Below w.heap.size w w' := by
  have hb0 := (Below.refl w.heap.size w).alloc (Nat.le_refl _) (.cells #[.string ⟨q.c.1.toArray⟩, .string ⟨q.c.2.toArray⟩, .string ⟨q.s.1.toArray⟩, .string ⟨q.s.2.toArray⟩, .int .i64 q.t, .int .i64 q.no] 25)
  have HB := Lib.hid hb0
  have HK := Lib.hid (Blk.new w 25 #[.string ⟨q.c.1.toArray⟩, .string ⟨q.c.2.toArray⟩, .string ⟨q.s.1.toArray⟩, .string ⟨q.s.2.toArray⟩, .int .i64 q.t, .int .i64 q.no])
  clear hb0
  have T1 := Lib.hid (fun w1 => isprinc_any q.c w1 hs.1 hs.2)
  have T2 := Lib.hid (fun w1 => isprinc_any q.s w1 hs2.1 hs2.2)
  have T3 := Lib.hid (fun w1 => rtm_any q.t w1)
  have T4 := Lib.hid (fun w1 => rtm_any q.no w1)
  cases h1 : prB q.c with
  | false =>
    rw [h1] at T1
    have E := Lib.hid (show asB q = false by rw [asB, h1]; rfl)
    clear h1
    go_enter Tryz.func82, Tryz.ntmps82
    go_wp2_with (go_at_call 69; (with_reducible refine Calls.mono (T1.out _) ?_); rintro e w1 ⟨rfl, hb⟩; replace HK := Lib.hid (HK.out.below hb); replace HB := Lib.hid (HB.out.trans (hb.mono HB.out.size)); clear hb T1; (try clear k0 k1 k2 k3 k4 k5); have k0 := HK.out.cell 0; have k1 := HK.out.cell 1; have k2 := HK.out.cell 2; have k3 := HK.out.cell 3; have k4 := HK.out.cell 4; have k5 := HK.out.cell 5; simp only [List.getElem?_toArray, List.getElem?_cons_zero, List.getElem?_cons_succ] at k0 k1 k2 k3 k4 k5)
    go_ret
    exact ⟨by rw [E.out]; rfl, HB.out⟩
  | true =>
    rw [h1] at T1
    cases h2 : prB q.s with
    | false =>
      rw [h2] at T2
      have E := Lib.hid (show asB q = false by rw [asB, h1, h2]; rfl)
      clear h1 h2
      go_enter Tryz.func82, Tryz.ntmps82
      go_wp2_with (first
        | (go_at_call 69; (with_reducible refine Calls.mono (T1.out _) ?_); rintro e w1 ⟨rfl, hb⟩; replace HK := Lib.hid (HK.out.below hb); replace HB := Lib.hid (HB.out.trans (hb.mono HB.out.size)); clear hb T1; (try clear k0 k1 k2 k3 k4 k5); have k0 := HK.out.cell 0; have k1 := HK.out.cell 1; have k2 := HK.out.cell 2; have k3 := HK.out.cell 3; have k4 := HK.out.cell 4; have k5 := HK.out.cell 5; simp only [List.getElem?_toArray, List.getElem?_cons_zero, List.getElem?_cons_succ] at k0 k1 k2 k3 k4 k5)
        | (go_at_call 69; (with_reducible refine Calls.mono (T2.out _) ?_); rintro e w2 ⟨rfl, hb⟩; replace HK := Lib.hid (HK.out.below hb); replace HB := Lib.hid (HB.out.trans (hb.mono HB.out.size)); clear hb T2; (try clear k0 k1 k2 k3 k4 k5); have k0 := HK.out.cell 0; have k1 := HK.out.cell 1; have k2 := HK.out.cell 2; have k3 := HK.out.cell 3; have k4 := HK.out.cell 4; have k5 := HK.out.cell 5; simp only [List.getElem?_toArray, List.getElem?_cons_zero, List.getElem?_cons_succ] at k0 k1 k2 k3 k4 k5))
      go_ret
      exact ⟨by rw [E.out]; rfl, HB.out⟩
    | true =>
      rw [h2] at T2
      cases h3 : tmB q.t with
      | false =>
        rw [h3] at T3
        have E := Lib.hid (show asB q = false by rw [asB, h1, h2, h3]; rfl)
        clear h1 h2 h3
        go_enter Tryz.func82, Tryz.ntmps82
        go_wp2_with (first
          | (go_at_call 69; (with_reducible refine Calls.mono (T1.out _) ?_); rintro e w1 ⟨rfl, hb⟩; replace HK := Lib.hid (HK.out.below hb); replace HB := Lib.hid (HB.out.trans (hb.mono HB.out.size)); clear hb T1; (try clear k0 k1 k2 k3 k4 k5); have k0 := HK.out.cell 0; have k1 := HK.out.cell 1; have k2 := HK.out.cell 2; have k3 := HK.out.cell 3; have k4 := HK.out.cell 4; have k5 := HK.out.cell 5; simp only [List.getElem?_toArray, List.getElem?_cons_zero, List.getElem?_cons_succ] at k0 k1 k2 k3 k4 k5)
          | (go_at_call 69; (with_reducible refine Calls.mono (T2.out _) ?_); rintro e w2 ⟨rfl, hb⟩; replace HK := Lib.hid (HK.out.below hb); replace HB := Lib.hid (HB.out.trans (hb.mono HB.out.size)); clear hb T2; (try clear k0 k1 k2 k3 k4 k5); have k0 := HK.out.cell 0; have k1 := HK.out.cell 1; have k2 := HK.out.cell 2; have k3 := HK.out.cell 3; have k4 := HK.out.cell 4; have k5 := HK.out.cell 5; simp only [List.getElem?_toArray, List.getElem?_cons_zero, List.getElem?_cons_succ] at k0 k1 k2 k3 k4 k5)
          | (go_at_call 70; (with_reducible refine Calls.mono (T3.out _) ?_); rintro e w3 ⟨rfl, hw⟩; subst hw; clear T3))
        go_ret
        exact ⟨by rw [E.out]; rfl, HB.out⟩
      | true =>
        rw [h3] at T3
        have E := Lib.hid (show asB q = tmB q.no by rw [asB, h1, h2, h3]; rfl)
        clear h1 h2 h3
        go_enter Tryz.func82, Tryz.ntmps82
        go_wp2_with (first
          | (go_at_call 69; (with_reducible refine Calls.mono (T1.out _) ?_); rintro e w1 ⟨rfl, hb⟩; replace HK := Lib.hid (HK.out.below hb); replace HB := Lib.hid (HB.out.trans (hb.mono HB.out.size)); clear hb T1; (try clear k0 k1 k2 k3 k4 k5); have k0 := HK.out.cell 0; have k1 := HK.out.cell 1; have k2 := HK.out.cell 2; have k3 := HK.out.cell 3; have k4 := HK.out.cell 4; have k5 := HK.out.cell 5; simp only [List.getElem?_toArray, List.getElem?_cons_zero, List.getElem?_cons_succ] at k0 k1 k2 k3 k4 k5)
          | (go_at_call 69; (with_reducible refine Calls.mono (T2.out _) ?_); rintro e w2 ⟨rfl, hb⟩; replace HK := Lib.hid (HK.out.below hb); replace HB := Lib.hid (HB.out.trans (hb.mono HB.out.size)); clear hb T2; (try clear k0 k1 k2 k3 k4 k5); have k0 := HK.out.cell 0; have k1 := HK.out.cell 1; have k2 := HK.out.cell 2; have k3 := HK.out.cell 3; have k4 := HK.out.cell 4; have k5 := HK.out.cell 5; simp only [List.getElem?_toArray, List.getElem?_cons_zero, List.getElem?_cons_succ] at k0 k1 k2 k3 k4 k5)
          | (go_at_call 70; (with_reducible refine Calls.mono (T3.out _) ?_); rintro e w3 ⟨rfl, hw⟩; subst hw; clear T3)
          | (go_at_call 70; (with_reducible refine Calls.mono (T4.out _) ?_); rintro e w4 ⟨rfl, hw⟩; subst hw; clear T4))
        go_ret
        exact ⟨by rw [E.out]; rfl, HB.out⟩
set_option maxHeartbeats 3200000 in
theorem ristgs_any (q : Tg) (A1 A2 : Option Addr) (c1 c2 : Nat) (w : World) (hs : pSm q.t.s) (hs2 : pSm q.s) : Calls Tryz.prog 83 #[.agg #[.string ⟨q.t.s.1.toArray⟩, .string ⟨q.t.s.2.toArray⟩, .int .i64 q.t.k, .slice A1 q.t.b.length c1, .slice A2 q.a.length c2, .string ⟨q.s.1.toArray⟩, .string ⟨q.s.2.toArray⟩, .int .i64 q.u, .int .i64 q.no]] w fun e w' => e = .returned (.bool (tgB q)) ∧ Below w.heap.size w w' := by
  have hb0 := (Below.refl w.heap.size w).alloc (Nat.le_refl _) (.cells #[.string ⟨q.t.s.1.toArray⟩, .string ⟨q.t.s.2.toArray⟩, .int .i64 q.t.k, .slice A1 q.t.b.length c1, .slice A2 q.a.length c2, .string ⟨q.s.1.toArray⟩, .string ⟨q.s.2.toArray⟩, .int .i64 q.u, .int .i64 q.no] 30)
  have HB := Lib.hid hb0
  have HK := Lib.hid (Blk.new w 30 #[.string ⟨q.t.s.1.toArray⟩, .string ⟨q.t.s.2.toArray⟩, .int .i64 q.t.k, .slice A1 q.t.b.length c1, .slice A2 q.a.length c2, .string ⟨q.s.1.toArray⟩, .string ⟨q.s.2.toArray⟩, .int .i64 q.u, .int .i64 q.no])
  clear hb0
  have T1 := Lib.hid (fun w1 => rticket_any q.t A1 c1 w1 hs)
  have T2 := Lib.hid (fun w1 => rblob_any q.a A2 c2 w1)
  have T3 := Lib.hid (fun w1 => isprinc_any q.s w1 hs2.1 hs2.2)
  have T4 := Lib.hid (fun w1 => rtm_any q.u w1)
  have T5 := Lib.hid (fun w1 => rtm_any q.no w1)
  cases h1 : tkB q.t with
  | false =>
    rw [h1] at T1
    have E := Lib.hid (show tgB q = false by rw [tgB, h1]; rfl)
    clear h1
    go_enter Tryz.func83, Tryz.ntmps83
    go_wp2_with (go_at_call 84; (with_reducible refine Calls.mono (T1.out _) ?_); rintro e w1 ⟨rfl, hb⟩; replace HK := Lib.hid (HK.out.below hb); replace HB := Lib.hid (HB.out.trans (hb.mono HB.out.size)); clear hb T1; (try clear k0 k1 k2 k3 k4 k5 k6 k7 k8); have k0 := HK.out.cell 0; have k1 := HK.out.cell 1; have k2 := HK.out.cell 2; have k3 := HK.out.cell 3; have k4 := HK.out.cell 4; have k5 := HK.out.cell 5; have k6 := HK.out.cell 6; have k7 := HK.out.cell 7; have k8 := HK.out.cell 8; simp only [List.getElem?_toArray, List.getElem?_cons_zero, List.getElem?_cons_succ] at k0 k1 k2 k3 k4 k5 k6 k7 k8)
    go_ret
    exact ⟨by rw [E.out]; rfl, HB.out⟩
  | true =>
    rw [h1] at T1
    cases h2 : blobB q.a with
    | false =>
      rw [h2] at T2
      have E := Lib.hid (show tgB q = false by rw [tgB, h1, h2]; rfl)
      clear h1 h2
      go_enter Tryz.func83, Tryz.ntmps83
      go_wp2_with (first
        | (go_at_call 84; (with_reducible refine Calls.mono (T1.out _) ?_); rintro e w1 ⟨rfl, hb⟩; replace HK := Lib.hid (HK.out.below hb); replace HB := Lib.hid (HB.out.trans (hb.mono HB.out.size)); clear hb T1; (try clear k0 k1 k2 k3 k4 k5 k6 k7 k8); have k0 := HK.out.cell 0; have k1 := HK.out.cell 1; have k2 := HK.out.cell 2; have k3 := HK.out.cell 3; have k4 := HK.out.cell 4; have k5 := HK.out.cell 5; have k6 := HK.out.cell 6; have k7 := HK.out.cell 7; have k8 := HK.out.cell 8; simp only [List.getElem?_toArray, List.getElem?_cons_zero, List.getElem?_cons_succ] at k0 k1 k2 k3 k4 k5 k6 k7 k8)
        | (go_at_call 85; (with_reducible refine Calls.mono (T2.out _) ?_); rintro e w2 ⟨rfl, hw⟩; subst hw; clear T2))
      go_ret
      exact ⟨by rw [E.out]; rfl, HB.out⟩
    | true =>
      rw [h2] at T2
      cases h3 : prB q.s with
      | false =>
        rw [h3] at T3
        have E := Lib.hid (show tgB q = false by rw [tgB, h1, h2, h3]; rfl)
        clear h1 h2 h3
        go_enter Tryz.func83, Tryz.ntmps83
        go_wp2_with (first
          | (go_at_call 84; (with_reducible refine Calls.mono (T1.out _) ?_); rintro e w1 ⟨rfl, hb⟩; replace HK := Lib.hid (HK.out.below hb); replace HB := Lib.hid (HB.out.trans (hb.mono HB.out.size)); clear hb T1; (try clear k0 k1 k2 k3 k4 k5 k6 k7 k8); have k0 := HK.out.cell 0; have k1 := HK.out.cell 1; have k2 := HK.out.cell 2; have k3 := HK.out.cell 3; have k4 := HK.out.cell 4; have k5 := HK.out.cell 5; have k6 := HK.out.cell 6; have k7 := HK.out.cell 7; have k8 := HK.out.cell 8; simp only [List.getElem?_toArray, List.getElem?_cons_zero, List.getElem?_cons_succ] at k0 k1 k2 k3 k4 k5 k6 k7 k8)
          | (go_at_call 85; (with_reducible refine Calls.mono (T2.out _) ?_); rintro e w2 ⟨rfl, hw⟩; subst hw; clear T2)
          | (go_at_call 69; (with_reducible refine Calls.mono (T3.out _) ?_); rintro e w3 ⟨rfl, hb⟩; replace HK := Lib.hid (HK.out.below hb); replace HB := Lib.hid (HB.out.trans (hb.mono HB.out.size)); clear hb T3; (try clear k0 k1 k2 k3 k4 k5 k6 k7 k8); have k0 := HK.out.cell 0; have k1 := HK.out.cell 1; have k2 := HK.out.cell 2; have k3 := HK.out.cell 3; have k4 := HK.out.cell 4; have k5 := HK.out.cell 5; have k6 := HK.out.cell 6; have k7 := HK.out.cell 7; have k8 := HK.out.cell 8; simp only [List.getElem?_toArray, List.getElem?_cons_zero, List.getElem?_cons_succ] at k0 k1 k2 k3 k4 k5 k6 k7 k8))
        go_ret
        exact ⟨by rw [E.out]; rfl, HB.out⟩
      | true =>
        rw [h3] at T3
        cases h4 : tmB q.u with
        | false =>
          rw [h4] at T4
          have E := Lib.hid (show tgB q = false by rw [tgB, h1, h2, h3, h4]; rfl)
          clear h1 h2 h3 h4
          go_enter Tryz.func83, Tryz.ntmps83
          go_wp2_with (first
            | (go_at_call 84; (with_reducible refine Calls.mono (T1.out _) ?_); rintro e w1 ⟨rfl, hb⟩; replace HK := Lib.hid (HK.out.below hb); replace HB := Lib.hid (HB.out.trans (hb.mono HB.out.size)); clear hb T1; (try clear k0 k1 k2 k3 k4 k5 k6 k7 k8); have k0 := HK.out.cell 0; have k1 := HK.out.cell 1; have k2 := HK.out.cell 2; have k3 := HK.out.cell 3; have k4 := HK.out.cell 4; have k5 := HK.out.cell 5; have k6 := HK.out.cell 6; have k7 := HK.out.cell 7; have k8 := HK.out.cell 8; simp only [List.getElem?_toArray, List.getElem?_cons_zero, List.getElem?_cons_succ] at k0 k1 k2 k3 k4 k5 k6 k7 k8)
            | (go_at_call 85; (with_reducible refine Calls.mono (T2.out _) ?_); rintro e w2 ⟨rfl, hw⟩; subst hw; clear T2)
            | (go_at_call 69; (with_reducible refine Calls.mono (T3.out _) ?_); rintro e w3 ⟨rfl, hb⟩; replace HK := Lib.hid (HK.out.below hb); replace HB := Lib.hid (HB.out.trans (hb.mono HB.out.size)); clear hb T3; (try clear k0 k1 k2 k3 k4 k5 k6 k7 k8); have k0 := HK.out.cell 0; have k1 := HK.out.cell 1; have k2 := HK.out.cell 2; have k3 := HK.out.cell 3; have k4 := HK.out.cell 4; have k5 := HK.out.cell 5; have k6 := HK.out.cell 6; have k7 := HK.out.cell 7; have k8 := HK.out.cell 8; simp only [List.getElem?_toArray, List.getElem?_cons_zero, List.getElem?_cons_succ] at k0 k1 k2 k3 k4 k5 k6 k7 k8)
            | (go_at_call 70; (with_reducible refine Calls.mono (T4.out _) ?_); rintro e w4 ⟨rfl, hw⟩; subst hw; clear T4))
          go_ret
          exact ⟨by rw [E.out]; rfl, HB.out⟩
        | true =>
          rw [h4] at T4
          have E := Lib.hid (show tgB q = tmB q.no by rw [tgB, h1, h2, h3, h4]; rfl)
          clear h1 h2 h3 h4
          go_enter Tryz.func83, Tryz.ntmps83
          go_wp2_with (first
            | (go_at_call 84; (with_reducible refine Calls.mono (T1.out _) ?_); rintro e w1 ⟨rfl, hb⟩; replace HK := Lib.hid (HK.out.below hb); replace HB := Lib.hid (HB.out.trans (hb.mono HB.out.size)); clear hb T1; (try clear k0 k1 k2 k3 k4 k5 k6 k7 k8); have k0 := HK.out.cell 0; have k1 := HK.out.cell 1; have k2 := HK.out.cell 2; have k3 := HK.out.cell 3; have k4 := HK.out.cell 4; have k5 := HK.out.cell 5; have k6 := HK.out.cell 6; have k7 := HK.out.cell 7; have k8 := HK.out.cell 8; simp only [List.getElem?_toArray, List.getElem?_cons_zero, List.getElem?_cons_succ] at k0 k1 k2 k3 k4 k5 k6 k7 k8)
            | (go_at_call 85; (with_reducible refine Calls.mono (T2.out _) ?_); rintro e w2 ⟨rfl, hw⟩; subst hw; clear T2)
            | (go_at_call 69; (with_reducible refine Calls.mono (T3.out _) ?_); rintro e w3 ⟨rfl, hb⟩; replace HK := Lib.hid (HK.out.below hb); replace HB := Lib.hid (HB.out.trans (hb.mono HB.out.size)); clear hb T3; (try clear k0 k1 k2 k3 k4 k5 k6 k7 k8); have k0 := HK.out.cell 0; have k1 := HK.out.cell 1; have k2 := HK.out.cell 2; have k3 := HK.out.cell 3; have k4 := HK.out.cell 4; have k5 := HK.out.cell 5; have k6 := HK.out.cell 6; have k7 := HK.out.cell 7; have k8 := HK.out.cell 8; simp only [List.getElem?_toArray, List.getElem?_cons_zero, List.getElem?_cons_succ] at k0 k1 k2 k3 k4 k5 k6 k7 k8)
            | (go_at_call 70; (with_reducible refine Calls.mono (T4.out _) ?_); rintro e w4 ⟨rfl, hw⟩; subst hw; clear T4)
            | (go_at_call 70; (with_reducible refine Calls.mono (T5.out _) ?_); rintro e w5 ⟨rfl, hw⟩; subst hw; clear T5))
          go_ret
          exact ⟨by rw [E.out]; rfl, HB.out⟩
end Go.Proofs.YteeabfplnaknfaaGreat.Ms
end

section
set_option linter.unusedVariables false
set_option linter.unusedSimpArgs false
namespace Go.Proofs.YteeabfplnaknfaaGreat.Ms
open Go.RowKit Go.Proofs.YteeabfplnaknfaaGreat.Mem Go.Proofs.YteeabfplnaknfaaGreat.DerP

set_option maxHeartbeats 1600000 in
theorem rnone_any (t : Tk) (A : Option Addr) (c : Nat) (w : World) : Calls Tryz.prog 81 #[.agg #[.string ⟨t.s.1.toArray⟩, .string ⟨t.s.2.toArray⟩, .int .i64 t.k, .slice A t.b.length c]] w fun e w' => e = .returned (.bool (decide (t = tk0))) ∧ Below w.heap.size w w' := by
  obtain ⟨⟨r, n⟩, k, b⟩ := t
  have HB := Lib.hid ((Below.refl w.heap.size w).alloc (Nat.le_refl _) (.cells #[.string ⟨r.toArray⟩, .string ⟨n.toArray⟩, .int .i64 k, .slice A b.length c] 28))
  simp only
  by_cases hr : r = []
  · subst hr
    by_cases hn : n = []
    · subst hn
      by_cases hk : k = 0
      · subst hk
        by_cases hb : b = []
        · subst hb
          have E := Lib.hid (show decide ((⟨([], []), 0, []⟩ : Tk) = tk0) = true from rfl)
          go_enter Tryz.func81, Tryz.ntmps81
          go_wp2
          go_ret
          exact ⟨by rw [E.out]; rfl, HB.out⟩
        · have t1 : ((b.length : Int) == 0) = false := by simpa using hb
          have E := Lib.hid (show decide ((⟨([], []), 0, b⟩ : Tk) = tk0) = false from decide_eq_false (fun h => hb (congrArg Tk.b h)))
          go_enter Tryz.func81, Tryz.ntmps81
          go_wp2
          go_ret
          exact ⟨by rw [E.out]; rfl, HB.out⟩
      · have t1 : (k == 0) = false := by simpa using hk
        have E := Lib.hid (show decide ((⟨([], []), k, b⟩ : Tk) = tk0) = false from decide_eq_false (fun h => hk (congrArg Tk.k h)))
        go_enter Tryz.func81, Tryz.ntmps81
        go_wp2
        go_ret
        exact ⟨by rw [E.out]; rfl, HB.out⟩
    · have t1 : (n == []) = false := by simpa using hn
      have E := Lib.hid (show decide ((⟨([], n), k, b⟩ : Tk) = tk0) = false from decide_eq_false (fun h => hn (congrArg (fun t => t.s.2) h)))
      go_enter Tryz.func81, Tryz.ntmps81
      go_wp2
      go_ret
      exact ⟨by rw [E.out]; rfl, HB.out⟩
  · have t1 : (r == []) = false := by simpa using hr
    have E := Lib.hid (show decide ((⟨(r, n), k, b⟩ : Tk) = tk0) = false from decide_eq_false (fun h => hr (congrArg (fun t => t.s.1) h)))
    go_enter Tryz.func81, Tryz.ntmps81
    go_wp2
    go_ret
    exact ⟨by rw [E.out]; rfl, HB.out⟩
end Go.Proofs.YteeabfplnaknfaaGreat.Ms
end

section
set_option linter.unusedVariables false
set_option linter.unusedSimpArgs false
namespace Go.Proofs.YteeabfplnaknfaaGreat.Ms
open Go.RowKit Go.Proofs.YteeabfplnaknfaaGreat.Mem Go.Proofs.YteeabfplnaknfaaGreat.DerP

def mSm (m : Mg) : Prop := (pSm m.aq.c ∧ pSm m.aq.s) ∧ (pSm m.tg.t.s ∧ pSm m.tg.s) ∧ (pSm m.re.c ∧ pSm m.re.t.s) ∧ pSm m.ap.t.s
section
variable {α : Type}
theorem as_ifs (x : As) (f : Bool → α) : (if x.c.1 = [] then if x.c.2 = [] then if x.s.1 = [] then if x.s.2 = [] then if x.t = 0 then if x.no = 0 then f true else f false else f false else f false else f false else f false else f false) = f (decide (x = as0)) := by
  obtain ⟨⟨a, b⟩, ⟨c, d⟩, t, n⟩ := x
  by_cases h1 : a = []
  · by_cases h2 : b = []
    · by_cases h3 : c = []
      · by_cases h4 : d = []
        · by_cases h5 : t = 0
          · by_cases h6 : n = 0
            · simp [h1, h2, h3, h4, h5, h6, as0, pr0]
            · simp [h1, h2, h3, h4, h5, h6, as0, pr0]
          · simp [h1, h2, h3, h4, h5, as0, pr0]
        · simp [h1, h2, h3, h4, as0, pr0]
      · simp [h1, h2, h3, as0, pr0]
    · simp [h1, h2, as0, pr0]
  · simp [h1, as0, pr0]
theorem pr_ifs (x : Pr) (f : Bool → α) : (if x.1 = [] then if x.2 = [] then f true else f false else f false) = f (decide (x = pr0)) := by
  obtain ⟨a, b⟩ := x
  by_cases h1 : a = []
  · by_cases h2 : b = []
    · simp [h1, h2, pr0]
    · simp [h1, h2, pr0]
  · simp [h1, pr0]
theorem fa_ifs (x : Fa) (f : Bool → α) : (if x.e = 0 then if x.no = 0 then f true else f false else f false) = f (decide (x = fa0)) := by
  obtain ⟨a, b⟩ := x
  by_cases h1 : a = 0
  · by_cases h2 : b = 0
    · simp [h1, h2, fa0]
    · simp [h1, h2, fa0]
  · simp [h1, fa0]
end
theorem tg_form (x : Tg) : decide (x = tg0) = (decide (x.t = tk0) && (decide (x.a = []) && (decide (x.s = pr0) && (decide (x.u = 0) && decide (x.no = 0))))) := by
  obtain ⟨t, a, s, u, n⟩ := x
  simp [tg0, Bool.decide_and]
theorem re_form (x : Re) : decide (x = re0) = (decide (x.c = pr0) && (decide (x.t = tk0) && decide (x.b = []))) := by
  obtain ⟨c, t, b⟩ := x
  simp [re0, Bool.decide_and]
theorem ap_form (x : Ap) : decide (x = ap0) = (decide (x.t = tk0) && decide (x.a = [])) := by
  obtain ⟨t, a⟩ := x
  simp [ap0, Bool.decide_and]
theorem mg_form (m : Mg) : mgB m = if m.k = 1 then asB m.aq && (decide (m.tg = tg0) && (decide (m.re = re0) && (decide (m.ap = ap0) && decide (m.fa = fa0))))
    else if m.k = 2 then tgB m.tg && (decide (m.aq = as0) && (decide (m.re = re0) && (decide (m.ap = ap0) && decide (m.fa = fa0))))
    else if m.k = 3 then (prB m.re.c && (tkB m.re.t && blobB m.re.b)) && (decide (m.aq = as0) && (decide (m.tg = tg0) && (decide (m.ap = ap0) && decide (m.fa = fa0))))
    else if m.k = 4 then (tkB m.ap.t && blobB m.ap.a) && (decide (m.aq = as0) && (decide (m.tg = tg0) && (decide (m.re = re0) && decide (m.fa = fa0))))
    else if m.k = 5 then (inB m.fa.e 1 255 && tmB m.fa.no) && (decide (m.aq = as0) && (decide (m.tg = tg0) && (decide (m.re = re0) && decide (m.ap = ap0)))) else false := by
  obtain ⟨k, a, t, r, p, f⟩ := m
  unfold mgB
  simp only [Mg.mk.injEq, true_and, and_true]
  by_cases h1 : k = 1
  · simp [h1, Bool.decide_and]
  · rw [if_neg h1, if_neg h1]
    by_cases h2 : k = 2
    · simp [h2, Bool.decide_and]
    · rw [if_neg h2, if_neg h2]
      by_cases h3 : k = 3
      · simp [h3, reB, Bool.decide_and]
      · rw [if_neg h3, if_neg h3]
        by_cases h4 : k = 4
        · simp [h4, apB, Bool.decide_and]
        · rw [if_neg h4, if_neg h4]
          by_cases h5 : k = 5
          · simp [h5, faB, Bool.decide_and]
          · rw [if_neg h5, if_neg h5]
end Go.Proofs.YteeabfplnaknfaaGreat.Ms
end
