import Derived.Deep.RegionHeld3
import Derived.Deep.MidRow
import Derived.Lib.MinMax
import Derived.Deep.LoopGhost
import Derived.Test.YteeabfplnaknfaaZMsgOthers1
import Derived.Test.YteeabfplnaknfaaZMsgOthers2
import Derived.Test.YteeabfplnaknfaaZMsgOthers3
import Derived.Test.YteeabfplnaknfaaZMsgOthers4
import Derived.Test.YteeabfplnaknfaaZMsgOthers5
import Derived.Test.YteeabfplnaknfaaZMsgOthers7
section
set_option linter.unusedVariables false
set_option linter.unusedSimpArgs false
namespace Go.Proofs.Yteeabfplnaknfaa.Mc
open Go.RowKit Go.Proofs.Yteeabfplnaknfaa.Mem Go.Proofs.Yteeabfplnaknfaa.DerP Go.Proofs.Yteeabfplnaknfaa.DerR Go.Proofs.Yteeabfplnaknfaa.Ms

theorem elem_pos (t : UInt8) (p : L) : 0 < (elem t p).length := by rw [length_elem]; omega
theorem ltext_any (l : L) (w : World) (hl : l.length ≤ 65535) : Calls Try.prog 48 #[.string ⟨l.toArray⟩] w (Gives w (elem 27 l)) :=
  (DerW.text_any l w hl).mono fun e w' h => by obtain ⟨v, rfl, h1, h2⟩ := h; exact gives_own h1 (elem_pos _ _) h2
theorem lint_any (n : Int) (w : World) : Calls Try.prog 49 #[.int .i64 n] w (Gives w (encI n)) :=
  (DerW.int_any n w).mono fun e w' h => by obtain ⟨v, rfl, h1, h2⟩ := h; exact gives_own h1 (elem_pos _ _) h2
theorem loctets_any (l : L) (A : Option Addr) (n c B : Nat) (w : World) (hr : Rd w B A (bvs l)) (hn : n = l.length) (hB : B ≤ w.heap.size) (hl : l.length ≤ 65535) : Calls Try.prog 47 #[.slice A n c] w (Gives w (elem 4 l)) :=
  (DerW.octets_any l A n c B w hr hn hB hl).mono fun e w' h => by obtain ⟨v, rfl, h1, h2⟩ := h; exact gives_own h1 (elem_pos _ _) h2
theorem lwrap_any (t : UInt8) (ls : List L) (A : Option Addr) (m c B : Nat) (w : World) (hr : DerW.Rds w B A ls) (hm : m = ls.length) (hB : B ≤ w.heap.size) (hl : ls.flatten.length ≤ 65535) (hc : ls.length ≤ 1000000) :
    Calls Try.prog 45 #[.int .u8 t.toNat, .slice A m c] w (Gives w (elem t ls.flatten)) :=
  (DerW.wrap_any t ls A m c B w hr hm hB hl hc).mono fun e w' h => by obtain ⟨v, rfl, h1, h2⟩ := h; exact gives_own h1 (elem_pos _ _) h2
set_option maxHeartbeats 3200000 in
theorem layprinc_any (p : Pr) (w : World) (hp : prB p = true) : Calls Try.prog 46 #[.agg #[.string ⟨p.1.toArray⟩, .string ⟨p.2.toArray⟩]] w (Gives w (prE p)) := by
  have HB := Lib.hid ((Below.refl w.heap.size w).alloc (Nat.le_refl _) (.cells #[.string ⟨p.1.toArray⟩, .string ⟨p.2.toArray⟩] 23))
  have HK := Lib.hid (Blk.new w 23 #[.string ⟨p.1.toArray⟩, .string ⟨p.2.toArray⟩])
  have b1 := pr_len hp
  have b2 := elem_len 27 p.1
  have b3 := elem_len 27 p.2
  have T1 := Lib.hid (fun w1 => ltext_any p.1 w1 (by omega))
  have T2 := Lib.hid (fun w1 => ltext_any p.2 w1 (by omega))
  have HL := Lib.hid (show [elem 27 p.1, elem 27 p.2].flatten.length ≤ 65535 by rw [flat2]; simp only [List.length_append]; omega)
  have HE := Lib.hid (show prE p = elem 48 [elem 27 p.1, elem 27 p.2].flatten from rfl)
  obtain ⟨l1, el1⟩ : ∃ l, l = elem 27 p.1 := ⟨_, rfl⟩
  obtain ⟨l2, el2⟩ : ∃ l, l = elem 27 p.2 := ⟨_, rfl⟩
  rw [← el1] at T1 HL HE
  rw [← el2] at T2 HL HE
  rw [HE.out, flat2]
  clear HE el1 el2 b1 b2 b3 hp
  go_enter Try.func46, Try.ntmps46
  go_wp2
  obtain ⟨W, eW⟩ : ∃ W, W = w.alloc (.cells #[.string ⟨p.1.toArray⟩, .string ⟨p.2.toArray⟩] 23) := ⟨_, rfl⟩
  rw [← eW] at HB HK ⊢
  clear eW
  replace HK := Lib.hid (show Blk W.drew _ _ _ from HK.out.drewN 1)
  replace HB := Lib.hid (show Below _ _ W.drew from below_drewN HB.out 1)
  go_region_held3 (fun w' => w'.cell? ⟨w.heap.size, 0, none⟩ = some (.string ⟨p.1.toArray⟩) ∧ w'.cell? ⟨w.heap.size, 1, none⟩ = some (.string ⟨p.2.toArray⟩)) (first | exact ⟨HK.out.cell 0, HK.out.cell 1⟩ | exact ⟨(HK.out.alloc _).cell 0, (HK.out.alloc _).cell 1⟩) ((first
    | (go_at_call 48; (with_reducible refine Calls.mono (T1.out _) ?_); rintro e w1 ⟨⟨g1, c1, rfl, hg1, hc1, hr1⟩, hb⟩; clear T1; have HR1 := Lib.hid hr1; replace HK := Lib.hid (HK.out.below hb); replace HB := Lib.hid (HB.out.trans (hb.mono HB.out.size)); clear hb hr1 hg1 hc1)
    | (go_at_call 48; (with_reducible refine Calls.mono (T2.out _) ?_); rintro e w2 ⟨⟨g2, c2, rfl, hg2, hc2, hr2⟩, hb⟩; clear T2; replace HR1 := Lib.hid (rd_on HR1.out hb); have HR2 := Lib.hid hr2; replace HK := Lib.hid (HK.out.below hb); replace HB := Lib.hid (HB.out.trans (hb.mono HB.out.size)); clear hb hr2 hg2 hc2)
    | (go_at_call 45; refine Calls.mono (lwrap_any 48 [l1, l2] _ 2 2 (w2.heap.size + 1) _ (lay_two HR1.out HR2.out) rfl (by simp) HL.out (by simp)) ?_; rintro e wz ⟨⟨gz, cz, rfl, hgz, hcz, hrz⟩, hb⟩; have hal := (Below.refl w2.heap.size w2).alloc (Nat.le_refl _) (.cells #[.slice (some ⟨g1, 0, none⟩) l1.length c1, .slice (some ⟨g2, 0, none⟩) l2.length c2] 26); have HG := Lib.hid (gives_on (l := elem 48 [l1, l2].flatten) ⟨⟨gz, cz, rfl, hgz, hcz, hrz⟩, hb⟩ (HB.out.trans (hal.mono HB.out.size))); rw [flat2] at HG; replace HK := Lib.hid ((HK.out.alloc (.cells #[.slice (some ⟨g1, 0, none⟩) l1.length c1, .slice (some ⟨g2, 0, none⟩) l2.length c2] 26)).below hb); clear hal hgz hcz hrz hb)))
  go_wp2
  go_ret
  exact HG.out
set_option maxHeartbeats 3200000 in
theorem layticket_any (t : Tk) (A : Option Addr) (c : Nat) (w : World) (ht : tkB t = true) (hr : Rd w w.heap.size A (bvs t.b)) : Calls Try.prog 65 #[.agg #[.string ⟨t.s.1.toArray⟩, .string ⟨t.s.2.toArray⟩, .int .i64 t.k, .slice A t.b.length c]] w (Gives w (tkE t)) := by
  have HB := Lib.hid ((Below.refl w.heap.size w).alloc (Nat.le_refl _) (.cells #[.string ⟨t.s.1.toArray⟩, .string ⟨t.s.2.toArray⟩, .int .i64 t.k, .slice A t.b.length c] 28))
  have HK := Lib.hid (Blk.new w 28 #[.string ⟨t.s.1.toArray⟩, .string ⟨t.s.2.toArray⟩, .int .i64 t.k, .slice A t.b.length c])
  have hp := tk_parts ht
  have b1 := (prE_len hp.1).1
  have b2 := encI_le t.k
  have b3 := elem_len 4 t.b
  have T1 := Lib.hid (fun w1 => layprinc_any t.s w1 hp.1)
  have T2 := Lib.hid (fun w1 => lint_any t.k w1)
  have T3 := Lib.hid (fun w1 (h : Below w.heap.size w w1) => loctets_any t.b A t.b.length c w1.heap.size w1 ((hr.below h).more h.size) rfl (Nat.le_refl _) (by omega))
  have HL := Lib.hid (show [prE t.s, encI t.k, elem 4 t.b].flatten.length ≤ 65535 by rw [flat3]; simp only [List.length_append]; omega)
  have HE := Lib.hid (show tkE t = elem 97 [prE t.s, encI t.k, elem 4 t.b].flatten from rfl)
  obtain ⟨l1, el1⟩ : ∃ l, l = prE t.s := ⟨_, rfl⟩
  obtain ⟨l2, el2⟩ : ∃ l, l = encI t.k := ⟨_, rfl⟩
  obtain ⟨l3, el3⟩ : ∃ l, l = elem 4 t.b := ⟨_, rfl⟩
  rw [← el1] at T1 HL HE
  rw [← el2] at T2 HL HE
  rw [← el3] at T3 HL HE
  rw [HE.out, flat3]
  clear HE el1 el2 el3 hp b1 b2 b3 ht hr
  go_enter Try.func65, Try.ntmps65
  go_wp2
  obtain ⟨W, eW⟩ : ∃ W, W = w.alloc (.cells #[.string ⟨t.s.1.toArray⟩, .string ⟨t.s.2.toArray⟩, .int .i64 t.k, .slice A t.b.length c] 28) := ⟨_, rfl⟩
  rw [← eW] at HB HK ⊢
  clear eW
  replace HK := Lib.hid (show Blk W.drew _ _ _ from HK.out.drewN 1)
  replace HB := Lib.hid (show Below _ _ W.drew from below_drewN HB.out 1)
  go_region_held3 (fun w' => w'.cell? ⟨w.heap.size, 0, none⟩ = some (.string ⟨t.s.1.toArray⟩) ∧ w'.cell? ⟨w.heap.size, 1, none⟩ = some (.string ⟨t.s.2.toArray⟩) ∧ w'.cell? ⟨w.heap.size, 2, none⟩ = some (.int .i64 t.k) ∧ w'.cell? ⟨w.heap.size, 3, none⟩ = some (.slice A t.b.length c)) (first | exact ⟨HK.out.cell 0, HK.out.cell 1, HK.out.cell 2, HK.out.cell 3⟩ | exact ⟨(HK.out.alloc _).cell 0, (HK.out.alloc _).cell 1, (HK.out.alloc _).cell 2, (HK.out.alloc _).cell 3⟩) ((first
    | (go_at_call 46; (with_reducible refine Calls.mono (T1.out _) ?_); rintro e w1 ⟨⟨g1, c1, rfl, hg1, hc1, hr1⟩, hb⟩; clear T1; have HR1 := Lib.hid hr1; replace HK := Lib.hid (HK.out.below hb); replace HB := Lib.hid (HB.out.trans (hb.mono HB.out.size)); clear hb hr1 hg1 hc1)
    | (go_at_call 49; (with_reducible refine Calls.mono (T2.out _) ?_); rintro e w2 ⟨⟨g2, c2, rfl, hg2, hc2, hr2⟩, hb⟩; clear T2; replace HR1 := Lib.hid (rd_on HR1.out hb); have HR2 := Lib.hid hr2; replace HK := Lib.hid (HK.out.below hb); replace HB := Lib.hid (HB.out.trans (hb.mono HB.out.size)); clear hb hr2 hg2 hc2)
    | (go_at_call 47; (with_reducible refine Calls.mono (T3.out _ HB.out) ?_); rintro e w3 ⟨⟨g3, c3, rfl, hg3, hc3, hr3⟩, hb⟩; clear T3; replace HR1 := Lib.hid (rd_on HR1.out hb); replace HR2 := Lib.hid (rd_on HR2.out hb); have HR3 := Lib.hid hr3; replace HK := Lib.hid (HK.out.below hb); replace HB := Lib.hid (HB.out.trans (hb.mono HB.out.size)); clear hb hr3 hg3 hc3)
    | (go_at_call 45; refine Calls.mono (lwrap_any 97 [l1, l2, l3] _ 3 3 (w3.heap.size + 1) _ (lay_three HR1.out HR2.out HR3.out) rfl (by simp) HL.out (by simp)) ?_; rintro e wz ⟨⟨gz, cz, rfl, hgz, hcz, hrz⟩, hb⟩; have hal := (Below.refl w3.heap.size w3).alloc (Nat.le_refl _) (.cells #[.slice (some ⟨g1, 0, none⟩) l1.length c1, .slice (some ⟨g2, 0, none⟩) l2.length c2, .slice (some ⟨g3, 0, none⟩) l3.length c3] 26); have HG := Lib.hid (gives_on (l := elem 97 [l1, l2, l3].flatten) ⟨⟨gz, cz, rfl, hgz, hcz, hrz⟩, hb⟩ (HB.out.trans (hal.mono HB.out.size))); rw [flat3] at HG; replace HK := Lib.hid ((HK.out.alloc (.cells #[.slice (some ⟨g1, 0, none⟩) l1.length c1, .slice (some ⟨g2, 0, none⟩) l2.length c2, .slice (some ⟨g3, 0, none⟩) l3.length c3] 26)).below hb); clear hal hgz hcz hrz hb)))
  go_wp2
  go_ret
  exact HG.out
set_option maxHeartbeats 3200000 in
theorem layas_any (q : As) (w : World) (ha : asB q = true) : Calls Try.prog 37 #[.agg #[.string ⟨q.c.1.toArray⟩, .string ⟨q.c.2.toArray⟩, .string ⟨q.s.1.toArray⟩, .string ⟨q.s.2.toArray⟩, .int .i64 q.t, .int .i64 q.no]] w (Gives w (asE q)) := by
  have HB := Lib.hid ((Below.refl w.heap.size w).alloc (Nat.le_refl _) (.cells #[.string ⟨q.c.1.toArray⟩, .string ⟨q.c.2.toArray⟩, .string ⟨q.s.1.toArray⟩, .string ⟨q.s.2.toArray⟩, .int .i64 q.t, .int .i64 q.no] 25))
  have HK := Lib.hid (Blk.new w 25 #[.string ⟨q.c.1.toArray⟩, .string ⟨q.c.2.toArray⟩, .string ⟨q.s.1.toArray⟩, .string ⟨q.s.2.toArray⟩, .int .i64 q.t, .int .i64 q.no])
  have hp : prB q.c = true ∧ prB q.s = true ∧ tmB q.t = true ∧ tmB q.no = true := by simpa [asB] using ha
  have b1 := (prE_len hp.1).1
  have b2 := (prE_len hp.2.1).1
  have b3 := encI_le q.t
  have b4 := encI_le q.no
  have T1 := Lib.hid (fun w1 => layprinc_any q.c w1 hp.1)
  have T2 := Lib.hid (fun w1 => layprinc_any q.s w1 hp.2.1)
  have T3 := Lib.hid (fun w1 => lint_any q.t w1)
  have T4 := Lib.hid (fun w1 => lint_any q.no w1)
  have HL := Lib.hid (show [prE q.c, prE q.s, encI q.t, encI q.no].flatten.length ≤ 65535 by rw [flat4]; simp only [List.length_append]; omega)
  have HE := Lib.hid (show asE q = elem 106 [prE q.c, prE q.s, encI q.t, encI q.no].flatten from rfl)
  obtain ⟨l1, el1⟩ : ∃ l, l = prE q.c := ⟨_, rfl⟩
  obtain ⟨l2, el2⟩ : ∃ l, l = prE q.s := ⟨_, rfl⟩
  obtain ⟨l3, el3⟩ : ∃ l, l = encI q.t := ⟨_, rfl⟩
  obtain ⟨l4, el4⟩ : ∃ l, l = encI q.no := ⟨_, rfl⟩
  rw [← el1] at T1 HL HE
  rw [← el2] at T2 HL HE
  rw [← el3] at T3 HL HE
  rw [← el4] at T4 HL HE
  rw [HE.out, flat4]
  clear HE el1 el2 el3 el4 hp b1 b2 b3 b4 ha
  go_enter Try.func37, Try.ntmps37
  go_wp2
  obtain ⟨W, eW⟩ : ∃ W, W = w.alloc (.cells #[.string ⟨q.c.1.toArray⟩, .string ⟨q.c.2.toArray⟩, .string ⟨q.s.1.toArray⟩, .string ⟨q.s.2.toArray⟩, .int .i64 q.t, .int .i64 q.no] 25) := ⟨_, rfl⟩
  rw [← eW] at HB HK ⊢
  clear eW
  replace HK := Lib.hid (show Blk W.drew _ _ _ from HK.out.drewN 1)
  replace HB := Lib.hid (show Below _ _ W.drew from below_drewN HB.out 1)
  go_region_held3 (fun w' => w'.cell? ⟨w.heap.size, 0, none⟩ = some (.string ⟨q.c.1.toArray⟩) ∧ w'.cell? ⟨w.heap.size, 1, none⟩ = some (.string ⟨q.c.2.toArray⟩) ∧ w'.cell? ⟨w.heap.size, 2, none⟩ = some (.string ⟨q.s.1.toArray⟩) ∧ w'.cell? ⟨w.heap.size, 3, none⟩ = some (.string ⟨q.s.2.toArray⟩) ∧ w'.cell? ⟨w.heap.size, 4, none⟩ = some (.int .i64 q.t) ∧ w'.cell? ⟨w.heap.size, 5, none⟩ = some (.int .i64 q.no)) (first | exact ⟨HK.out.cell 0, HK.out.cell 1, HK.out.cell 2, HK.out.cell 3, HK.out.cell 4, HK.out.cell 5⟩ | exact ⟨(HK.out.alloc _).cell 0, (HK.out.alloc _).cell 1, (HK.out.alloc _).cell 2, (HK.out.alloc _).cell 3, (HK.out.alloc _).cell 4, (HK.out.alloc _).cell 5⟩) ((first
    | (go_at_call 46; (with_reducible refine Calls.mono (T1.out _) ?_); rintro e w1 ⟨⟨g1, c1, rfl, hg1, hc1, hr1⟩, hb⟩; clear T1; have HR1 := Lib.hid hr1; replace HK := Lib.hid (HK.out.below hb); replace HB := Lib.hid (HB.out.trans (hb.mono HB.out.size)); clear hb hr1 hg1 hc1)
    | (go_at_call 46; (with_reducible refine Calls.mono (T2.out _) ?_); rintro e w2 ⟨⟨g2, c2, rfl, hg2, hc2, hr2⟩, hb⟩; clear T2; replace HR1 := Lib.hid (rd_on HR1.out hb); have HR2 := Lib.hid hr2; replace HK := Lib.hid (HK.out.below hb); replace HB := Lib.hid (HB.out.trans (hb.mono HB.out.size)); clear hb hr2 hg2 hc2)
    | (go_at_call 49; (with_reducible refine Calls.mono (T3.out _) ?_); rintro e w3 ⟨⟨g3, c3, rfl, hg3, hc3, hr3⟩, hb⟩; clear T3; replace HR1 := Lib.hid (rd_on HR1.out hb); replace HR2 := Lib.hid (rd_on HR2.out hb); have HR3 := Lib.hid hr3; replace HK := Lib.hid (HK.out.below hb); replace HB := Lib.hid (HB.out.trans (hb.mono HB.out.size)); clear hb hr3 hg3 hc3)
    | (go_at_call 49; (with_reducible refine Calls.mono (T4.out _) ?_); rintro e w4 ⟨⟨g4, c4, rfl, hg4, hc4, hr4⟩, hb⟩; clear T4; replace HR1 := Lib.hid (rd_on HR1.out hb); replace HR2 := Lib.hid (rd_on HR2.out hb); replace HR3 := Lib.hid (rd_on HR3.out hb); have HR4 := Lib.hid hr4; replace HK := Lib.hid (HK.out.below hb); replace HB := Lib.hid (HB.out.trans (hb.mono HB.out.size)); clear hb hr4 hg4 hc4)
    | (go_at_call 45; refine Calls.mono (lwrap_any 106 [l1, l2, l3, l4] _ 4 4 (w4.heap.size + 1) _ (lay_four HR1.out HR2.out HR3.out HR4.out) rfl (by simp) HL.out (by simp)) ?_; rintro e wz ⟨⟨gz, cz, rfl, hgz, hcz, hrz⟩, hb⟩; have hal := (Below.refl w4.heap.size w4).alloc (Nat.le_refl _) (.cells #[.slice (some ⟨g1, 0, none⟩) l1.length c1, .slice (some ⟨g2, 0, none⟩) l2.length c2, .slice (some ⟨g3, 0, none⟩) l3.length c3, .slice (some ⟨g4, 0, none⟩) l4.length c4] 26); have HG := Lib.hid (gives_on (l := elem 106 [l1, l2, l3, l4].flatten) ⟨⟨gz, cz, rfl, hgz, hcz, hrz⟩, hb⟩ (HB.out.trans (hal.mono HB.out.size))); rw [flat4] at HG; replace HK := Lib.hid ((HK.out.alloc (.cells #[.slice (some ⟨g1, 0, none⟩) l1.length c1, .slice (some ⟨g2, 0, none⟩) l2.length c2, .slice (some ⟨g3, 0, none⟩) l3.length c3, .slice (some ⟨g4, 0, none⟩) l4.length c4] 26)).below hb); clear hal hgz hcz hrz hb)))
  go_wp2
  go_ret
  exact HG.out
set_option maxHeartbeats 3200000 in
theorem laytg_any (q : Tg) (A1 A2 : Option Addr) (c1 c2 : Nat) (w : World) (ha : tgB q = true) (hr1 : Rd w w.heap.size A1 (bvs q.t.b)) (hr2 : Rd w w.heap.size A2 (bvs q.a)) : Calls Try.prog 38 #[.agg #[.string ⟨q.t.s.1.toArray⟩, .string ⟨q.t.s.2.toArray⟩, .int .i64 q.t.k, .slice A1 q.t.b.length c1, .slice A2 q.a.length c2, .string ⟨q.s.1.toArray⟩, .string ⟨q.s.2.toArray⟩, .int .i64 q.u, .int .i64 q.no]] w (Gives w (tgE q)) := by
  have HB := Lib.hid ((Below.refl w.heap.size w).alloc (Nat.le_refl _) (.cells #[.string ⟨q.t.s.1.toArray⟩, .string ⟨q.t.s.2.toArray⟩, .int .i64 q.t.k, .slice A1 q.t.b.length c1, .slice A2 q.a.length c2, .string ⟨q.s.1.toArray⟩, .string ⟨q.s.2.toArray⟩, .int .i64 q.u, .int .i64 q.no] 30))
  have HK := Lib.hid (Blk.new w 30 #[.string ⟨q.t.s.1.toArray⟩, .string ⟨q.t.s.2.toArray⟩, .int .i64 q.t.k, .slice A1 q.t.b.length c1, .slice A2 q.a.length c2, .string ⟨q.s.1.toArray⟩, .string ⟨q.s.2.toArray⟩, .int .i64 q.u, .int .i64 q.no])
  have hp : tkB q.t = true ∧ blobB q.a = true ∧ prB q.s = true ∧ tmB q.u = true ∧ tmB q.no = true := by simpa [tgB] using ha
  have b1 := (tkE_len hp.1).1
  have b2 := elem_len 4 q.a
  have b3 := (prE_len hp.2.2.1).1
  have b4 := encI_le q.u
  have b5 := encI_le q.no
  have b6 := blob_parts hp.2.1
  have T1 := Lib.hid (fun w1 (h : Below w.heap.size w w1) => layticket_any q.t A1 c1 w1 hp.1 ((hr1.below h).more h.size))
  have T2 := Lib.hid (fun w1 (h : Below w.heap.size w w1) => loctets_any q.a A2 q.a.length c2 w1.heap.size w1 ((hr2.below h).more h.size) rfl (Nat.le_refl _) (by omega))
  have T3 := Lib.hid (fun w1 => layprinc_any q.s w1 hp.2.2.1)
  have T4 := Lib.hid (fun w1 => lint_any q.u w1)
  have T5 := Lib.hid (fun w1 => lint_any q.no w1)
  have HL := Lib.hid (show [tkE q.t, elem 4 q.a, prE q.s, encI q.u, encI q.no].flatten.length ≤ 65535 by rw [flat5]; simp only [List.length_append]; omega)
  have HE := Lib.hid (show tgE q = elem 108 [tkE q.t, elem 4 q.a, prE q.s, encI q.u, encI q.no].flatten from rfl)
  obtain ⟨l1, el1⟩ : ∃ l, l = tkE q.t := ⟨_, rfl⟩
  obtain ⟨l2, el2⟩ : ∃ l, l = elem 4 q.a := ⟨_, rfl⟩
  obtain ⟨l3, el3⟩ : ∃ l, l = prE q.s := ⟨_, rfl⟩
  obtain ⟨l4, el4⟩ : ∃ l, l = encI q.u := ⟨_, rfl⟩
  obtain ⟨l5, el5⟩ : ∃ l, l = encI q.no := ⟨_, rfl⟩
  rw [← el1] at T1 HL HE
  rw [← el2] at T2 HL HE
  rw [← el3] at T3 HL HE
  rw [← el4] at T4 HL HE
  rw [← el5] at T5 HL HE
  rw [HE.out, flat5]
  clear HE el1 el2 el3 el4 el5 hp b1 b2 b3 b4 b5 b6 ha hr1 hr2
  go_enter Try.func38, Try.ntmps38
  go_wp2
  obtain ⟨W, eW⟩ : ∃ W, W = w.alloc (.cells #[.string ⟨q.t.s.1.toArray⟩, .string ⟨q.t.s.2.toArray⟩, .int .i64 q.t.k, .slice A1 q.t.b.length c1, .slice A2 q.a.length c2, .string ⟨q.s.1.toArray⟩, .string ⟨q.s.2.toArray⟩, .int .i64 q.u, .int .i64 q.no] 30) := ⟨_, rfl⟩
  rw [← eW] at HB HK ⊢
  clear eW
  replace HK := Lib.hid (show Blk W.drew _ _ _ from HK.out.drewN 1)
  replace HB := Lib.hid (show Below _ _ W.drew from below_drewN HB.out 1)
  go_region_held3 (fun w' => w'.cell? ⟨w.heap.size, 0, none⟩ = some (.string ⟨q.t.s.1.toArray⟩) ∧ w'.cell? ⟨w.heap.size, 1, none⟩ = some (.string ⟨q.t.s.2.toArray⟩) ∧ w'.cell? ⟨w.heap.size, 2, none⟩ = some (.int .i64 q.t.k) ∧ w'.cell? ⟨w.heap.size, 3, none⟩ = some (.slice A1 q.t.b.length c1) ∧ w'.cell? ⟨w.heap.size, 4, none⟩ = some (.slice A2 q.a.length c2) ∧ w'.cell? ⟨w.heap.size, 5, none⟩ = some (.string ⟨q.s.1.toArray⟩) ∧ w'.cell? ⟨w.heap.size, 6, none⟩ = some (.string ⟨q.s.2.toArray⟩) ∧ w'.cell? ⟨w.heap.size, 7, none⟩ = some (.int .i64 q.u) ∧ w'.cell? ⟨w.heap.size, 8, none⟩ = some (.int .i64 q.no)) (first | exact ⟨HK.out.cell 0, HK.out.cell 1, HK.out.cell 2, HK.out.cell 3, HK.out.cell 4, HK.out.cell 5, HK.out.cell 6, HK.out.cell 7, HK.out.cell 8⟩ | exact ⟨(HK.out.alloc _).cell 0, (HK.out.alloc _).cell 1, (HK.out.alloc _).cell 2, (HK.out.alloc _).cell 3, (HK.out.alloc _).cell 4, (HK.out.alloc _).cell 5, (HK.out.alloc _).cell 6, (HK.out.alloc _).cell 7, (HK.out.alloc _).cell 8⟩) ((first
    | (go_at_call 65; (with_reducible refine Calls.mono (T1.out _ HB.out) ?_); rintro e w1 ⟨⟨g1, c1, rfl, hg1, hc1, hr1⟩, hb⟩; clear T1; have HR1 := Lib.hid hr1; replace HK := Lib.hid (HK.out.below hb); replace HB := Lib.hid (HB.out.trans (hb.mono HB.out.size)); clear hb hr1 hg1 hc1)
    | (go_at_call 47; (with_reducible refine Calls.mono (T2.out _ HB.out) ?_); rintro e w2 ⟨⟨g2, c2, rfl, hg2, hc2, hr2⟩, hb⟩; clear T2; replace HR1 := Lib.hid (rd_on HR1.out hb); have HR2 := Lib.hid hr2; replace HK := Lib.hid (HK.out.below hb); replace HB := Lib.hid (HB.out.trans (hb.mono HB.out.size)); clear hb hr2 hg2 hc2)
    | (go_at_call 46; (with_reducible refine Calls.mono (T3.out _) ?_); rintro e w3 ⟨⟨g3, c3, rfl, hg3, hc3, hr3⟩, hb⟩; clear T3; replace HR1 := Lib.hid (rd_on HR1.out hb); replace HR2 := Lib.hid (rd_on HR2.out hb); have HR3 := Lib.hid hr3; replace HK := Lib.hid (HK.out.below hb); replace HB := Lib.hid (HB.out.trans (hb.mono HB.out.size)); clear hb hr3 hg3 hc3)
    | (go_at_call 49; (with_reducible refine Calls.mono (T4.out _) ?_); rintro e w4 ⟨⟨g4, c4, rfl, hg4, hc4, hr4⟩, hb⟩; clear T4; replace HR1 := Lib.hid (rd_on HR1.out hb); replace HR2 := Lib.hid (rd_on HR2.out hb); replace HR3 := Lib.hid (rd_on HR3.out hb); have HR4 := Lib.hid hr4; replace HK := Lib.hid (HK.out.below hb); replace HB := Lib.hid (HB.out.trans (hb.mono HB.out.size)); clear hb hr4 hg4 hc4)
    | (go_at_call 49; (with_reducible refine Calls.mono (T5.out _) ?_); rintro e w5 ⟨⟨g5, c5, rfl, hg5, hc5, hr5⟩, hb⟩; clear T5; replace HR1 := Lib.hid (rd_on HR1.out hb); replace HR2 := Lib.hid (rd_on HR2.out hb); replace HR3 := Lib.hid (rd_on HR3.out hb); replace HR4 := Lib.hid (rd_on HR4.out hb); have HR5 := Lib.hid hr5; replace HK := Lib.hid (HK.out.below hb); replace HB := Lib.hid (HB.out.trans (hb.mono HB.out.size)); clear hb hr5 hg5 hc5)
    | (go_at_call 45; refine Calls.mono (lwrap_any 108 [l1, l2, l3, l4, l5] _ 5 5 (w5.heap.size + 1) _ (lay_five HR1.out HR2.out HR3.out HR4.out HR5.out) rfl (by simp) HL.out (by simp)) ?_; rintro e wz ⟨⟨gz, cz, rfl, hgz, hcz, hrz⟩, hb⟩; have hal := (Below.refl w5.heap.size w5).alloc (Nat.le_refl _) (.cells #[.slice (some ⟨g1, 0, none⟩) l1.length c1, .slice (some ⟨g2, 0, none⟩) l2.length c2, .slice (some ⟨g3, 0, none⟩) l3.length c3, .slice (some ⟨g4, 0, none⟩) l4.length c4, .slice (some ⟨g5, 0, none⟩) l5.length c5] 26); have HG := Lib.hid (gives_on (l := elem 108 [l1, l2, l3, l4, l5].flatten) ⟨⟨gz, cz, rfl, hgz, hcz, hrz⟩, hb⟩ (HB.out.trans (hal.mono HB.out.size))); rw [flat5] at HG; replace HK := Lib.hid ((HK.out.alloc (.cells #[.slice (some ⟨g1, 0, none⟩) l1.length c1, .slice (some ⟨g2, 0, none⟩) l2.length c2, .slice (some ⟨g3, 0, none⟩) l3.length c3, .slice (some ⟨g4, 0, none⟩) l4.length c4, .slice (some ⟨g5, 0, none⟩) l5.length c5] 26)).below hb); clear hal hgz hcz hrz hb)))
  go_wp2
  go_ret
  exact HG.out
set_option maxHeartbeats 3200000 in
theorem layre_any (q : Re) (A1 A2 : Option Addr) (c1 c2 : Nat) (w : World) (ha : reB q = true) (hr1 : Rd w w.heap.size A1 (bvs q.t.b)) (hr2 : Rd w w.heap.size A2 (bvs q.b)) : Calls Try.prog 39 #[.agg #[.string ⟨q.c.1.toArray⟩, .string ⟨q.c.2.toArray⟩, .string ⟨q.t.s.1.toArray⟩, .string ⟨q.t.s.2.toArray⟩, .int .i64 q.t.k, .slice A1 q.t.b.length c1, .slice A2 q.b.length c2]] w (Gives w (reE q)) := by
  have HB := Lib.hid ((Below.refl w.heap.size w).alloc (Nat.le_refl _) (.cells #[.string ⟨q.c.1.toArray⟩, .string ⟨q.c.2.toArray⟩, .string ⟨q.t.s.1.toArray⟩, .string ⟨q.t.s.2.toArray⟩, .int .i64 q.t.k, .slice A1 q.t.b.length c1, .slice A2 q.b.length c2] 32))
  have HK := Lib.hid (Blk.new w 32 #[.string ⟨q.c.1.toArray⟩, .string ⟨q.c.2.toArray⟩, .string ⟨q.t.s.1.toArray⟩, .string ⟨q.t.s.2.toArray⟩, .int .i64 q.t.k, .slice A1 q.t.b.length c1, .slice A2 q.b.length c2])
  have hp : prB q.c = true ∧ tkB q.t = true ∧ blobB q.b = true := by simpa [reB] using ha
  have b1 := (prE_len hp.1).1
  have b2 := (tkE_len hp.2.1).1
  have b3 := elem_len 4 q.b
  have b6 := blob_parts hp.2.2
  have T1 := Lib.hid (fun w1 => layprinc_any q.c w1 hp.1)
  have T2 := Lib.hid (fun w1 (h : Below w.heap.size w w1) => layticket_any q.t A1 c1 w1 hp.2.1 ((hr1.below h).more h.size))
  have T3 := Lib.hid (fun w1 (h : Below w.heap.size w w1) => loctets_any q.b A2 q.b.length c2 w1.heap.size w1 ((hr2.below h).more h.size) rfl (Nat.le_refl _) (by omega))
  have HL := Lib.hid (show [prE q.c, tkE q.t, elem 4 q.b].flatten.length ≤ 65535 by rw [flat3]; simp only [List.length_append]; omega)
  have HE := Lib.hid (show reE q = elem 107 [prE q.c, tkE q.t, elem 4 q.b].flatten from rfl)
  obtain ⟨l1, el1⟩ : ∃ l, l = prE q.c := ⟨_, rfl⟩
  obtain ⟨l2, el2⟩ : ∃ l, l = tkE q.t := ⟨_, rfl⟩
  obtain ⟨l3, el3⟩ : ∃ l, l = elem 4 q.b := ⟨_, rfl⟩
  rw [← el1] at T1 HL HE
  rw [← el2] at T2 HL HE
  rw [← el3] at T3 HL HE
  rw [HE.out, flat3]
  clear HE el1 el2 el3 hp b1 b2 b3 b6 ha hr1 hr2
  go_enter Try.func39, Try.ntmps39
  go_wp2
  obtain ⟨W, eW⟩ : ∃ W, W = w.alloc (.cells #[.string ⟨q.c.1.toArray⟩, .string ⟨q.c.2.toArray⟩, .string ⟨q.t.s.1.toArray⟩, .string ⟨q.t.s.2.toArray⟩, .int .i64 q.t.k, .slice A1 q.t.b.length c1, .slice A2 q.b.length c2] 32) := ⟨_, rfl⟩
  rw [← eW] at HB HK ⊢
  clear eW
  replace HK := Lib.hid (show Blk W.drew _ _ _ from HK.out.drewN 1)
  replace HB := Lib.hid (show Below _ _ W.drew from below_drewN HB.out 1)
  go_region_held3 (fun w' => w'.cell? ⟨w.heap.size, 0, none⟩ = some (.string ⟨q.c.1.toArray⟩) ∧ w'.cell? ⟨w.heap.size, 1, none⟩ = some (.string ⟨q.c.2.toArray⟩) ∧ w'.cell? ⟨w.heap.size, 2, none⟩ = some (.string ⟨q.t.s.1.toArray⟩) ∧ w'.cell? ⟨w.heap.size, 3, none⟩ = some (.string ⟨q.t.s.2.toArray⟩) ∧ w'.cell? ⟨w.heap.size, 4, none⟩ = some (.int .i64 q.t.k) ∧ w'.cell? ⟨w.heap.size, 5, none⟩ = some (.slice A1 q.t.b.length c1) ∧ w'.cell? ⟨w.heap.size, 6, none⟩ = some (.slice A2 q.b.length c2)) (first | exact ⟨HK.out.cell 0, HK.out.cell 1, HK.out.cell 2, HK.out.cell 3, HK.out.cell 4, HK.out.cell 5, HK.out.cell 6⟩ | exact ⟨(HK.out.alloc _).cell 0, (HK.out.alloc _).cell 1, (HK.out.alloc _).cell 2, (HK.out.alloc _).cell 3, (HK.out.alloc _).cell 4, (HK.out.alloc _).cell 5, (HK.out.alloc _).cell 6⟩) ((first
    | (go_at_call 46; (with_reducible refine Calls.mono (T1.out _) ?_); rintro e w1 ⟨⟨g1, c1, rfl, hg1, hc1, hr1⟩, hb⟩; clear T1; have HR1 := Lib.hid hr1; replace HK := Lib.hid (HK.out.below hb); replace HB := Lib.hid (HB.out.trans (hb.mono HB.out.size)); clear hb hr1 hg1 hc1)
    | (go_at_call 65; (with_reducible refine Calls.mono (T2.out _ HB.out) ?_); rintro e w2 ⟨⟨g2, c2, rfl, hg2, hc2, hr2⟩, hb⟩; clear T2; replace HR1 := Lib.hid (rd_on HR1.out hb); have HR2 := Lib.hid hr2; replace HK := Lib.hid (HK.out.below hb); replace HB := Lib.hid (HB.out.trans (hb.mono HB.out.size)); clear hb hr2 hg2 hc2)
    | (go_at_call 47; (with_reducible refine Calls.mono (T3.out _ HB.out) ?_); rintro e w3 ⟨⟨g3, c3, rfl, hg3, hc3, hr3⟩, hb⟩; clear T3; replace HR1 := Lib.hid (rd_on HR1.out hb); replace HR2 := Lib.hid (rd_on HR2.out hb); have HR3 := Lib.hid hr3; replace HK := Lib.hid (HK.out.below hb); replace HB := Lib.hid (HB.out.trans (hb.mono HB.out.size)); clear hb hr3 hg3 hc3)
    | (go_at_call 45; refine Calls.mono (lwrap_any 107 [l1, l2, l3] _ 3 3 (w3.heap.size + 1) _ (lay_three HR1.out HR2.out HR3.out) rfl (by simp) HL.out (by simp)) ?_; rintro e wz ⟨⟨gz, cz, rfl, hgz, hcz, hrz⟩, hb⟩; have hal := (Below.refl w3.heap.size w3).alloc (Nat.le_refl _) (.cells #[.slice (some ⟨g1, 0, none⟩) l1.length c1, .slice (some ⟨g2, 0, none⟩) l2.length c2, .slice (some ⟨g3, 0, none⟩) l3.length c3] 26); have HG := Lib.hid (gives_on (l := elem 107 [l1, l2, l3].flatten) ⟨⟨gz, cz, rfl, hgz, hcz, hrz⟩, hb⟩ (HB.out.trans (hal.mono HB.out.size))); rw [flat3] at HG; replace HK := Lib.hid ((HK.out.alloc (.cells #[.slice (some ⟨g1, 0, none⟩) l1.length c1, .slice (some ⟨g2, 0, none⟩) l2.length c2, .slice (some ⟨g3, 0, none⟩) l3.length c3] 26)).below hb); clear hal hgz hcz hrz hb)))
  go_wp2
  go_ret
  exact HG.out
set_option maxHeartbeats 3200000 in
theorem layap_any (q : Ap) (A1 A2 : Option Addr) (c1 c2 : Nat) (w : World) (ha : apB q = true) (hr1 : Rd w w.heap.size A1 (bvs q.t.b)) (hr2 : Rd w w.heap.size A2 (bvs q.a)) : Calls Try.prog 40 #[.agg #[.string ⟨q.t.s.1.toArray⟩, .string ⟨q.t.s.2.toArray⟩, .int .i64 q.t.k, .slice A1 q.t.b.length c1, .slice A2 q.a.length c2]] w (Gives w (apE q)) := by
  have HB := Lib.hid ((Below.refl w.heap.size w).alloc (Nat.le_refl _) (.cells #[.string ⟨q.t.s.1.toArray⟩, .string ⟨q.t.s.2.toArray⟩, .int .i64 q.t.k, .slice A1 q.t.b.length c1, .slice A2 q.a.length c2] 34))
  have HK := Lib.hid (Blk.new w 34 #[.string ⟨q.t.s.1.toArray⟩, .string ⟨q.t.s.2.toArray⟩, .int .i64 q.t.k, .slice A1 q.t.b.length c1, .slice A2 q.a.length c2])
  have hp : tkB q.t = true ∧ blobB q.a = true := by simpa [apB] using ha
  have b2 := (tkE_len hp.1).1
  have b3 := elem_len 4 q.a
  have b6 := blob_parts hp.2
  have T1 := Lib.hid (fun w1 (h : Below w.heap.size w w1) => layticket_any q.t A1 c1 w1 hp.1 ((hr1.below h).more h.size))
  have T2 := Lib.hid (fun w1 (h : Below w.heap.size w w1) => loctets_any q.a A2 q.a.length c2 w1.heap.size w1 ((hr2.below h).more h.size) rfl (Nat.le_refl _) (by omega))
  have HL := Lib.hid (show [tkE q.t, elem 4 q.a].flatten.length ≤ 65535 by rw [flat2]; simp only [List.length_append]; omega)
  have HE := Lib.hid (show apE q = elem 110 [tkE q.t, elem 4 q.a].flatten from rfl)
  obtain ⟨l1, el1⟩ : ∃ l, l = tkE q.t := ⟨_, rfl⟩
  obtain ⟨l2, el2⟩ : ∃ l, l = elem 4 q.a := ⟨_, rfl⟩
  rw [← el1] at T1 HL HE
  rw [← el2] at T2 HL HE
  rw [HE.out, flat2]
  clear HE el1 el2 hp b2 b3 b6 ha hr1 hr2
  go_enter Try.func40, Try.ntmps40
  go_wp2
  obtain ⟨W, eW⟩ : ∃ W, W = w.alloc (.cells #[.string ⟨q.t.s.1.toArray⟩, .string ⟨q.t.s.2.toArray⟩, .int .i64 q.t.k, .slice A1 q.t.b.length c1, .slice A2 q.a.length c2] 34) := ⟨_, rfl⟩
  rw [← eW] at HB HK ⊢
  clear eW
  replace HK := Lib.hid (show Blk W.drew _ _ _ from HK.out.drewN 1)
  replace HB := Lib.hid (show Below _ _ W.drew from below_drewN HB.out 1)
  go_region_held3 (fun w' => w'.cell? ⟨w.heap.size, 0, none⟩ = some (.string ⟨q.t.s.1.toArray⟩) ∧ w'.cell? ⟨w.heap.size, 1, none⟩ = some (.string ⟨q.t.s.2.toArray⟩) ∧ w'.cell? ⟨w.heap.size, 2, none⟩ = some (.int .i64 q.t.k) ∧ w'.cell? ⟨w.heap.size, 3, none⟩ = some (.slice A1 q.t.b.length c1) ∧ w'.cell? ⟨w.heap.size, 4, none⟩ = some (.slice A2 q.a.length c2)) (first | exact ⟨HK.out.cell 0, HK.out.cell 1, HK.out.cell 2, HK.out.cell 3, HK.out.cell 4⟩ | exact ⟨(HK.out.alloc _).cell 0, (HK.out.alloc _).cell 1, (HK.out.alloc _).cell 2, (HK.out.alloc _).cell 3, (HK.out.alloc _).cell 4⟩) ((first
    | (go_at_call 65; (with_reducible refine Calls.mono (T1.out _ HB.out) ?_); rintro e w1 ⟨⟨g1, c1, rfl, hg1, hc1, hr1⟩, hb⟩; clear T1; have HR1 := Lib.hid hr1; replace HK := Lib.hid (HK.out.below hb); replace HB := Lib.hid (HB.out.trans (hb.mono HB.out.size)); clear hb hr1 hg1 hc1)
    | (go_at_call 47; (with_reducible refine Calls.mono (T2.out _ HB.out) ?_); rintro e w2 ⟨⟨g2, c2, rfl, hg2, hc2, hr2⟩, hb⟩; clear T2; replace HR1 := Lib.hid (rd_on HR1.out hb); have HR2 := Lib.hid hr2; replace HK := Lib.hid (HK.out.below hb); replace HB := Lib.hid (HB.out.trans (hb.mono HB.out.size)); clear hb hr2 hg2 hc2)
    | (go_at_call 45; refine Calls.mono (lwrap_any 110 [l1, l2] _ 2 2 (w2.heap.size + 1) _ (lay_two HR1.out HR2.out) rfl (by simp) HL.out (by simp)) ?_; rintro e wz ⟨⟨gz, cz, rfl, hgz, hcz, hrz⟩, hb⟩; have hal := (Below.refl w2.heap.size w2).alloc (Nat.le_refl _) (.cells #[.slice (some ⟨g1, 0, none⟩) l1.length c1, .slice (some ⟨g2, 0, none⟩) l2.length c2] 26); have HG := Lib.hid (gives_on (l := elem 110 [l1, l2].flatten) ⟨⟨gz, cz, rfl, hgz, hcz, hrz⟩, hb⟩ (HB.out.trans (hal.mono HB.out.size))); rw [flat2] at HG; replace HK := Lib.hid ((HK.out.alloc (.cells #[.slice (some ⟨g1, 0, none⟩) l1.length c1, .slice (some ⟨g2, 0, none⟩) l2.length c2] 26)).below hb); clear hal hgz hcz hrz hb)))
  go_wp2
  go_ret
  exact HG.out
set_option maxHeartbeats 3200000 in
theorem layfa_any (q : Fa) (w : World) : Calls Try.prog 41 #[.agg #[.int .i64 q.e, .int .i64 q.no]] w (Gives w (faE q)) := by
  have HB := Lib.hid ((Below.refl w.heap.size w).alloc (Nat.le_refl _) (.cells #[.int .i64 q.e, .int .i64 q.no] 37))
  have HK := Lib.hid (Blk.new w 37 #[.int .i64 q.e, .int .i64 q.no])
  have b1 := encI_le q.e
  have b2 := encI_le q.no
  have T1 := Lib.hid (fun w1 => lint_any q.e w1)
  have T2 := Lib.hid (fun w1 => lint_any q.no w1)
  have HL := Lib.hid (show [encI q.e, encI q.no].flatten.length ≤ 65535 by rw [flat2]; simp only [List.length_append]; omega)
  have HE := Lib.hid (show faE q = elem 126 [encI q.e, encI q.no].flatten from rfl)
  obtain ⟨l1, el1⟩ : ∃ l, l = encI q.e := ⟨_, rfl⟩
  obtain ⟨l2, el2⟩ : ∃ l, l = encI q.no := ⟨_, rfl⟩
  rw [← el1] at T1 HL HE
  rw [← el2] at T2 HL HE
  rw [HE.out, flat2]
  clear HE el1 el2 b1 b2
  go_enter Try.func41, Try.ntmps41
  go_wp2
  obtain ⟨W, eW⟩ : ∃ W, W = w.alloc (.cells #[.int .i64 q.e, .int .i64 q.no] 37) := ⟨_, rfl⟩
  rw [← eW] at HB HK ⊢
  clear eW
  replace HK := Lib.hid (show Blk W.drew _ _ _ from HK.out.drewN 1)
  replace HB := Lib.hid (show Below _ _ W.drew from below_drewN HB.out 1)
  go_region_held3 (fun w' => w'.cell? ⟨w.heap.size, 0, none⟩ = some (.int .i64 q.e) ∧ w'.cell? ⟨w.heap.size, 1, none⟩ = some (.int .i64 q.no)) (first | exact ⟨HK.out.cell 0, HK.out.cell 1⟩ | exact ⟨(HK.out.alloc _).cell 0, (HK.out.alloc _).cell 1⟩) ((first
    | (go_at_call 49; (with_reducible refine Calls.mono (T1.out _) ?_); rintro e w1 ⟨⟨g1, c1, rfl, hg1, hc1, hr1⟩, hb⟩; clear T1; have HR1 := Lib.hid hr1; replace HK := Lib.hid (HK.out.below hb); replace HB := Lib.hid (HB.out.trans (hb.mono HB.out.size)); clear hb hr1 hg1 hc1)
    | (go_at_call 49; (with_reducible refine Calls.mono (T2.out _) ?_); rintro e w2 ⟨⟨g2, c2, rfl, hg2, hc2, hr2⟩, hb⟩; clear T2; replace HR1 := Lib.hid (rd_on HR1.out hb); have HR2 := Lib.hid hr2; replace HK := Lib.hid (HK.out.below hb); replace HB := Lib.hid (HB.out.trans (hb.mono HB.out.size)); clear hb hr2 hg2 hc2)
    | (go_at_call 45; refine Calls.mono (lwrap_any 126 [l1, l2] _ 2 2 (w2.heap.size + 1) _ (lay_two HR1.out HR2.out) rfl (by simp) HL.out (by simp)) ?_; rintro e wz ⟨⟨gz, cz, rfl, hgz, hcz, hrz⟩, hb⟩; have hal := (Below.refl w2.heap.size w2).alloc (Nat.le_refl _) (.cells #[.slice (some ⟨g1, 0, none⟩) l1.length c1, .slice (some ⟨g2, 0, none⟩) l2.length c2] 26); have HG := Lib.hid (gives_on (l := elem 126 [l1, l2].flatten) ⟨⟨gz, cz, rfl, hgz, hcz, hrz⟩, hb⟩ (HB.out.trans (hal.mono HB.out.size))); rw [flat2] at HG; replace HK := Lib.hid ((HK.out.alloc (.cells #[.slice (some ⟨g1, 0, none⟩) l1.length c1, .slice (some ⟨g2, 0, none⟩) l2.length c2] 26)).below hb); clear hal hgz hcz hrz hb)))
  go_wp2
  go_ret
  exact HG.out
set_option maxHeartbeats 3200000 in
theorem laypart_any (p : Pt) (w : World) (hk : p.ss.length = 32) (hx : ptB p = true) : Calls Try.prog 25 #[.agg (ptC p).toArray] w (Gives w (ptE p)) := by
  have HI := Lib.hid (show (Try.prog.info? 50).map (·.size) = some (ptC p).toArray.size by rw [pt_size hk]; kernel_rfl)
  have CF := Lib.hid (show ∀ w' : World, Blk w' w.heap.size 50 (ptC p).toArray → w'.cell? ⟨w.heap.size, 0, none⟩ = some (.string ⟨p.c.1.toArray⟩) ∧ w'.cell? ⟨w.heap.size, 1, none⟩ = some (.string ⟨p.c.2.toArray⟩) ∧ w'.cell? ⟨w.heap.size, 34, none⟩ = some (.string ⟨p.tr.toArray⟩) ∧ w'.cell? ⟨w.heap.size, 35, none⟩ = some (.int .i64 p.st) ∧ w'.cell? ⟨w.heap.size, 36, none⟩ = some (.int .i64 p.en) from fun w' h => pt_cells hk h)
  have T2 := Lib.hid (fun w1 (h : Blk w1 w.heap.size 50 (ptC p).toArray) => loctets_any p.ss (some ⟨w.heap.size, 2, none⟩) 32 32 w1.heap.size w1 (pt_key h) hk.symm (Nat.le_refl _) (by omega))
  obtain ⟨cs, ecs⟩ : ∃ cs, cs = (ptC p).toArray := ⟨_, rfl⟩
  rw [← ecs] at HI CF T2 ⊢
  clear ecs
  have HB := Lib.hid ((Below.refl w.heap.size w).alloc (Nat.le_refl _) (.cells cs 50))
  have HK := Lib.hid (Blk.new w 50 cs)
  have hp := (pt_parts hx).2.1
  have h3 := (pt_parts hx).2.2.1
  have b1 := (prE_len hp).1
  have b2 := encI_le p.st
  have b3 := encI_le p.en
  have b4 := elem_len 27 p.tr
  have b5 := elem_len 4 p.ss
  have T1 := Lib.hid (fun w1 => layprinc_any p.c w1 hp)
  have T3 := Lib.hid (fun w1 => ltext_any p.tr w1 (by omega))
  have T4 := Lib.hid (fun w1 => lint_any p.st w1)
  have T5 := Lib.hid (fun w1 => lint_any p.en w1)
  have HL := Lib.hid (show [prE p.c, elem 4 p.ss, elem 27 p.tr, encI p.st, encI p.en].flatten.length ≤ 65535 by rw [flat5]; simp only [List.length_append]; omega)
  have HE := Lib.hid (show ptE p = elem 99 [prE p.c, elem 4 p.ss, elem 27 p.tr, encI p.st, encI p.en].flatten from rfl)
  obtain ⟨l1, el1⟩ : ∃ l, l = prE p.c := ⟨_, rfl⟩
  obtain ⟨l2, el2⟩ : ∃ l, l = elem 4 p.ss := ⟨_, rfl⟩
  obtain ⟨l3, el3⟩ : ∃ l, l = elem 27 p.tr := ⟨_, rfl⟩
  obtain ⟨l4, el4⟩ : ∃ l, l = encI p.st := ⟨_, rfl⟩
  obtain ⟨l5, el5⟩ : ∃ l, l = encI p.en := ⟨_, rfl⟩
  rw [← el1] at T1 HL HE
  rw [← el2] at T2 HL HE
  rw [← el3] at T3 HL HE
  rw [← el4] at T4 HL HE
  rw [← el5] at T5 HL HE
  rw [HE.out, flat5]
  clear HE el1 el2 el3 el4 el5 hp h3 b1 b2 b3 b4 b5 hk hx
  go_enter Try.func25, Try.ntmps25
  go_wp2
  obtain ⟨W, eW⟩ : ∃ W, W = w.alloc (.cells cs 50) := ⟨_, rfl⟩
  rw [← eW] at HB HK ⊢
  clear eW
  replace HK := Lib.hid (show Blk W.drew _ _ _ from HK.out.drewN 1)
  replace HB := Lib.hid (show Below _ _ W.drew from below_drewN HB.out 1)
  go_region_held3 (fun w' => w'.cell? ⟨w.heap.size, 0, none⟩ = some (.string ⟨p.c.1.toArray⟩) ∧ w'.cell? ⟨w.heap.size, 1, none⟩ = some (.string ⟨p.c.2.toArray⟩) ∧ w'.cell? ⟨w.heap.size, 34, none⟩ = some (.string ⟨p.tr.toArray⟩) ∧ w'.cell? ⟨w.heap.size, 35, none⟩ = some (.int .i64 p.st) ∧ w'.cell? ⟨w.heap.size, 36, none⟩ = some (.int .i64 p.en)) (first | exact CF.out _ HK.out | exact CF.out _ (HK.out.alloc _)) ((first
    | (go_at_call 46; (with_reducible refine Calls.mono (T1.out _) ?_); rintro e w1 ⟨⟨g1, c1, rfl, hg1, hc1, hr1⟩, hb⟩; clear T1; have HR1 := Lib.hid hr1; replace HK := Lib.hid (HK.out.below hb); replace HB := Lib.hid (HB.out.trans (hb.mono HB.out.size)); clear hb hr1 hg1 hc1)
    | (go_at_call 47; (with_reducible refine Calls.mono (T2.out _ HK.out) ?_); rintro e w2 ⟨⟨g2, c2, rfl, hg2, hc2, hr2⟩, hb⟩; clear T2; replace HR1 := Lib.hid (rd_on HR1.out hb); have HR2 := Lib.hid hr2; replace HK := Lib.hid (HK.out.below hb); replace HB := Lib.hid (HB.out.trans (hb.mono HB.out.size)); clear hb hr2 hg2 hc2)
    | (go_at_call 48; (with_reducible refine Calls.mono (T3.out _) ?_); rintro e w3 ⟨⟨g3, c3, rfl, hg3, hc3, hr3⟩, hb⟩; clear T3; replace HR1 := Lib.hid (rd_on HR1.out hb); replace HR2 := Lib.hid (rd_on HR2.out hb); have HR3 := Lib.hid hr3; replace HK := Lib.hid (HK.out.below hb); replace HB := Lib.hid (HB.out.trans (hb.mono HB.out.size)); clear hb hr3 hg3 hc3)
    | (go_at_call 49; (with_reducible refine Calls.mono (T4.out _) ?_); rintro e w4 ⟨⟨g4, c4, rfl, hg4, hc4, hr4⟩, hb⟩; clear T4; replace HR1 := Lib.hid (rd_on HR1.out hb); replace HR2 := Lib.hid (rd_on HR2.out hb); replace HR3 := Lib.hid (rd_on HR3.out hb); have HR4 := Lib.hid hr4; replace HK := Lib.hid (HK.out.below hb); replace HB := Lib.hid (HB.out.trans (hb.mono HB.out.size)); clear hb hr4 hg4 hc4)
    | (go_at_call 49; (with_reducible refine Calls.mono (T5.out _) ?_); rintro e w5 ⟨⟨g5, c5, rfl, hg5, hc5, hr5⟩, hb⟩; clear T5; replace HR1 := Lib.hid (rd_on HR1.out hb); replace HR2 := Lib.hid (rd_on HR2.out hb); replace HR3 := Lib.hid (rd_on HR3.out hb); replace HR4 := Lib.hid (rd_on HR4.out hb); have HR5 := Lib.hid hr5; replace HK := Lib.hid (HK.out.below hb); replace HB := Lib.hid (HB.out.trans (hb.mono HB.out.size)); clear hb hr5 hg5 hc5)
    | (go_at_call 45; refine Calls.mono (lwrap_any 99 [l1, l2, l3, l4, l5] _ 5 5 (w5.heap.size + 1) _ (lay_five HR1.out HR2.out HR3.out HR4.out HR5.out) rfl (by simp) HL.out (by simp)) ?_; rintro e wz ⟨⟨gz, cz, rfl, hgz, hcz, hrz⟩, hb⟩; have hal := (Below.refl w5.heap.size w5).alloc (Nat.le_refl _) (.cells #[.slice (some ⟨g1, 0, none⟩) l1.length c1, .slice (some ⟨g2, 0, none⟩) l2.length c2, .slice (some ⟨g3, 0, none⟩) l3.length c3, .slice (some ⟨g4, 0, none⟩) l4.length c4, .slice (some ⟨g5, 0, none⟩) l5.length c5] 26); have HG := Lib.hid (gives_on (l := elem 99 [l1, l2, l3, l4, l5].flatten) ⟨⟨gz, cz, rfl, hgz, hcz, hrz⟩, hb⟩ (HB.out.trans (hal.mono HB.out.size))); rw [flat5] at HG; replace HK := Lib.hid ((HK.out.alloc (.cells #[.slice (some ⟨g1, 0, none⟩) l1.length c1, .slice (some ⟨g2, 0, none⟩) l2.length c2, .slice (some ⟨g3, 0, none⟩) l3.length c3, .slice (some ⟨g4, 0, none⟩) l4.length c4, .slice (some ⟨g5, 0, none⟩) l5.length c5] 26)).below hb); clear hal hgz hcz hrz hb)))
  go_wp2
  go_ret
  exact HG.out
end Go.Proofs.Yteeabfplnaknfaa.Mc
end

section
set_option linter.unusedVariables false
set_option linter.unusedSimpArgs false
namespace Go.Proofs.Yteeabfplnaknfaa.Mc
open Go.RowKit Go.Proofs.Yteeabfplnaknfaa.Mem Go.Proofs.Yteeabfplnaknfaa.DerP Go.Proofs.Yteeabfplnaknfaa.DerR Go.Proofs.Yteeabfplnaknfaa.Ms

theorem bounded_ok (l : L) (A : Option Addr) (n c : Nat) (w : World) (hn : n = l.length) (h : l.length ≤ 2000) : Calls Try.prog 22 #[.slice A n c] w fun e w' => e = .returned (.tuple #[.slice A n c, .int .i64 0]) ∧ w = w' := by
  subst hn
  have t1 : decide ((2000 : Int) < (l.length : Int)) = false := decide_eq_false (by omega)
  clear h
  go_enter Try.func22, Try.ntmps22
  go_wp2
  go_ret2
  exact ⟨rfl, rfl⟩
theorem pt_len {p : Pt} (hk : p.ss.length = 32) (hx : ptB p = true) : (ptE p).length ≤ 2000 := by
  have hp := (pt_parts hx).2.1; have h3 := (pt_parts hx).2.2.1
  have b1 := (prE_len hp).1; have b2 := encI_le p.st; have b3 := encI_le p.en; have b4 := elem_len 27 p.tr; have b5 := elem_len 4 p.ss
  have := elem_len 99 [prE p.c, elem 4 p.ss, elem 27 p.tr, encI p.st, encI p.en].flatten
  rw [ptE]; rw [flat5] at this ⊢; simp only [List.length_append] at this; omega
set_option maxHeartbeats 3200000 in
theorem encpart_any (p : Pt) (w : World) (hk : p.ss.length = 32) (hs : pSm p.c) (ht : p.tr.length ≤ 1000000000) : Calls Try.prog 10 #[.agg (ptC p).toArray] w (EncR w (ptO p)) := by
  have HI := Lib.hid (show (Try.prog.info? 50).map (·.size) = some ((ptC p).toArray : Array Value).size by rw [pt_size hk]; kernel_rfl)
  have I1 := Lib.hid (fun w1 => ispart_any p w1 hk hs ht)
  have T0 := Lib.hid (fun (hx : ptB p = true) => fun w1 => laypart_any p w1 hk hx)
  have HLEN := Lib.hid (fun (hx : ptB p = true) => pt_len hk hx)
  obtain ⟨cs, ecs⟩ : ∃ cs : Array Value, cs = (ptC p).toArray := ⟨_, rfl⟩
  rw [← ecs] at HI I1 T0 ⊢
  clear ecs
  have HB := Lib.hid ((Below.refl w.heap.size w).alloc (Nat.le_refl _) (.cells cs 50))
  have HK := Lib.hid (Blk.new w 50 cs)
  cases hx : ptB p with
  | false =>
    rw [hx] at I1
    have E := Lib.hid (show ptO p = none by unfold ptO limO; rw [hx]; rfl)
    rw [E.out]
    clear hx E T0 HLEN hs hk ht
    go_enter Try.func10, Try.ntmps10
    go_wp2_with (first
      | (refine load_cells (by rfl) 50 (.tmp 1) (by rfl) w.heap.size 0 (by rfl) cs _ (range_blk HK.out) Try.underlying50 (by rfl) HI.out ?_)
      | (go_at_call 24; refine Calls.mono (I1.out _) ?_; rintro e w1 ⟨rfl, hb⟩; replace HB := Lib.hid (HB.out.trans (hb.mono HB.out.size)); clear hb I1)
      | fail)
    go_ret2
    exact enc_none HB.out
  | true =>
    rw [hx] at I1
    have T1 := Lib.hid (T0.out hx)
    have hlm := HLEN.out hx
    have E := Lib.hid (show ptO p = some (ptE p) from lim_iff.2 ⟨hx, hlm, rfl⟩)
    rw [E.out]
    obtain ⟨l, el⟩ : ∃ l, l = ptE p := ⟨_, rfl⟩
    rw [← el] at T1 hlm ⊢
    have LM := Lib.hid (fun A c w1 => bounded_ok l A _ c w1 rfl hlm)
    clear hx E el hlm T0 HLEN hs hk ht
    go_enter Try.func10, Try.ntmps10
    go_wp2_with (first
      | (refine load_cells (by rfl) 50 (.tmp 1) (by rfl) w.heap.size 0 (by rfl) cs _ (range_blk HK.out) Try.underlying50 (by rfl) HI.out ?_)
      | (go_at_call 24; refine Calls.mono (I1.out _) ?_; rintro e w1 ⟨rfl, hb⟩; replace HK := Lib.hid (HK.out.below hb); replace HB := Lib.hid (HB.out.trans (hb.mono HB.out.size)); clear hb I1)
      | (go_at_call 25; refine Calls.mono (T1.out _ ) ?_; rintro e w2 ⟨⟨g, c, rfl, h2, h3, h4⟩, hb⟩; have HG := Lib.hid (gives_on (l := l) ⟨⟨g, c, rfl, h2, h3, h4⟩, hb⟩ HB.out); clear h2 h3 h4 hb T1)
      | (go_at_call 22; refine Calls.mono (LM.out _ _ _) ?_; rintro e wy ⟨rfl, rfl⟩; clear LM)
      | fail)
    go_ret2
    exact enc_some HG.out
end Go.Proofs.Yteeabfplnaknfaa.Mc
end

section
set_option linter.unusedVariables false
namespace Go.Proofs.Yteeabfplnaknfaa.Mc
open Go.Proofs.Yteeabfplnaknfaa.DerP Go.Proofs.Yteeabfplnaknfaa.Ms

def prQ (c : Option L) : Pr × Option L := (prI (bodyC 48 c), nextC 48 c)
def keQ (c : Option L) : L × Option L := ((ocC c ++ key0).take 32, nextC 4 c)
theorem keQ_len (c : Option L) : (keQ c).1.length = 32 := by
  show ((ocC c ++ key0).take 32).length = 32
  rw [List.length_take, List.length_append, show key0.length = 32 from rfl]; omega
def ptQ (b : L) : Pt × Option L :=
  let c1 := prQ (bodyC 99 (some b)); let c2 := keQ c1.2; let c3 := nextC 27 c2.2; let c4 := nmP c3; let c5 := nmP c4.2
  (⟨c1.1, c2.1, txC c2.2, c4.1, c5.1⟩, c5.2)
theorem pr_backQ {p : Pr} (h : prB p = true) (r : L) : prQ (some (prE p ++ r)) = (p, some r) := by
  have h1 := pr_len h
  have h2 := (prE_len h).2
  rw [prQ, prE, be (by omega), ne (by omega), flat2, prI, tx_at (by omega), ne (by omega), tx_at0 (by omega)]
theorem ke_backQ {k : L} (h : k.length = 32) (r : L) : keQ (some (elem 4 k ++ r)) = (k, some r) := by
  rw [keQ, oc_at (by omega), ne (by omega), List.take_append_of_le_length (by omega), List.take_of_length_le (by omega)]
theorem pt_backQ {p : Pt} (h : ptB p = true) (hk : p.ss.length = 32) : ptQ (ptE p) = (p, some []) := by
  obtain ⟨_, h2, h3, h4, h5⟩ := pt_parts h
  have t4 := tm_parts h4; have t5 := tm_parts h5
  have l1 := (prE_len h2).1
  have l2 := elem_len 4 p.ss
  have l3 := elem_len 27 p.tr
  have l4 := encI_le p.st
  have l5 := encI_le p.en
  have l6 : [prE p.c, elem 4 p.ss, elem 27 p.tr, encI p.st, encI p.en].flatten.length ≤ 65535 := by simp only [List.flatten_cons, List.flatten_nil, List.length_append, List.length_nil]; omega
  rw [ptQ, ptE, be0 l6, flat5, pr_backQ h2]
  simp only
  rw [ke_backQ hk]
  simp only
  rw [tx_at (by omega), ne (by omega), nm_back (by omega) (by omega)]
  simp only
  rw [nm_back0 (by omega) (by omega)]
theorem ptQ_key (b : L) : (ptQ b).1.ss.length = 32 := keQ_len _
theorem pt_same (b : L) : ptD b = if ptO (ptQ b).1 = some b then some (ptQ b).1 else none := by
  split
  · rename_i h; exact (pt_iff (ptQ_key b)).2 h
  · rename_i h
    cases hd : ptD b with
    | none => rfl
    | some m =>
      exfalso
      have h2 := (pt_ok hd).1
      have h3 := lim_iff.1 h2
      apply h
      have hk : m.ss.length = 32 := by
        have := (pt_ok hd).2
        have e : (ptP b).1 = m := by rw [this]
        rw [← e]; exact ke_len _
      have e : (ptQ b).1 = m := by rw [← h3.2.2, pt_backQ h3.1 hk]
      rw [e]; exact h2
end Go.Proofs.Yteeabfplnaknfaa.Mc
end

section
set_option linter.unusedVariables false
namespace Go.Proofs.Yteeabfplnaknfaa.Mc
open Go.RowKit Go.Proofs.Yteeabfplnaknfaa.Mem Go.Proofs.Yteeabfplnaknfaa.DerP Go.Proofs.Yteeabfplnaknfaa.DerC Go.Proofs.Yteeabfplnaknfaa.Ms

def OwnB (w : World) (base : Nat) (v : Value) (l : L) : Prop :=
  ∃ b c, v = .slice (some ⟨b, 0, none⟩) l.length c ∧ l.length ≤ c ∧ base ≤ b ∧ b < w.heap.size ∧ ∀ i u, (bvs l)[i]? = some u → w.cell? ⟨b, i, none⟩ = some u
theorem OwnB.of_fresh {w : World} {base b c : Nat} {l : L} (h : Fresh w base b l) (hc : l.length ≤ c) : OwnB w base (.slice (some ⟨b, 0, none⟩) l.length c) l := by
  refine ⟨b, c, rfl, hc, h.1, h.2.1, fun i u hu => ?_⟩
  have hi : i < l.length := by
    rcases Nat.lt_or_ge i l.length with g | g
    · exact g
    · rw [List.getElem?_eq_none (by rw [bvs_length]; exact g)] at hu; cases hu
  rw [bvs_at hi] at hu
  injection hu with hu
  subst hu
  exact (h.2.2 i hi).1
theorem OwnB.keep {w w' : World} {base g : Nat} {v : Value} {l : L} (h : OwnB w base v l) (hg : w.grownBy w' (some g)) (hlt : g < base) : OwnB w' base v l := by
  obtain ⟨b, c, h1, h2, h3, h4, h5⟩ := h
  exact ⟨b, c, h1, h2, h3, Nat.lt_of_lt_of_le h4 hg.size, fun i u hu => (World.cell?_of_block (a := ⟨b, i, none⟩) (hg.block b h4 (fun e => by injection e with e; omega))).trans (h5 i u hu)⟩
theorem OwnB.below {w w' : World} {base : Nat} {v : Value} {l : L} (h : OwnB w base v l) (hb : Below w.heap.size w w') : OwnB w' base v l := by
  obtain ⟨b, c, h1, h2, h3, h4, h5⟩ := h
  exact ⟨b, c, h1, h2, h3, Nat.lt_of_lt_of_le h4 hb.size, fun i u hu => (hb.cell (p := ⟨b, i, none⟩) h4).trans (h5 i u hu)⟩
theorem OwnB.slb {w : World} {base : Nat} {v : Value} {l : L} (h : OwnB w base v l) : SlB w w.heap.size v l := by
  obtain ⟨b, c, h1, h2, h3, h4, h5⟩ := h
  exact ⟨_, c, h1, h2, .inr ⟨b, 0, rfl, h4, fun i u hu => by rw [Nat.zero_add]; exact h5 i u hu⟩⟩

theorem there_blk {w : World} {g : Nat} {t : TypeId} {cs : Array Value} (h : Blk w g t cs) (n : Nat) (hn : n ≤ cs.size) : w.there g 0 n := fun j hj => by
  rw [Nat.zero_add, h.cell, Array.getElem?_eq_getElem (by omega)]
  exact ⟨rfl, h.frozen j⟩
theorem blk_cells_aux {g : Nat} {t : TypeId} : ∀ (vs : List Value) (o : Nat) (w : World) (cs : Array Value), Blk w g t cs → o + vs.length ≤ cs.size →
    ∃ ds : Array Value, Blk (w.setCells g o vs) g t ds ∧ ds.size = cs.size ∧ (∀ i, o ≤ i → i < o + vs.length → ds[i]? = vs[i - o]?) ∧ (∀ i, i < o ∨ o + vs.length ≤ i → ds[i]? = cs[i]?)
  | [], o, w, cs, h, hl => ⟨cs, h, rfl, fun i h1 h2 => by simp at h2; omega, fun i _ => rfl⟩
  | v :: r, o, w, cs, h, hl => by
    rw [World.setCells]
    simp only [List.length_cons] at hl
    obtain ⟨ds, h1, h2, h3, h4⟩ := blk_cells_aux r (o + 1) _ _ (h.set o v) (by simp; omega)
    simp only [List.length_cons]
    refine ⟨ds, h1, by simpa using h2, fun i hi hj => ?_, fun i hi => ?_⟩
    · by_cases e : i = o
      · subst e
        rw [h4 i (by omega), Nat.sub_self]
        rw [Array.getElem?_setIfInBounds_self_of_lt (by omega)]
        rfl
      · rw [h3 i (by omega) (by omega), show i - o = (i - (o + 1)) + 1 by omega]
        simp
    · rw [h4 i (by omega)]
      exact Array.getElem?_setIfInBounds_ne (by omega)
theorem key_copied {w : World} {g : Nat} {t : TypeId} {x : L} (h : Blk w g t (bvs key0).toArray) : Blk (w.setCells g 0 (bvs (x.take 32))) g t (bvs ((x ++ key0).take 32)).toArray := by
  have hk : key0.length = 32 := rfl
  obtain ⟨es, h1, h2, h3, h4⟩ := blk_cells_aux (bvs (x.take 32)) 0 w _ h (by simp [bvs_length, hk]; omega)
  have e : es = (bvs ((x ++ key0).take 32)).toArray := by
    apply Array.ext_getElem?
    intro i
    rw [show (bvs ((x ++ key0).take 32)).toArray[i]? = (bvs ((x ++ key0).take 32))[i]? by simp]
    by_cases hi : i < (x.take 32).length
    · rw [h3 i (by omega) (by rw [bvs_length]; omega), Nat.sub_zero]
      simp only [bvs, List.getElem?_map]
      congr 1
      rw [List.length_take] at hi
      rw [List.getElem?_take_of_lt (by omega), List.getElem?_take_of_lt (by omega), List.getElem?_append_left (by omega)]
    · rw [h4 i (by rw [bvs_length]; omega), show (bvs key0).toArray[i]? = (bvs key0)[i]? by simp]
      simp only [bvs, List.getElem?_map]
      congr 1
      rw [List.length_take] at hi
      by_cases h5 : i < 32
      · rw [List.getElem?_take_of_lt h5, List.getElem?_append_right (by omega)]
        simp only [key0, List.getElem?_replicate]
        rw [if_pos h5, if_pos (by omega)]
      · rw [List.getElem?_eq_none (by rw [hk]; omega), List.getElem?_eq_none (by rw [List.length_take]; omega)]
  rw [← e]; exact h1
theorem blk_cells {w : World} {g : Nat} {t : TypeId} {cs ds : Array Value} (h : Blk w g t cs) (hs : cs.size = ds.size) : Blk (w.setCells g 0 ds.toList) g t ds := by
  obtain ⟨es, h1, h2, h3, _⟩ := blk_cells_aux ds.toList 0 w cs h (by simp; omega)
  have e : es = ds := by
    apply Array.ext_getElem?
    intro i
    by_cases hi : i < ds.size
    · rw [h3 i (by omega) (by simp; omega)]; simp
    · rw [Array.getElem?_eq_none (by omega), Array.getElem?_eq_none (by omega)]
  rw [← e]; rw [← e] at h1; exact h1
theorem g_cells {row : Option Nat} {a : World} {g : Nat} (hp : row = some g ∨ a.heap.size ≤ g) : ∀ (vs : List Value) (o : Nat) (w : World), a.grownBy w row → a.grownBy (w.setCells g o vs) row
  | [], _, _, h => h
  | v :: r, o, w, h => by rw [World.setCells]; exact g_cells hp r (o + 1) _ (g_set h (p := ⟨g, o, none⟩) hp v)
theorem put_cells (w : World) (g : Nat) (vs : List Value) : w.grownBy (w.setCells g 0 vs) (some g) := g_cells (.inl rfl) vs 0 w (World.grownBy.refl _ _)

theorem cur_lt {w : World} {g : Nat} {c : Option L} (h : Cur w g c) : g < w.heap.size := Blk.lt h
theorem cur_far {w w' : World} {g q : Nat} {c : Option L} (h : Cur w g c) (hg : w.grownBy w' (some q)) (hq : q ≠ g) : Cur w' g c := Blk.grown h hg (fun e => hq (by injection e))
theorem takeoct_any (g : Nat) (c : Option L) (w : World) (h : Cur w g c) (hs : ((c.getD []).length : Int) ≤ 100000) : Calls Try.prog 73 #[.pointer (some ⟨g, 0, none⟩)] w fun e w' =>
    (∃ v, e = .returned v ∧ OwnB w' w.heap.size v (ocC c)) ∧ Cur w' g (nextC 4 c) ∧ w.grownBy w' (some g) :=
  (octets_any g c w h hs).mono fun e w' hh => by
    obtain ⟨⟨b, cap, rfl, hc, hf⟩, h2, h3⟩ := hh
    exact ⟨⟨_, rfl, OwnB.of_fresh hf hc⟩, h2, h3⟩
theorem taketext_any (g : Nat) (c : Option L) (w : World) (h : Cur w g c) (hs : ((c.getD []).length : Int) ≤ 100000) : Calls Try.prog 55 #[.pointer (some ⟨g, 0, none⟩)] w fun e w' =>
    e = .returned (.string ⟨(txC c).toArray⟩) ∧ Cur w' g (nextC 27 c) ∧ w.grownBy w' (some g) := text_any g c w h hs
theorem nx_len (t : UInt8) {c : Option L} {n : Nat} (h : (c.getD []).length ≤ n) : ((nextC t c).getD []).length ≤ n := Nat.le_trans (body_len t c).2 h
theorem bd_len (t : UInt8) {c : Option L} {n : Nat} (h : (c.getD []).length ≤ n) : ((bodyC t c).getD []).length ≤ n := Nat.le_trans (body_len t c).1 h
theorem it_len {c : Option L} {n : Nat} (h : (c.getD []).length ≤ n) : ((intC c).2.getD []).length ≤ n := Nat.le_trans (intC_len c) h
end Go.Proofs.Yteeabfplnaknfaa.Mc
end

section
set_option linter.unusedVariables false
set_option linter.unusedSimpArgs false
namespace Go.Proofs.Yteeabfplnaknfaa.Mc
open Go.RowKit Go.Proofs.Yteeabfplnaknfaa.Mem Go.Proofs.Yteeabfplnaknfaa.DerP Go.Proofs.Yteeabfplnaknfaa.DerC Go.Proofs.Yteeabfplnaknfaa.Ms

set_option maxHeartbeats 3200000 in
theorem takeprinc_any (g : Nat) (c : Option L) (w : World) (h : Cur w g c) (hs : (c.getD []).length ≤ 100000) : Calls Try.prog 53 #[.pointer (some ⟨g, 0, none⟩)] w fun e w' => e = .returned (.agg #[.string ⟨(prQ c).1.1.toArray⟩, .string ⟨(prQ c).1.2.toArray⟩]) ∧ Cur w' g (prQ c).2 ∧ w.grownBy w' (some g) := by
  obtain ⟨W, eW⟩ : ∃ W, W = w.alloc (.cells #[.string ⟨#[]⟩, .string ⟨#[]⟩] 23) := ⟨_, rfl⟩
  have hWs : W.heap.size = w.heap.size + 1 := by rw [eW]; simp
  have HR := Lib.hid (show Blk W w.heap.size 23 #[.string ⟨#[]⟩, .string ⟨#[]⟩] by rw [eW]; exact Blk.new _ _ _)
  have hlt := cur_lt h
  have hc0 : Cur W g c := by rw [eW]; exact h.alloc _
  have HG := Lib.hid (show w.grownBy W (some g) by rw [eW]; exact g_alloc (World.grownBy.refl _ _) _)
  have c1 := into_any 48 g c W hc0 (by omega)
  have hs0 := bd_len 48 hs
  obtain ⟨s0, es0⟩ : ∃ s, s = bodyC 48 c := ⟨_, rfl⟩
  obtain ⟨r, er⟩ : ∃ s, s = nextC 48 c := ⟨_, rfl⟩
  rw [← es0] at c1 hs0
  rw [← er] at c1
  have HLT := Lib.hid hlt
  have hs1 : ((nextC 27 s0).getD []).length ≤ 100000 := nx_len 27 hs0
  have T1 := Lib.hid (fun g w h => taketext_any g s0 w h (by omega))
  obtain ⟨v1, ev1⟩ : ∃ x : L, x = txC s0 := ⟨_, rfl⟩
  obtain ⟨s1, es1⟩ : ∃ s, s = nextC 27 s0 := ⟨_, rfl⟩
  rw [← ev1, ← es1] at T1
  rw [← es1] at hs1
  have hs2 : ((nextC 27 s1).getD []).length ≤ 100000 := nx_len 27 hs1
  have T2 := Lib.hid (fun g w h => taketext_any g s1 w h (by omega))
  obtain ⟨v2, ev2⟩ : ∃ x : L, x = txC s1 := ⟨_, rfl⟩
  obtain ⟨s2, es2⟩ : ∃ s, s = nextC 27 s1 := ⟨_, rfl⟩
  rw [← ev2, ← es2] at T2
  rw [← es2] at hs2
  have FV1 := Lib.hid (show (prQ c).1.1 = v1 by rw [ev1, es0]; rfl)
  have FV2 := Lib.hid (show (prQ c).1.2 = v2 by rw [ev2, es1, es0]; rfl)
  have FS := Lib.hid (show (prQ c).2 = r by rw [er]; rfl)
  rw [FV1.out, FV2.out, FS.out]
  clear h hs hs0 hs1 hs2 FV1 ev1 es1 FV2 ev2 es2 es0 FS hlt er hc0
  have HWS := Lib.hid hWs
  clear hWs
  subst eW
  go_enter Try.func53, Try.ntmps53
  go_wp2_with (first
    | (go_at_call 52; refine Calls.mono c1 ?_; rintro e wi ⟨⟨gd, rfl, hgd, hd⟩, hc, hg⟩; clear c1; have HD := Lib.hid hd; have HC := Lib.hid hc; have HGD := Lib.hid (show w.heap.size + 1 ≤ gd by have := HWS.out; omega); have HDL := Lib.hid (cur_lt hd); replace HR := Lib.hid (HR.out.grown hg (by intro e; injection e with e; have := HLT.out; omega)); replace HG := Lib.hid (g_same HG.out hg); clear hgd hd hc hg)
    | (go_at_call 55; (with_reducible refine Calls.mono (T1.out _ _ HD.out) ?_); rintro e w1 ⟨rfl, hd, hg⟩; clear T1; replace HD := Lib.hid hd; replace HR := Lib.hid (HR.out.grown hg (by intro e; injection e with e; have := HGD.out; omega)); replace HC := Lib.hid (cur_far HC.out hg (by have := HGD.out; have := HLT.out; omega)); replace HG := Lib.hid (g_new HG.out hg (by have := HGD.out; omega)); replace HDL := Lib.hid (Nat.lt_of_lt_of_le HDL.out hg.size); clear hd hg)
    | (go_at_call 55; (with_reducible refine Calls.mono (T2.out _ _ HD.out) ?_); rintro e w2 ⟨rfl, hd, hg⟩; clear T2; replace HD := Lib.hid hd; replace HR := Lib.hid (HR.out.grown hg (by intro e; injection e with e; have := HGD.out; omega)); replace HC := Lib.hid (cur_far HC.out hg (by have := HGD.out; have := HLT.out; omega)); replace HG := Lib.hid (g_new HG.out hg (by have := HGD.out; omega)); replace HDL := Lib.hid (Nat.lt_of_lt_of_le HDL.out hg.size); clear hd hg; have n0 : w2.cell? ⟨w.heap.size, 0, none⟩ = some (.string ⟨#[]⟩) := HR.out.cell 0; have y0 := HR.out.frozen 0; have n1 : w2.cell? ⟨w.heap.size, 1, none⟩ = some (.string ⟨#[]⟩) := HR.out.cell 1; have y1 := HR.out.frozen 1)
    | fail)
  have hE : Blk ((w2.setCell ⟨w.heap.size, 0, none⟩ (.string ⟨v1.toArray⟩)).setCell ⟨w.heap.size, 1, none⟩ (.string ⟨v2.toArray⟩)) w.heap.size 23 #[.string ⟨v1.toArray⟩, .string ⟨v2.toArray⟩] := ((HR.out.set 0 (.string ⟨v1.toArray⟩)).set 1 (.string ⟨v2.toArray⟩))
  have hp := (g_set (g_set (World.grownBy.refl w2 (some w.heap.size)) (p := ⟨w.heap.size, 0, none⟩) (.inl rfl) (.string ⟨v1.toArray⟩)) (p := ⟨w.heap.size, 1, none⟩) (.inl rfl) (.string ⟨v2.toArray⟩))
  have hq := load_blk (P := Try.prog) hE Try.underlying23 rfl (by kernel_rfl)
  refine bodyPost_ret (v := .agg #[.string ⟨v1.toArray⟩, .string ⟨v2.toArray⟩]) ?_ ?_ ?_
  · exact results_cell 2 23 ⟨w.heap.size, 0, none⟩ Try.results53 rfl hq
  · rfl
  exact ⟨rfl, cur_far HC.out hp (by have := HLT.out; omega), g_new HG.out hp (Nat.le_refl _)⟩
end Go.Proofs.Yteeabfplnaknfaa.Mc
end
