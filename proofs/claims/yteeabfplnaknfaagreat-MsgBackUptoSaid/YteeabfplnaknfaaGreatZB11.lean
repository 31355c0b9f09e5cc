import Derived.Deep.LoopGhost
import Derived.Test.YteeabfplnaknfaaGreatZB1
import Derived.Test.YteeabfplnaknfaaGreatZB2
import Derived.Test.YteeabfplnaknfaaGreatZB3
import Derived.Test.YteeabfplnaknfaaGreatZB4
import Derived.Test.YteeabfplnaknfaaGreatZB5
import Derived.Test.YteeabfplnaknfaaGreatZB6
import Derived.Test.YteeabfplnaknfaaGreatZB7
import Derived.Test.YteeabfplnaknfaaGreatZB9
import Derived.Test.YteeabfplnaknfaaGreatZB10
section
set_option linter.unusedVariables false
set_option linter.unusedSimpArgs false
namespace Go.Proofs.YteeabfplnaknfaaGreat.Ms
open Go.RowKit Go.Proofs.YteeabfplnaknfaaGreat.Mem Go.Proofs.YteeabfplnaknfaaGreat.DerP Go.Proofs.YteeabfplnaknfaaGreat.DerR

theorem below_put {B : Nat} {w w2 : World} {g j : Nat} {u : Value} (h : Below B w w2) (hg : B ≤ g) : Below B w (w2.setCell ⟨g, j, none⟩ u) :=
  ⟨h.os, h.tape, h.output, by simpa [World.setCell] using h.size, fun i hi => (Below.heap_setCell w2 _ u i (by simp only; omega)).trans (h.block i hi)⟩
theorem results_pair {P : Program} {fn : Func} {tmps : Array Value} {w : World} {v u : Value} (t q : Nat) (ty : TypeId) (a : Addr) (hres : fn.results = #[.cell t ty, .tmp q]) (ht : tmps.getD t undef = .pointer (some a)) (hl : (loadVar ty a).run P w = .ok v w) (hq : tmps.getD q undef = u) :
    (results fn tmps).run P w = .ok (.tuple #[v, u]) w := by
  have ht' : tmps[t]?.getD undef = .pointer (some a) := by simpa using ht
  have hq' : tmps[q]?.getD undef = u := by simpa using hq
  simp [results, hres, ht', hq', asAddr, hl]
def anG (b : L) : An := (anD b).getD an0
def anI (b : L) : Int := if (anD b).isSome then 0 else 2
set_option maxHeartbeats 6400000 in
theorem rdecauthn_any (b : L) (A : Option Addr) (c : Nat) (w : World) (hr : Rd w w.heap.size A (bvs b)) (hc : b.length ≤ c) (hl : b.length ≤ 3000) :
    Calls Tryz.prog 26 #[.slice A b.length c] w fun e w' => e = .returned (.tuple #[.agg #[.string ⟨(anG b).c.1.toArray⟩, .string ⟨(anG b).c.2.toArray⟩, .int .i64 (anG b).t, .int .i64 (anG b).q], .int .i64 (anI b)]) ∧ Below w.heap.size w w' := by
  obtain ⟨W, eW⟩ : ∃ W, W = (w.alloc (.cells #[.string ⟨#[]⟩, .string ⟨#[]⟩, .int .i64 0, .int .i64 0] 57)).alloc (.cells #[.slice A b.length c, .bool false] 100) := ⟨_, rfl⟩
  have hWs : W.heap.size = w.heap.size + 1 + 1 := by rw [eW]; simp
  have hbW : Below w.heap.size w W := by rw [eW]; exact ((Below.refl _ _).alloc (Nat.le_refl _) _).alloc (by simp) _
  have hcu := Blk.new (w.alloc (.cells #[.string ⟨#[]⟩, .string ⟨#[]⟩, .int .i64 0, .int .i64 0] 57)) 100 #[.slice A b.length c, .bool false]
  rw [show (w.alloc (.cells #[.string ⟨#[]⟩, .string ⟨#[]⟩, .int .i64 0, .int .i64 0] 57)).heap.size = w.heap.size + 1 by simp, ← eW] at hcu
  have hrc : RC W w.heap.size (w.heap.size + 1) (some b) := ⟨A, b.length, c, false, hcu, rfl, rfl, hc, hr.below hbW⟩
  have HG := Lib.hid hbW
  have HR := Lib.hid (show Blk W w.heap.size 57 #[.string ⟨#[]⟩, .string ⟨#[]⟩, .int .i64 0, .int .i64 0] by rw [eW]; exact (Blk.new _ _ _).alloc _)
  have c1 := rinto_any 98 w.heap.size (w.heap.size + 1) (some b) W hrc (by omega) (by omega) (by show b.length ≤ 100000; omega)
  have HBW := Lib.hid (show w.heap.size ≤ W.heap.size by omega)
  have HWS := Lib.hid hWs
  have HRD := Lib.hid (fun w1 (h : Below w.heap.size w w1) => hr.below h)
  have hl1 := (body_len 98 (some b)).1
  have hb0 : ((some b : Option L).getD []).length = b.length := rfl
  have EP := Lib.hid (show (anP b).1 = ⟨(prP (bodyC 98 (some b))).1, ((intC (prP (bodyC 98 (some b))).2).1 : Int), ((intC (intC (prP (bodyC 98 (some b))).2).2).1 : Int)⟩ from rfl)
  obtain ⟨d, ed⟩ : ∃ d, d = bodyC 98 (some b) := ⟨_, rfl⟩
  rw [← ed] at c1 hl1 EP
  have hl2 := prP_len d
  have hl3 := intC_len (prP d).2
  have hq1 := (body_len 48 d).1
  have HL1 := Lib.hid (show (d.getD []).length ≤ 100000 by omega)
  have HL2 := Lib.hid (show ((prP d).2.getD []).length ≤ 100000 by omega)
  have HL3 := Lib.hid (show ((intC (prP d).2).2.getD []).length ≤ 100000 by omega)
  have T1 := Lib.hid (fun B g w h h1 h2 => (rtoprinc_any B g d w h h1 h2 HL1.out))
  have T2 := Lib.hid (fun B g w h h1 h2 => (rint_any B g (prP d).2 w h h1 h2 HL2.out))
  have T3 := Lib.hid (fun B g w h h1 h2 => (rint_any B g (intC (prP d).2).2 w h h1 h2 HL3.out))
  unfold Ints at T2 T3
  have hpl : pSm (prP d).1 := by
    have e1 : (prP d).1 = (txC (bodyC 48 d), txC (nextC 27 (bodyC 48 d))) := rfl
    have e2 := (body_len 27 (bodyC 48 d)).1
    have e3 := (body_len 27 (bodyC 48 d)).2
    have e4 := (body_len 27 (nextC 27 (bodyC 48 d))).1
    rw [e1]
    exact ⟨by show ((bodyC 27 (bodyC 48 d)).getD []).length ≤ 1000000000; omega, by show ((bodyC 27 (nextC 27 (bodyC 48 d))).getD []).length ≤ 1000000000; omega⟩
  obtain ⟨t1, et1⟩ : ∃ t, t = (prP d).1 := ⟨_, rfl⟩
  obtain ⟨t2, et2⟩ : ∃ t : Int, t = ((intC (prP d).2).1 : Int) := ⟨_, rfl⟩
  obtain ⟨t3, et3⟩ : ∃ t : Int, t = ((intC (intC (prP d).2).2).1 : Int) := ⟨_, rfl⟩
  rw [← et1] at T1 EP hpl
  rw [← et2] at T2 EP
  rw [← et3] at T3 EP
  have EN := Lib.hid (fun w1 => rencauthn_any ⟨t1, t2, t3⟩ w1 hpl)
  have ED := Lib.hid (show anD b = if anO (anP b).1 = some b then some (anP b).1 else none from rfl)
  rw [EP.out] at ED
  clear hr hWs hbW hcu hrc hl1 hb0 hl2 hl3 hq1 hpl HL1 HL2 HL3 EP ed et1 et2 et3
  subst eW
  go_enter Tryz.func26, Tryz.ntmps26
  go_upto_region 4 with (first
    | (go_at_call 45; refine Calls.mono c1 ?_; rintro e w2 ⟨⟨gd, rfl, hgd, hd⟩, hc2, hg2⟩; clear c1; have HD := Lib.hid hd; have HGD := Lib.hid (show w.heap.size + 2 ≤ gd by have := HWS.out; omega); replace HR := Lib.hid (HR.out.grown hg2 (by intro e; injection e with e; omega)); replace HG := Lib.hid (below_g HG.out hg2 HBW.out (by omega)); replace HBW := Lib.hid (Nat.le_trans HBW.out hg2.size); have HDL := Lib.hid (rc_lt hd); clear hgd hd hc2 hg2)
    | (go_at_call 46; refine Calls.mono (T1.out w.heap.size gd _ HD.out HBW.out (by have := HGD.out; omega)) ?_; rintro e w3 ⟨rfl, hd, hg3⟩; clear T1; replace HD := Lib.hid hd; replace HR := Lib.hid (HR.out.grown hg3 (by intro e; injection e with e; have := HGD.out; omega)); replace HG := Lib.hid (below_g HG.out hg3 HBW.out (by have := HGD.out; omega)); replace HBW := Lib.hid (Nat.le_trans HBW.out hg3.size); replace HDL := Lib.hid (rc_lt hd); clear hd hg3))
  obtain ⟨P, eP⟩ : ∃ P, P = w3.heap.size := ⟨_, rfl⟩
  obtain ⟨W4, e4⟩ : ∃ W4, W4 = w3.alloc (.cells #[.string ⟨t1.1.toArray⟩, .string ⟨t1.2.toArray⟩, .int .i64 0, .int .i64 0] 57) := ⟨_, rfl⟩
  have HPB := Lib.hid (show Blk W4 P 57 #[.string ⟨t1.1.toArray⟩, .string ⟨t1.2.toArray⟩, .int .i64 0, .int .i64 0] by rw [e4, eP]; exact Blk.new _ _ _)
  have h4s : W4.heap.size = P + 1 := by rw [e4, eP]; simp
  have HPG := Lib.hid (show gd < P by rw [eP]; exact HDL.out)
  have HNP := Lib.hid (show w.heap.size < P by have := HPG.out; have := HGD.out; omega)
  replace HD := Lib.hid (show RC W4 w.heap.size gd _ by rw [e4]; exact rc_alloc HD.out HBW.out _)
  replace HR := Lib.hid (show Blk W4 w.heap.size 57 _ by rw [e4]; exact HR.out.alloc _)
  replace HG := Lib.hid (show Below w.heap.size w W4 by rw [e4]; exact HG.out.alloc HBW.out _)
  replace HBW := Lib.hid (show w.heap.size ≤ W4.heap.size by have := HNP.out; omega)
  rw [← e4, ← eP]
  clear e4 eP h4s
  go_upto_region 5 with (go_at_call 47; refine Calls.mono (T2.out w.heap.size gd _ HD.out HBW.out (by have := HGD.out; omega)) ?_; rintro e w5 ⟨rfl, hd, hg3⟩; clear T2; replace HD := Lib.hid hd; replace HR := Lib.hid (HR.out.grown hg3 (by intro e; injection e with e; have := HGD.out; omega)); replace HG := Lib.hid (below_g HG.out hg3 HBW.out (by have := HGD.out; omega)); replace HBW := Lib.hid (Nat.le_trans HBW.out hg3.size); replace HPB := Lib.hid (HPB.out.grown hg3 (by intro e; injection e with e; have := HPG.out; omega)); have f0 := HPB.out.frozen 2; have k9 : w5.cell? ⟨P, 2, none⟩ = some (.int .i64 0) := HPB.out.cell 2; clear hd hg3)
  have H1 := Lib.hid (show Blk (w5.setCell ⟨P, 2, none⟩ (.int .i64 t2)) P 57 #[.string ⟨t1.1.toArray⟩, .string ⟨t1.2.toArray⟩, .int .i64 t2, .int .i64 0] from HPB.out.set 2 (.int .i64 t2))
  have H2 := Lib.hid (rc_set (j := 2) (u := .int .i64 t2) HD.out (q := P) (by have := HPG.out; omega) HBW.out (by have := HNP.out; omega))
  have H4 := Lib.hid (show Blk (w5.setCell ⟨P, 2, none⟩ (.int .i64 t2)) w.heap.size 57 _ from (Below.heap_setCell w5 _ _ w.heap.size (fun e => by have := HNP.out; simp only at e; omega)).trans HR.out)
  have H5 := Lib.hid (below_put (j := 2) (u := .int .i64 t2) HG.out (show w.heap.size ≤ P by have := HNP.out; omega))
  have H6 := Lib.hid (show w.heap.size ≤ (w5.setCell ⟨P, 2, none⟩ (.int .i64 t2)).heap.size from Nat.le_trans HBW.out (g_set (World.grownBy.refl w5 (some P)) (p := ⟨P, 2, none⟩) (.inl rfl) (.int .i64 t2)).size)
  obtain ⟨V, eV⟩ : ∃ V, V = w5.setCell ⟨P, 2, none⟩ (.int .i64 t2) := ⟨_, rfl⟩
  rw [← eV] at H1 H2 H4 H5 H6 ⊢
  clear eV k9 f0 HPB HD HR HG HBW
  have HPB := H1; have HD := H2; have HR := H4; have HG := H5; have HBW := H6
  clear H1 H2 H4 H5 H6
  go_upto_region 6 with (go_at_call 47; refine Calls.mono (T3.out w.heap.size gd _ HD.out HBW.out (by have := HGD.out; omega)) ?_; rintro e w6 ⟨rfl, hd, hg3⟩; clear T3; replace HD := Lib.hid hd; replace HR := Lib.hid (HR.out.grown hg3 (by intro e; injection e with e; have := HGD.out; omega)); replace HG := Lib.hid (below_g HG.out hg3 HBW.out (by have := HGD.out; omega)); replace HBW := Lib.hid (Nat.le_trans HBW.out hg3.size); replace HPB := Lib.hid (HPB.out.grown hg3 (by intro e; injection e with e; have := HPG.out; omega)); have f0 := HPB.out.frozen 3; have k9 : w6.cell? ⟨P, 3, none⟩ = some (.int .i64 0) := HPB.out.cell 3; clear hd hg3)
  have H1 := Lib.hid (show Blk (w6.setCell ⟨P, 3, none⟩ (.int .i64 t3)) P 57 #[.string ⟨t1.1.toArray⟩, .string ⟨t1.2.toArray⟩, .int .i64 t2, .int .i64 t3] from HPB.out.set 3 (.int .i64 t3))
  have H2 := Lib.hid (rc_set (j := 3) (u := .int .i64 t3) HD.out (q := P) (by have := HPG.out; omega) HBW.out (by have := HNP.out; omega))
  have H4 := Lib.hid (show Blk (w6.setCell ⟨P, 3, none⟩ (.int .i64 t3)) w.heap.size 57 _ from (Below.heap_setCell w6 _ _ w.heap.size (fun e => by have := HNP.out; simp only at e; omega)).trans HR.out)
  have H5 := Lib.hid (below_put (j := 3) (u := .int .i64 t3) HG.out (show w.heap.size ≤ P by have := HNP.out; omega))
  have H6 := Lib.hid (show w.heap.size ≤ (w6.setCell ⟨P, 3, none⟩ (.int .i64 t3)).heap.size from Nat.le_trans HBW.out (g_set (World.grownBy.refl w6 (some P)) (p := ⟨P, 3, none⟩) (.inl rfl) (.int .i64 t3)).size)
  obtain ⟨V, eV⟩ : ∃ V, V = w6.setCell ⟨P, 3, none⟩ (.int .i64 t3) := ⟨_, rfl⟩
  rw [← eV] at H1 H2 H4 H5 H6 ⊢
  clear eV k9 f0 HPB HD HR HG HBW
  have HPB := H1; have HD := H2; have HR := H4; have HG := H5; have HBW := H6
  clear H1 H2 H4 H5 H6
  have p0 : V.cell? ⟨P, 0, none⟩ = some (.string ⟨t1.1.toArray⟩) := HPB.out.cell 0
  have p1 : V.cell? ⟨P, 1, none⟩ = some (.string ⟨t1.2.toArray⟩) := HPB.out.cell 1
  have p2 : V.cell? ⟨P, 2, none⟩ = some (.int .i64 t2) := HPB.out.cell 2
  have p3 : V.cell? ⟨P, 3, none⟩ = some (.int .i64 t3) := HPB.out.cell 3
  cases ho : anO ⟨t1, t2, t3⟩ with
  | none =>
    rw [ho] at EN
    have ED2 := Lib.hid (show anD b = none by rw [ED.out, ho] <;> rfl)
    clear ED ho
    have GE := Lib.hid (show anG b = an0 by rw [anG, ED2.out]; rfl); have IE := Lib.hid (show anI b = 2 by rw [anI, ED2.out]; rfl)
    go_wp2_with (go_at_call 20; refine Calls.mono (EN.out _) ?_; rintro e we ⟨⟨v, i, rfl, hn, hsm⟩, hb⟩; obtain ⟨rfl, rfl⟩ := hn rfl; clear EN p0 p1 p2 p3; replace HPB := Lib.hid (HPB.out.below hb); replace HR := Lib.hid (HR.out.below hb); replace HG := Lib.hid (HG.out.trans (hb.mono HBW.out)); clear hb hn hsm; have p0 : we.cell? ⟨P, 0, none⟩ = some (.string ⟨t1.1.toArray⟩) := HPB.out.cell 0; have n0 : we.cell? ⟨w.heap.size, 0, none⟩ = some (.string ⟨#[]⟩) := HR.out.cell 0; have z0 := HR.out.frozen 0; have p1 : we.cell? ⟨P, 1, none⟩ = some (.string ⟨t1.2.toArray⟩) := HPB.out.cell 1; have n1 : we.cell? ⟨w.heap.size, 1, none⟩ = some (.string ⟨#[]⟩) := HR.out.cell 1; have z1 := HR.out.frozen 1; have p2 : we.cell? ⟨P, 2, none⟩ = some (.int .i64 t2) := HPB.out.cell 2; have n2 : we.cell? ⟨w.heap.size, 2, none⟩ = some (.int .i64 0) := HR.out.cell 2; have z2 := HR.out.frozen 2; have p3 : we.cell? ⟨P, 3, none⟩ = some (.int .i64 t3) := HPB.out.cell 3; have n3 : we.cell? ⟨w.heap.size, 3, none⟩ = some (.int .i64 0) := HR.out.cell 3; have z3 := HR.out.frozen 3)
    have hE : Blk ((((we.setCell ⟨w.heap.size, 0, none⟩ (.string ⟨#[]⟩)).setCell ⟨w.heap.size, 1, none⟩ (.string ⟨#[]⟩)).setCell ⟨w.heap.size, 2, none⟩ (.int .i64 0)).setCell ⟨w.heap.size, 3, none⟩ (.int .i64 0)) w.heap.size 57 #[.string ⟨#[]⟩, .string ⟨#[]⟩, .int .i64 0, .int .i64 0] := ((((HR.out.set 0 _).set 1 _).set 2 _).set 3 _)
    have hq := load_blk (P := Tryz.prog) hE Tryz.underlying57 rfl (by kernel_rfl)
    refine bodyPost_ret (v := .tuple #[.agg #[.string ⟨#[]⟩, .string ⟨#[]⟩, .int .i64 0, .int .i64 0], .int .i64 2]) ?_ ?_ ?_
    · exact results_pair (v := .agg #[.string ⟨#[]⟩, .string ⟨#[]⟩, .int .i64 0, .int .i64 0]) 2 3 57 ⟨w.heap.size, 0, none⟩ Tryz.results26 rfl hq rfl
    · rfl
    exact ⟨by rw [GE.out, IE.out] <;> rfl, (below_put (below_put (below_put (below_put HG.out (Nat.le_refl _)) (Nat.le_refl _)) (Nat.le_refl _)) (Nat.le_refl _))⟩
  | some l =>
    rw [ho] at EN
    by_cases hlb : l = b
    · have tb : (l == b) = true := by simpa using hlb
      have ED2 := Lib.hid (show anD b = some ⟨t1, t2, t3⟩ by rw [ED.out, ho, if_pos (by rw [hlb])])
      clear ED ho hlb
      have GE := Lib.hid (show anG b = ⟨t1, t2, t3⟩ by rw [anG, ED2.out]; rfl); have IE := Lib.hid (show anI b = 0 by rw [anI, ED2.out]; rfl)
      go_wp2_with (go_at_call 20; refine Calls.mono (EN.out _) ?_; rintro e we ⟨⟨v, i, rfl, hn, hsm⟩, hb⟩; obtain ⟨rfl, gx, cx, rfl, hgx, hcx, hrx⟩ := hsm l rfl; clear EN p0 p1 p2 p3; replace HPB := Lib.hid (HPB.out.below hb); replace HR := Lib.hid (HR.out.below hb); replace HG := Lib.hid (HG.out.trans (hb.mono HBW.out)); clear hb hn hsm; have p0 : we.cell? ⟨P, 0, none⟩ = some (.string ⟨t1.1.toArray⟩) := HPB.out.cell 0; have n0 : we.cell? ⟨w.heap.size, 0, none⟩ = some (.string ⟨#[]⟩) := HR.out.cell 0; have z0 := HR.out.frozen 0; have p1 : we.cell? ⟨P, 1, none⟩ = some (.string ⟨t1.2.toArray⟩) := HPB.out.cell 1; have n1 : we.cell? ⟨w.heap.size, 1, none⟩ = some (.string ⟨#[]⟩) := HR.out.cell 1; have z1 := HR.out.frozen 1; have p2 : we.cell? ⟨P, 2, none⟩ = some (.int .i64 t2) := HPB.out.cell 2; have n2 : we.cell? ⟨w.heap.size, 2, none⟩ = some (.int .i64 0) := HR.out.cell 2; have z2 := HR.out.frozen 2; have p3 : we.cell? ⟨P, 3, none⟩ = some (.int .i64 t3) := HPB.out.cell 3; have n3 : we.cell? ⟨w.heap.size, 3, none⟩ = some (.int .i64 0) := HR.out.cell 3; have z3 := HR.out.frozen 3; have hcv1 := run_bytes_str (P := Tryz.prog) we 26 5 Tryz.underlying26 Tryz.underlying5 hrx l.length cx rfl 9 Tryz.underlying9; have hcv2 := run_bytes_str (P := Tryz.prog) we 26 5 Tryz.underlying26 Tryz.underlying5 (HRD.out we HG.out) b.length c rfl 9 Tryz.underlying9)
      have hE : Blk ((((we.setCell ⟨w.heap.size, 0, none⟩ (.string ⟨t1.1.toArray⟩)).setCell ⟨w.heap.size, 1, none⟩ (.string ⟨t1.2.toArray⟩)).setCell ⟨w.heap.size, 2, none⟩ (.int .i64 t2)).setCell ⟨w.heap.size, 3, none⟩ (.int .i64 t3)) w.heap.size 57 #[.string ⟨t1.1.toArray⟩, .string ⟨t1.2.toArray⟩, .int .i64 t2, .int .i64 t3] := ((((HR.out.set 0 _).set 1 _).set 2 _).set 3 _)
      have hq := load_blk (P := Tryz.prog) hE Tryz.underlying57 rfl (by kernel_rfl)
      refine bodyPost_ret (v := .tuple #[.agg #[.string ⟨t1.1.toArray⟩, .string ⟨t1.2.toArray⟩, .int .i64 t2, .int .i64 t3], .int .i64 0]) ?_ ?_ ?_
      · exact results_pair (v := .agg #[.string ⟨t1.1.toArray⟩, .string ⟨t1.2.toArray⟩, .int .i64 t2, .int .i64 t3]) 2 3 57 ⟨w.heap.size, 0, none⟩ Tryz.results26 rfl hq rfl
      · rfl
      exact ⟨by rw [GE.out, IE.out] <;> rfl, (below_put (below_put (below_put (below_put HG.out (Nat.le_refl _)) (Nat.le_refl _)) (Nat.le_refl _)) (Nat.le_refl _))⟩
    · have tb : (l == b) = false := by simpa using hlb
      have ED2 := Lib.hid (show anD b = none by rw [ED.out, ho, if_neg (fun h => hlb (Option.some.inj h))])
      clear ED ho hlb
      have GE := Lib.hid (show anG b = an0 by rw [anG, ED2.out]; rfl); have IE := Lib.hid (show anI b = 2 by rw [anI, ED2.out]; rfl)
      go_wp2_with (go_at_call 20; refine Calls.mono (EN.out _) ?_; rintro e we ⟨⟨v, i, rfl, hn, hsm⟩, hb⟩; obtain ⟨rfl, gx, cx, rfl, hgx, hcx, hrx⟩ := hsm l rfl; clear EN p0 p1 p2 p3; replace HPB := Lib.hid (HPB.out.below hb); replace HR := Lib.hid (HR.out.below hb); replace HG := Lib.hid (HG.out.trans (hb.mono HBW.out)); clear hb hn hsm; have p0 : we.cell? ⟨P, 0, none⟩ = some (.string ⟨t1.1.toArray⟩) := HPB.out.cell 0; have n0 : we.cell? ⟨w.heap.size, 0, none⟩ = some (.string ⟨#[]⟩) := HR.out.cell 0; have z0 := HR.out.frozen 0; have p1 : we.cell? ⟨P, 1, none⟩ = some (.string ⟨t1.2.toArray⟩) := HPB.out.cell 1; have n1 : we.cell? ⟨w.heap.size, 1, none⟩ = some (.string ⟨#[]⟩) := HR.out.cell 1; have z1 := HR.out.frozen 1; have p2 : we.cell? ⟨P, 2, none⟩ = some (.int .i64 t2) := HPB.out.cell 2; have n2 : we.cell? ⟨w.heap.size, 2, none⟩ = some (.int .i64 0) := HR.out.cell 2; have z2 := HR.out.frozen 2; have p3 : we.cell? ⟨P, 3, none⟩ = some (.int .i64 t3) := HPB.out.cell 3; have n3 : we.cell? ⟨w.heap.size, 3, none⟩ = some (.int .i64 0) := HR.out.cell 3; have z3 := HR.out.frozen 3; have hcv1 := run_bytes_str (P := Tryz.prog) we 26 5 Tryz.underlying26 Tryz.underlying5 hrx l.length cx rfl 9 Tryz.underlying9; have hcv2 := run_bytes_str (P := Tryz.prog) we 26 5 Tryz.underlying26 Tryz.underlying5 (HRD.out we HG.out) b.length c rfl 9 Tryz.underlying9)
      have hE : Blk ((((we.setCell ⟨w.heap.size, 0, none⟩ (.string ⟨#[]⟩)).setCell ⟨w.heap.size, 1, none⟩ (.string ⟨#[]⟩)).setCell ⟨w.heap.size, 2, none⟩ (.int .i64 0)).setCell ⟨w.heap.size, 3, none⟩ (.int .i64 0)) w.heap.size 57 #[.string ⟨#[]⟩, .string ⟨#[]⟩, .int .i64 0, .int .i64 0] := ((((HR.out.set 0 _).set 1 _).set 2 _).set 3 _)
      have hq := load_blk (P := Tryz.prog) hE Tryz.underlying57 rfl (by kernel_rfl)
      refine bodyPost_ret (v := .tuple #[.agg #[.string ⟨#[]⟩, .string ⟨#[]⟩, .int .i64 0, .int .i64 0], .int .i64 2]) ?_ ?_ ?_
      · exact results_pair (v := .agg #[.string ⟨#[]⟩, .string ⟨#[]⟩, .int .i64 0, .int .i64 0]) 2 3 57 ⟨w.heap.size, 0, none⟩ Tryz.results26 rfl hq rfl
      · rfl
      exact ⟨by rw [GE.out, IE.out] <;> rfl, (below_put (below_put (below_put (below_put HG.out (Nat.le_refl _)) (Nat.le_refl _)) (Nat.le_refl _)) (Nat.le_refl _))⟩
end Go.Proofs.YteeabfplnaknfaaGreat.Ms
end

section
set_option linter.unusedVariables false
set_option linter.unusedSimpArgs false
namespace Go.Proofs.YteeabfplnaknfaaGreat.Ms
open Go.RowKit Go.Proofs.YteeabfplnaknfaaGreat.Mem Go.Proofs.YteeabfplnaknfaaGreat.DerP

set_option maxHeartbeats 1600000 in
theorem rsamet_any (t u : Tk) (A A2 : Option Addr) (c c2 B : Nat) (w : World) (hr : Rd w B A (bvs t.b)) (hr2 : Rd w B A2 (bvs u.b)) (hB : B ≤ w.heap.size) : Calls Tryz.prog 50 #[.agg #[.string ⟨t.s.1.toArray⟩, .string ⟨t.s.2.toArray⟩, .int .i64 t.k, .slice A t.b.length c], .agg #[.string ⟨u.s.1.toArray⟩, .string ⟨u.s.2.toArray⟩, .int .i64 u.k, .slice A2 u.b.length c2]] w fun e w' => e = .returned (.bool (decide (t = u))) ∧ Below w.heap.size w w' := by
  obtain ⟨⟨r, n⟩, k, b⟩ := t
  obtain ⟨⟨r2, n2⟩, k2, b2⟩ := u
  simp only at hr hr2 ⊢
  have HB := Lib.hid (((Below.refl w.heap.size w).alloc (Nat.le_refl _) (.cells #[.string ⟨List.toArray r⟩, .string ⟨List.toArray n⟩, .int .i64 k, .slice A b.length c] 28)).alloc (by simp) (.cells #[.string ⟨List.toArray r2⟩, .string ⟨List.toArray n2⟩, .int .i64 k2, .slice A2 b2.length c2] 28))
  have hcv1 := run_bytes_str (P := Tryz.prog) ((w.alloc (.cells #[.string ⟨List.toArray r⟩, .string ⟨List.toArray n⟩, .int .i64 k, .slice A b.length c] 28)).alloc (.cells #[.string ⟨List.toArray r2⟩, .string ⟨List.toArray n2⟩, .int .i64 k2, .slice A2 b2.length c2] 28)) 26 5 Tryz.underlying26 Tryz.underlying5 ((hr.alloc hB _).alloc (by simp; omega) _) b.length c rfl 9 Tryz.underlying9
  have hcv2 := run_bytes_str (P := Tryz.prog) ((w.alloc (.cells #[.string ⟨List.toArray r⟩, .string ⟨List.toArray n⟩, .int .i64 k, .slice A b.length c] 28)).alloc (.cells #[.string ⟨List.toArray r2⟩, .string ⟨List.toArray n2⟩, .int .i64 k2, .slice A2 b2.length c2] 28)) 26 5 Tryz.underlying26 Tryz.underlying5 ((hr2.alloc hB _).alloc (by simp; omega) _) b2.length c2 rfl 9 Tryz.underlying9
  clear hr hr2 hB
  by_cases e1 : r = r2
  · subst e1
    by_cases e2 : n = n2
    · subst e2
      by_cases e3 : k = k2
      · subst e3
        have t3 : (k == k) = true := by simp
        by_cases e4 : b = b2
        · have t4 : (b == b2) = true := by simpa using e4
          have E := Lib.hid (show decide ((⟨(r, n), k, b⟩ : Tk) = ⟨(r, n), k, b2⟩) = true from decide_eq_true (by rw [e4]))
          clear e4
          go_enter Tryz.func50, Tryz.ntmps50
          go_wp2
          go_ret
          exact ⟨by rw [E.out]; rfl, HB.out⟩
        · have t4 : (b == b2) = false := by simpa using e4
          have E := Lib.hid (show decide ((⟨(r, n), k, b⟩ : Tk) = ⟨(r, n), k, b2⟩) = false from decide_eq_false (fun h => e4 (congrArg Tk.b h)))
          clear e4
          go_enter Tryz.func50, Tryz.ntmps50
          go_wp2
          go_ret
          exact ⟨by rw [E.out]; rfl, HB.out⟩
      · have t3 : (k == k2) = false := by simpa using e3
        have E := Lib.hid (show decide ((⟨(r, n), k, b⟩ : Tk) = ⟨(r, n), k2, b2⟩) = false from decide_eq_false (fun h => e3 (congrArg Tk.k h)))
        go_enter Tryz.func50, Tryz.ntmps50
        go_wp2
        go_ret
        exact ⟨by rw [E.out]; rfl, HB.out⟩
    · have E := Lib.hid (show decide ((⟨(r, n), k, b⟩ : Tk) = ⟨(r, n2), k2, b2⟩) = false from decide_eq_false (fun h => e2 (congrArg (fun t => t.s.2) h)))
      go_enter Tryz.func50, Tryz.ntmps50
      go_wp2
      go_ret
      exact ⟨by rw [E.out]; rfl, HB.out⟩
  · have E := Lib.hid (show decide ((⟨(r, n), k, b⟩ : Tk) = ⟨(r2, n2), k2, b2⟩) = false from decide_eq_false (fun h => e1 (congrArg (fun t => t.s.1) h)))
    go_enter Tryz.func50, Tryz.ntmps50
    go_wp2
    go_ret
    exact ⟨by rw [E.out]; rfl, HB.out⟩
end Go.Proofs.YteeabfplnaknfaaGreat.Ms
end

section
set_option linter.unusedVariables false
set_option linter.unusedSimpArgs false
namespace Go.Proofs.YteeabfplnaknfaaGreat.Ms
open Go.RowKit Go.Proofs.YteeabfplnaknfaaGreat.Mem Go.Proofs.YteeabfplnaknfaaGreat.DerP

set_option maxHeartbeats 3200000 in
theorem rsamer_any (x y : Re) (A A2 D D2 : Option Addr) (c c2 e e2 : Nat) (w : World) (h1 : Rd w w.heap.size A (bvs x.t.b)) (h2 : Rd w w.heap.size A2 (bvs y.t.b)) (h3 : Rd w w.heap.size D (bvs x.b)) (h4 : Rd w w.heap.size D2 (bvs y.b)) :
    Calls Tryz.prog 51 #[.agg #[.string ⟨x.c.1.toArray⟩, .string ⟨x.c.2.toArray⟩, .string ⟨x.t.s.1.toArray⟩, .string ⟨x.t.s.2.toArray⟩, .int .i64 x.t.k, .slice A x.t.b.length c, .slice D x.b.length e], .agg #[.string ⟨y.c.1.toArray⟩, .string ⟨y.c.2.toArray⟩, .string ⟨y.t.s.1.toArray⟩, .string ⟨y.t.s.2.toArray⟩, .int .i64 y.t.k, .slice A2 y.t.b.length c2, .slice D2 y.b.length e2]] w fun e w' => e = .returned (.bool (decide (x = y))) ∧ Below w.heap.size w w' := by
  obtain ⟨⟨r, n⟩, t, b⟩ := x
  obtain ⟨⟨r2, n2⟩, t2, b2⟩ := y
  simp only at h1 h2 h3 h4 ⊢
  have HB := Lib.hid (((Below.refl w.heap.size w).alloc (Nat.le_refl _) (.cells #[.string ⟨List.toArray r⟩, .string ⟨List.toArray n⟩, .string ⟨t.s.1.toArray⟩, .string ⟨t.s.2.toArray⟩, .int .i64 t.k, .slice A t.b.length c, .slice D b.length e] 32)).alloc (by simp) (.cells #[.string ⟨List.toArray r2⟩, .string ⟨List.toArray n2⟩, .string ⟨t2.s.1.toArray⟩, .string ⟨t2.s.2.toArray⟩, .int .i64 t2.k, .slice A2 t2.b.length c2, .slice D2 b2.length e2] 32))
  have HX := Lib.hid ((Blk.new w 32 #[.string ⟨List.toArray r⟩, .string ⟨List.toArray n⟩, .string ⟨t.s.1.toArray⟩, .string ⟨t.s.2.toArray⟩, .int .i64 t.k, .slice A t.b.length c, .slice D b.length e]).alloc (.cells #[.string ⟨List.toArray r2⟩, .string ⟨List.toArray n2⟩, .string ⟨t2.s.1.toArray⟩, .string ⟨t2.s.2.toArray⟩, .int .i64 t2.k, .slice A2 t2.b.length c2, .slice D2 b2.length e2] 32))
  have hy := Blk.new (w.alloc (.cells #[.string ⟨List.toArray r⟩, .string ⟨List.toArray n⟩, .string ⟨t.s.1.toArray⟩, .string ⟨t.s.2.toArray⟩, .int .i64 t.k, .slice A t.b.length c, .slice D b.length e] 32)) 32 #[.string ⟨List.toArray r2⟩, .string ⟨List.toArray n2⟩, .string ⟨t2.s.1.toArray⟩, .string ⟨t2.s.2.toArray⟩, .int .i64 t2.k, .slice A2 t2.b.length c2, .slice D2 b2.length e2]
  rw [show (w.alloc (.cells #[.string ⟨List.toArray r⟩, .string ⟨List.toArray n⟩, .string ⟨t.s.1.toArray⟩, .string ⟨t.s.2.toArray⟩, .int .i64 t.k, .slice A t.b.length c, .slice D b.length e] 32)).heap.size = w.heap.size + 1 by simp] at hy
  have HY := Lib.hid hy
  clear hy
  have T1 := Lib.hid (fun w1 (h : Below w.heap.size w w1) => rsamet_any t t2 A A2 c c2 w1.heap.size w1 ((h1.below h).more h.size) ((h2.below h).more h.size) (Nat.le_refl _))
  have RD1 := Lib.hid (fun w1 (h : Below w.heap.size w w1) => h3.below h)
  have RD2 := Lib.hid (fun w1 (h : Below w.heap.size w w1) => h4.below h)
  clear h1 h2 h3 h4
  by_cases e1 : r = r2
  · subst e1
    by_cases e0 : n = n2
    · subst e0
      cases e3 : decide (t = t2) with
      | false =>
        rw [e3] at T1
        have E := Lib.hid (show decide ((⟨(r, n), t, b⟩ : Re) = ⟨(r, n), t2, b2⟩) = false from decide_eq_false (fun h => of_decide_eq_false e3 (congrArg Re.t h)))
        clear e3
        go_enter Tryz.func51, Tryz.ntmps51
        go_wp2_with (go_at_call 50; refine Calls.mono (T1.out _ HB.out) ?_; rintro e3 w1 ⟨rfl, hb⟩; replace HX := Lib.hid (HX.out.below hb); replace HY := Lib.hid (HY.out.below hb); replace HB := Lib.hid (HB.out.trans (hb.mono HB.out.size)); clear hb T1; have kx : w1.cell? ⟨w.heap.size, 6, none⟩ = some (.slice D b.length e) := HX.out.cell 6; have ky : w1.cell? ⟨w.heap.size + 1, 6, none⟩ = some (.slice D2 b2.length e2) := HY.out.cell 6; have hcv1 := run_bytes_str (P := Tryz.prog) w1 26 5 Tryz.underlying26 Tryz.underlying5 (RD1.out w1 HB.out) b.length e rfl 9 Tryz.underlying9; have hcv2 := run_bytes_str (P := Tryz.prog) w1 26 5 Tryz.underlying26 Tryz.underlying5 (RD2.out w1 HB.out) b2.length e2 rfl 9 Tryz.underlying9)
        go_ret
        exact ⟨by rw [E.out]; rfl, HB.out⟩
      | true =>
        rw [e3] at T1
        have e5 := of_decide_eq_true e3
        by_cases e4 : b = b2
        · have t4 : (b == b2) = true := by simpa using e4
          have E := Lib.hid (show decide ((⟨(r, n), t, b⟩ : Re) = ⟨(r, n), t2, b2⟩) = true from decide_eq_true (by rw [e4, e5]))
          clear e3 e4 e5
          go_enter Tryz.func51, Tryz.ntmps51
          go_wp2_with (go_at_call 50; refine Calls.mono (T1.out _ HB.out) ?_; rintro e3 w1 ⟨rfl, hb⟩; replace HX := Lib.hid (HX.out.below hb); replace HY := Lib.hid (HY.out.below hb); replace HB := Lib.hid (HB.out.trans (hb.mono HB.out.size)); clear hb T1; have kx : w1.cell? ⟨w.heap.size, 6, none⟩ = some (.slice D b.length e) := HX.out.cell 6; have ky : w1.cell? ⟨w.heap.size + 1, 6, none⟩ = some (.slice D2 b2.length e2) := HY.out.cell 6; have hcv1 := run_bytes_str (P := Tryz.prog) w1 26 5 Tryz.underlying26 Tryz.underlying5 (RD1.out w1 HB.out) b.length e rfl 9 Tryz.underlying9; have hcv2 := run_bytes_str (P := Tryz.prog) w1 26 5 Tryz.underlying26 Tryz.underlying5 (RD2.out w1 HB.out) b2.length e2 rfl 9 Tryz.underlying9)
          go_ret
          exact ⟨by rw [E.out]; rfl, HB.out⟩
        · have t4 : (b == b2) = false := by simpa using e4
          have E := Lib.hid (show decide ((⟨(r, n), t, b⟩ : Re) = ⟨(r, n), t2, b2⟩) = false from decide_eq_false (fun h => e4 (congrArg Re.b h)))
          clear e3 e4 e5
          go_enter Tryz.func51, Tryz.ntmps51
          go_wp2_with (go_at_call 50; refine Calls.mono (T1.out _ HB.out) ?_; rintro e3 w1 ⟨rfl, hb⟩; replace HX := Lib.hid (HX.out.below hb); replace HY := Lib.hid (HY.out.below hb); replace HB := Lib.hid (HB.out.trans (hb.mono HB.out.size)); clear hb T1; have kx : w1.cell? ⟨w.heap.size, 6, none⟩ = some (.slice D b.length e) := HX.out.cell 6; have ky : w1.cell? ⟨w.heap.size + 1, 6, none⟩ = some (.slice D2 b2.length e2) := HY.out.cell 6; have hcv1 := run_bytes_str (P := Tryz.prog) w1 26 5 Tryz.underlying26 Tryz.underlying5 (RD1.out w1 HB.out) b.length e rfl 9 Tryz.underlying9; have hcv2 := run_bytes_str (P := Tryz.prog) w1 26 5 Tryz.underlying26 Tryz.underlying5 (RD2.out w1 HB.out) b2.length e2 rfl 9 Tryz.underlying9)
          go_ret
          exact ⟨by rw [E.out]; rfl, HB.out⟩
    · have E := Lib.hid (show decide ((⟨(r, n), t, b⟩ : Re) = ⟨(r, n2), t2, b2⟩) = false from decide_eq_false (fun h => e0 (congrArg (fun t => t.c.2) h)))
      go_enter Tryz.func51, Tryz.ntmps51
      go_wp2
      go_ret
      exact ⟨by rw [E.out]; rfl, HB.out⟩
  · have E := Lib.hid (show decide ((⟨(r, n), t, b⟩ : Re) = ⟨(r2, n2), t2, b2⟩) = false from decide_eq_false (fun h => e1 (congrArg (fun t => t.c.1) h)))
    go_enter Tryz.func51, Tryz.ntmps51
    go_wp2
    go_ret
    exact ⟨by rw [E.out]; rfl, HB.out⟩
end Go.Proofs.YteeabfplnaknfaaGreat.Ms
end
