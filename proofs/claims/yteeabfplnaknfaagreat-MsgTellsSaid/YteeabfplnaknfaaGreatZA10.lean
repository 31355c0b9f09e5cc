import Derived.Deep.Cut
import Derived.Deep.MidRow
import Derived.Deep.CutRange
import Derived.Deep.CutBlock
import Derived.Deep.LoopGhost
import Derived.Test.YteeabfplnaknfaaGreatZA1
import Derived.Test.YteeabfplnaknfaaGreatZA2
import Derived.Test.YteeabfplnaknfaaGreatZA3
import Derived.Test.YteeabfplnaknfaaGreatZA4
import Derived.Test.YteeabfplnaknfaaGreatZA5
import Derived.Test.YteeabfplnaknfaaGreatZA6
import Derived.Test.YteeabfplnaknfaaGreatZA7
import Derived.Test.YteeabfplnaknfaaGreatZA9
section
set_option linter.unusedVariables false
set_option linter.unusedSimpArgs false
namespace Go.Proofs.YteeabfplnaknfaaGreat.Ms
open Go.RowKit Go.Proofs.YteeabfplnaknfaaGreat.Mem Go.Proofs.YteeabfplnaknfaaGreat.DerP Go.Proofs.YteeabfplnaknfaaGreat.DerR

theorem wh_eq (c : Option L) : DerC.wholeC c = whC c := by
  cases c with
  | none => rfl
  | some l => cases l <;> rfl
theorem g_same {a b c : World} {row : Option Nat} (h : a.grownBy b row) (k : b.grownBy c row) : a.grownBy c row :=
  ⟨k.os.trans h.os, k.tape.trans h.tape, k.output.trans h.output, Nat.le_trans h.size k.size, fun i hi hn => (k.block i (Nat.lt_of_lt_of_le hi h.size) hn).trans (h.block i hi hn)⟩
theorem g_new {a b c : World} {row : Option Nat} {q : Nat} (h : a.grownBy b row) (k : b.grownBy c (some q)) (hq : a.heap.size ≤ q) : a.grownBy c row :=
  ⟨k.os.trans h.os, k.tape.trans h.tape, k.output.trans h.output, Nat.le_trans h.size k.size, fun i hi hn => (k.block i (Nat.lt_of_lt_of_le hi h.size) (fun e => by injection e with e; omega)).trans (h.block i hi hn)⟩
theorem rc_lt {w : World} {B g : Nat} {c : Option L} (h : RC w B g c) : g < w.heap.size := by
  obtain ⟨A, n, cap, e, hb, _⟩ := h
  exact hb.lt
theorem rc_far {w w' : World} {B g q : Nat} {c : Option L} (h : RC w B g c) (hg : w.grownBy w' (some q)) (hq : q ≠ g) (hB : B ≤ w.heap.size) (hBq : B ≤ q) : RC w' B g c :=
  h.keep hg (fun e => hq (by injection e)) hB (fun k hk => by injection hk with hk; omega)
theorem rc_alloc {w : World} {B g : Nat} {c : Option L} (h : RC w B g c) (hB : B ≤ w.heap.size) (o : Obj) : RC (w.alloc o) B g c :=
  h.keep (row := none) (g_alloc (World.grownBy.refl _ _) o) (by simp) hB (by simp)
theorem rc_err {w : World} {B g : Nat} {c : Option L} (h : RC w B g c) : RC (w.setCell ⟨g, 1, none⟩ (.bool true)) B g none := by
  obtain ⟨A, n, cap, e, hb, _⟩ := h
  exact ⟨A, n, cap, true, hb.set 1 _, rfl⟩
theorem rc_set {w : World} {B g q j : Nat} {c : Option L} {u : Value} (h : RC w B g c) (hq : q ≠ g) (hB : B ≤ w.heap.size) (hBq : B ≤ q) : RC (w.setCell ⟨q, j, none⟩ u) B g c :=
  rc_far (q := q) h (g_set (World.grownBy.refl _ _) (.inl rfl) u) hq hB hBq
theorem rc_cell {w : World} {B g : Nat} {c : Option L} (h : RC w B g c) : w.cell? ⟨g, 1, none⟩ = some (.bool (!c.isSome)) ∧ w.frozen? ⟨g, 1, none⟩ = false := by
  obtain ⟨A, n, cap, e, hb, hr⟩ := h
  refine ⟨?_, hb.frozen 1⟩
  cases c with
  | none => obtain rfl : e = true := hr; exact hb.cell 1
  | some l => obtain rfl : e = false := hr.1; exact hb.cell 1
theorem rc_same {w : World} {B g : Nat} {l : L} (h : RC w B g (some l)) : RC (w.setCell ⟨g, 1, none⟩ (.bool false)) B g (some l) := by
  obtain ⟨A, n, cap, e, hb, hr⟩ := h
  obtain rfl : e = false := hr.1
  have hB := hr.2.2.2
  refine ⟨A, n, cap, false, hb.set 1 _, rfl, hr.2.1, hr.2.2.1, ?_⟩
  refine hB.keep fun b o hb' => ?_
  by_cases e : b = g
  · subst e
    rw [(hb.set 1 (.bool false)).cell, hb.cell]
    rfl
  · exact World.cell?_setCell_other _ _ _ _ (fun h => e (by injection h with h; exact h.symm))

theorem results_cell {P : Program} {fn : Func} {tmps : Array Value} {w : World} {v : Value} (t : Nat) (ty : TypeId) (a : Addr) (hres : fn.results = #[.cell t ty]) (ht : tmps.getD t undef = .pointer (some a)) (hl : (loadVar ty a).run P w = .ok v w) :
    (results fn tmps).run P w = .ok v w := by
  have ht' : tmps[t]?.getD undef = .pointer (some a) := by simpa using ht
  simp [results, hres, ht', asAddr, hl]
theorem load_blk {P : Program} {w : World} {g : Nat} {t ty : TypeId} {cs : Array Value} {d : TypeDesc} (h : Blk w g t cs) (hu : P.underlying ty = some d) (hd : d.isRow = true) (hi : (P.info? ty).map (·.size) = some cs.size) :
    (loadVar ty ⟨g, 0, none⟩).run P w = .ok (.agg cs) w := by
  have hc : w.rangeAt g 0 cs.toList := fun j v hv => by rw [Nat.zero_add, h.cell]; simpa using hv
  have := run_loadVar_mid (P := P) w g 0 ty cs.toList d hc hu hd (by simpa using hi)
  simpa using this
set_option maxHeartbeats 3200000 in
theorem rtoprinc_any (B g : Nat) (c : Option L) (w : World) (h : RC w B g c) (hB : B ≤ w.heap.size) (hBg : B ≤ g) (hu : (c.getD []).length ≤ 100000) :
    Calls Tryz.prog 46 #[.pointer (some ⟨g, 0, none⟩)] w fun e w' => e = .returned (.agg #[.string ⟨(prP c).1.1.toArray⟩, .string ⟨(prP c).1.2.toArray⟩]) ∧ RC w' B g (prP c).2 ∧ w.grownBy w' (some g) := by
  have hlt := rc_lt h
  obtain ⟨W, eW⟩ : ∃ W, W = w.alloc (.cells #[.string ⟨#[]⟩, .string ⟨#[]⟩] 23) := ⟨_, rfl⟩
  have hWs : W.heap.size = w.heap.size + 1 := by rw [eW]; simp
  have h1 : RC W B g c := by rw [eW]; exact rc_alloc h hB _
  have HG := Lib.hid (show w.grownBy W (some g) by rw [eW]; exact g_alloc (World.grownBy.refl _ _) _)
  have HR := Lib.hid (show Blk W w.heap.size 23 #[.string ⟨#[]⟩, .string ⟨#[]⟩] by rw [eW]; exact Blk.new _ _ _)
  have c1 := rinto_any 48 B g c W h1 (by omega) hBg hu
  have HBW := Lib.hid (show B ≤ W.heap.size by omega)
  have HWS := Lib.hid hWs
  have HLT := Lib.hid hlt
  have HBg := Lib.hid hBg
  have HB0 := Lib.hid hB
  have hl1 := (body_len 48 c).1
  have HP1 := Lib.hid (show (prP c).1 = (txC (bodyC 48 c), txC (nextC 27 (bodyC 48 c))) from rfl)
  have HP2 := Lib.hid (show (prP c).2 = if whC (nextC 27 (nextC 27 (bodyC 48 c))) then nextC 48 c else none from rfl)
  obtain ⟨d, ed⟩ : ∃ d, d = bodyC 48 c := ⟨_, rfl⟩
  obtain ⟨r, er⟩ : ∃ r, r = nextC 48 c := ⟨_, rfl⟩
  rw [← ed] at c1 hl1 HP1 HP2
  rw [← er] at c1 HP2
  rw [HP1.out, HP2.out]
  have hl2 := (body_len 27 d).2
  have HL1 := Lib.hid (show (d.getD []).length ≤ 100000 by omega)
  have HL2 := Lib.hid (show ((nextC 27 d).getD []).length ≤ 100000 by omega)
  have T1 := Lib.hid (fun B g w h h1 h2 => (rtext_any B g d w h h1 h2 HL1.out))
  have T2 := Lib.hid (fun B g w h h1 h2 => (rtext_any B g (nextC 27 d) w h h1 h2 HL2.out))
  have WH := Lib.hid (fun B g w h => rwhole_any B g (nextC 27 (nextC 27 d)) w h)
  rw [wh_eq] at WH
  rw [show (bodyC 27 d).getD [] = txC d from rfl] at T1
  rw [show (bodyC 27 (nextC 27 d)).getD [] = txC (nextC 27 d) from rfl] at T2
  obtain ⟨t1, et1⟩ : ∃ t, t = txC d := ⟨_, rfl⟩
  obtain ⟨t2, et2⟩ : ∃ t, t = txC (nextC 27 d) := ⟨_, rfl⟩
  obtain ⟨d2, ed2⟩ : ∃ q, q = nextC 27 d := ⟨_, rfl⟩
  rw [← et1] at T1 ⊢
  rw [← et2] at T2 ⊢
  rw [← ed2] at T1 T2 WH ⊢
  obtain ⟨d3, ed3⟩ : ∃ q, q = nextC 27 d2 := ⟨_, rfl⟩
  rw [← ed3] at T2 WH ⊢
  obtain ⟨fi, efi⟩ : ∃ q, q = if whC d3 = true then r else none := ⟨_, rfl⟩
  rw [← efi]
  have EF := Lib.hid efi
  clear efi
  clear h h1 hB hBg hu hlt hWs hl1 hl2 HP1 HP2 HL1 HL2 ed er et1 et2 ed2 ed3
  subst eW
  go_enter Tryz.func46, Tryz.ntmps46
  go_upto_region 3 with (first
    | (go_at_call 45; refine Calls.mono c1 ?_; rintro e w2 ⟨⟨gd, rfl, hgd, hd⟩, hc, hg2⟩; clear c1; have HD := Lib.hid hd; have HC := Lib.hid hc; have HGD := Lib.hid (show w.heap.size + 1 ≤ gd by have := HWS.out; omega); replace HR := Lib.hid (HR.out.grown hg2 (by intro e; injection e with e; have := HLT.out; omega)); replace HG := Lib.hid (g_same HG.out hg2); replace HBW := Lib.hid (Nat.le_trans HBW.out hg2.size); have HDL := Lib.hid (rc_lt hd); clear hgd hd hc hg2)
    | (go_at_call 64; refine Calls.mono (T1.out B gd _ HD.out HBW.out (by have := HGD.out; have := HLT.out; have := HBg.out; omega)) ?_; rintro e w3 ⟨rfl, hd, hg3⟩; clear T1; replace HD := Lib.hid hd; replace HC := Lib.hid (rc_far HC.out hg3 (by have := HGD.out; have := HLT.out; omega) HBW.out (by have := HGD.out; have := HLT.out; have := HBg.out; omega)); replace HR := Lib.hid (HR.out.grown hg3 (by intro e; injection e with e; have := HGD.out; omega)); replace HG := Lib.hid (g_new HG.out hg3 (by have := HGD.out; omega)); replace HBW := Lib.hid (Nat.le_trans HBW.out hg3.size); replace HDL := Lib.hid (rc_lt hd); clear hd hg3))
  obtain ⟨P, eP⟩ : ∃ P, P = w3.heap.size := ⟨_, rfl⟩
  obtain ⟨W4, e4⟩ : ∃ W4, W4 = w3.alloc (.cells #[.string ⟨t1.toArray⟩, .string ⟨#[]⟩] 23) := ⟨_, rfl⟩
  have HPB := Lib.hid (show Blk W4 P 23 #[.string ⟨t1.toArray⟩, .string ⟨#[]⟩] by rw [e4, eP]; exact Blk.new _ _ _)
  have h4s : W4.heap.size = P + 1 := by rw [e4, eP]; simp
  have HPG := Lib.hid (show gd < P by rw [eP]; exact HDL.out)
  have hbp : B ≤ P := by rw [eP]; exact HBW.out
  have HBP := Lib.hid hbp
  have HNP := Lib.hid (show w.heap.size < P by have := HPG.out; have := HGD.out; omega)
  have HGP := Lib.hid (show g < P by have := HLT.out; have := HNP.out; omega)
  replace HD := Lib.hid (show RC W4 B gd d2 by rw [e4]; exact rc_alloc HD.out HBW.out _)
  replace HC := Lib.hid (show RC W4 B g r by rw [e4]; exact rc_alloc HC.out HBW.out _)
  replace HR := Lib.hid (show Blk W4 w.heap.size 23 _ by rw [e4]; exact HR.out.alloc _)
  replace HG := Lib.hid (show w.grownBy W4 (some g) by rw [e4]; exact g_alloc HG.out _)
  replace HBW := Lib.hid (show B ≤ W4.heap.size by omega)
  rw [← e4, ← eP]
  clear e4 eP h4s hbp
  go_upto_region 4 with (go_at_call 64; refine Calls.mono (T2.out B gd _ HD.out HBW.out (by have := HGD.out; have := HLT.out; have := HBg.out; omega)) ?_; rintro e w5 ⟨rfl, hd, hg3⟩; clear T2; replace HD := Lib.hid hd; replace HC := Lib.hid (rc_far HC.out hg3 (by have := HGD.out; have := HLT.out; omega) HBW.out (by have := HGD.out; have := HLT.out; have := HBg.out; omega)); replace HR := Lib.hid (HR.out.grown hg3 (by intro e; injection e with e; have := HGD.out; omega)); replace HPB := Lib.hid (HPB.out.grown hg3 (by intro e; injection e with e; have := HPG.out; omega)); replace HG := Lib.hid (g_new HG.out hg3 (by have := HGD.out; omega)); replace HBW := Lib.hid (Nat.le_trans HBW.out hg3.size); have f0 := HPB.out.frozen 1; have k9 : w5.cell? ⟨P, 1, none⟩ = some (.string ⟨#[]⟩) := HPB.out.cell 1; clear hd hg3)
  have H1 := Lib.hid (show Blk (w5.setCell ⟨P, 1, none⟩ (.string ⟨t2.toArray⟩)) P 23 #[.string ⟨t1.toArray⟩, .string ⟨t2.toArray⟩] from HPB.out.set 1 (.string ⟨t2.toArray⟩))
  have H2 := Lib.hid (rc_set (j := 1) (u := .string ⟨t2.toArray⟩) HD.out (q := P) (by have := HPG.out; omega) HBW.out HBP.out)
  have H3 := Lib.hid (rc_set (j := 1) (u := .string ⟨t2.toArray⟩) HC.out (q := P) (by have := HGP.out; omega) HBW.out HBP.out)
  have H4 := Lib.hid (show Blk (w5.setCell ⟨P, 1, none⟩ (.string ⟨t2.toArray⟩)) w.heap.size 23 _ from (Below.heap_setCell w5 _ _ w.heap.size (fun e => by have := HNP.out; simp only at e; omega)).trans HR.out)
  have H5 := Lib.hid (g_set HG.out (p := ⟨P, 1, none⟩) (.inr (show w.heap.size ≤ P by have := HNP.out; omega)) (.string ⟨t2.toArray⟩))
  have H6 := Lib.hid (show B ≤ (w5.setCell ⟨P, 1, none⟩ (.string ⟨t2.toArray⟩)).heap.size from Nat.le_trans HBW.out (g_set (World.grownBy.refl w5 (some P)) (p := ⟨P, 1, none⟩) (.inl rfl) (.string ⟨t2.toArray⟩)).size)
  obtain ⟨V, eV⟩ : ∃ V, V = w5.setCell ⟨P, 1, none⟩ (.string ⟨t2.toArray⟩) := ⟨_, rfl⟩
  rw [← eV] at H1 H2 H3 H4 H5 H6 ⊢
  clear eV k9 f0 HPB HD HC HR HG HBW
  have hcl := rc_cell H3.out
  have k1 := hcl.1
  have f1 := hcl.2
  clear hcl
  cases r with
  | none =>
    simp only [Option.isSome_none, Bool.not_false] at k1
    go_upto_region 5 with fail
    have K1 := Lib.hid (show Blk (V.setCell ⟨g, 1, none⟩ (.bool true)) P 23 _ from (Below.heap_setCell V _ _ P (fun e => by have := HGP.out; simp only at e; omega)).trans H1.out)
    have K2 := Lib.hid (show Blk (V.setCell ⟨g, 1, none⟩ (.bool true)) w.heap.size 23 _ from (Below.heap_setCell V _ _ w.heap.size (fun e => by have := HLT.out; simp only at e; omega)).trans H4.out)
    have K3 := Lib.hid (show RC (V.setCell ⟨g, 1, none⟩ (.bool true)) B g fi by rw [EF.out]; have h := rc_err H3.out; cases whC d3 <;> exact h)
    have K4 := Lib.hid (g_set H5.out (p := ⟨g, 1, none⟩) (.inl rfl) (.bool true))
    have K5 := Lib.hid (show B ≤ (V.setCell ⟨g, 1, none⟩ (.bool true)).heap.size from Nat.le_trans H6.out (g_set (World.grownBy.refl V (some g)) (p := ⟨g, 1, none⟩) (.inl rfl) (.bool true)).size)
    obtain ⟨Z, eZ⟩ : ∃ Z, Z = V.setCell ⟨g, 1, none⟩ (.bool true) := ⟨_, rfl⟩
    rw [← eZ] at K1 K2 K3 K4 K5 ⊢
    clear eZ k1 f1 H1 H2 H3 H4 H5 H6
    have p0 : Z.cell? ⟨P, 0, none⟩ = some (.string ⟨t1.toArray⟩) := K1.out.cell 0
    have p1 : Z.cell? ⟨P, 1, none⟩ = some (.string ⟨t2.toArray⟩) := K1.out.cell 1
    have n0 : Z.cell? ⟨w.heap.size, 0, none⟩ = some (.string ⟨#[]⟩) := K2.out.cell 0
    have n1 : Z.cell? ⟨w.heap.size, 1, none⟩ = some (.string ⟨#[]⟩) := K2.out.cell 1
    have z0 := K2.out.frozen 0
    have z1 := K2.out.frozen 1
    go_wp2
    have hE : Blk ((Z.setCell ⟨w.heap.size, 0, none⟩ (.string ⟨t1.toArray⟩)).setCell ⟨w.heap.size, 1, none⟩ (.string ⟨t2.toArray⟩)) w.heap.size 23 #[.string ⟨t1.toArray⟩, .string ⟨t2.toArray⟩] := (K2.out.set 0 _).set 1 _
    have hq := load_blk (P := Tryz.prog) hE Tryz.underlying23 rfl (by kernel_rfl)
    refine bodyPost_ret (v := .agg #[.string ⟨t1.toArray⟩, .string ⟨t2.toArray⟩]) ?_ ?_ ?_
    · exact results_cell 2 23 ⟨w.heap.size, 0, none⟩ Tryz.results46 rfl hq
    · rfl
    refine ⟨rfl, ?_, ?_⟩
    · exact rc_set (rc_set K3.out (by have := HLT.out; omega) K5.out HB0.out) (by have := HLT.out; omega) (Nat.le_trans K5.out (g_set (World.grownBy.refl Z (some w.heap.size)) (p := ⟨w.heap.size, 0, none⟩) (.inl rfl) _).size) HB0.out
    · exact g_set (g_set K4.out (.inr (Nat.le_refl _)) _) (.inr (Nat.le_refl _)) _
  | some l =>
    simp only [Option.isSome_some, Bool.not_true] at k1
    have c5 := WH.out B gd _ H2.out
    clear WH
    cases q : whC d3 with
    | false =>
      rw [q] at c5
      rw [q, if_neg Bool.false_ne_true] at EF
      clear q
      go_upto_region 5 with (go_at_call 96; refine Calls.mono c5 ?_; rintro e wv ⟨rfl, hw⟩; subst hw; clear c5)
      have K1 := Lib.hid (show Blk (V.setCell ⟨g, 1, none⟩ (.bool true)) P 23 _ from (Below.heap_setCell V _ _ P (fun e => by have := HGP.out; simp only at e; omega)).trans H1.out)
      have K2 := Lib.hid (show Blk (V.setCell ⟨g, 1, none⟩ (.bool true)) w.heap.size 23 _ from (Below.heap_setCell V _ _ w.heap.size (fun e => by have := HLT.out; simp only at e; omega)).trans H4.out)
      have K3 := Lib.hid (show RC (V.setCell ⟨g, 1, none⟩ (.bool true)) B g fi by rw [EF.out]; exact rc_err H3.out)
      have K4 := Lib.hid (g_set H5.out (p := ⟨g, 1, none⟩) (.inl rfl) (.bool true))
      have K5 := Lib.hid (show B ≤ (V.setCell ⟨g, 1, none⟩ (.bool true)).heap.size from Nat.le_trans H6.out (g_set (World.grownBy.refl V (some g)) (p := ⟨g, 1, none⟩) (.inl rfl) (.bool true)).size)
      obtain ⟨Z, eZ⟩ : ∃ Z, Z = V.setCell ⟨g, 1, none⟩ (.bool true) := ⟨_, rfl⟩
      rw [← eZ] at K1 K2 K3 K4 K5 ⊢
      clear eZ k1 f1 H1 H2 H3 H4 H5 H6
      have p0 : Z.cell? ⟨P, 0, none⟩ = some (.string ⟨t1.toArray⟩) := K1.out.cell 0
      have p1 : Z.cell? ⟨P, 1, none⟩ = some (.string ⟨t2.toArray⟩) := K1.out.cell 1
      have n0 : Z.cell? ⟨w.heap.size, 0, none⟩ = some (.string ⟨#[]⟩) := K2.out.cell 0
      have n1 : Z.cell? ⟨w.heap.size, 1, none⟩ = some (.string ⟨#[]⟩) := K2.out.cell 1
      have z0 := K2.out.frozen 0
      have z1 := K2.out.frozen 1
      go_wp2
      have hE : Blk ((Z.setCell ⟨w.heap.size, 0, none⟩ (.string ⟨t1.toArray⟩)).setCell ⟨w.heap.size, 1, none⟩ (.string ⟨t2.toArray⟩)) w.heap.size 23 #[.string ⟨t1.toArray⟩, .string ⟨t2.toArray⟩] := (K2.out.set 0 _).set 1 _
      have hq := load_blk (P := Tryz.prog) hE Tryz.underlying23 rfl (by kernel_rfl)
      refine bodyPost_ret (v := .agg #[.string ⟨t1.toArray⟩, .string ⟨t2.toArray⟩]) ?_ ?_ ?_
      · exact results_cell 2 23 ⟨w.heap.size, 0, none⟩ Tryz.results46 rfl hq
      · rfl
      refine ⟨rfl, ?_, ?_⟩
      · exact rc_set (rc_set K3.out (by have := HLT.out; omega) K5.out HB0.out) (by have := HLT.out; omega) (Nat.le_trans K5.out (g_set (World.grownBy.refl Z (some w.heap.size)) (p := ⟨w.heap.size, 0, none⟩) (.inl rfl) _).size) HB0.out
      · exact g_set (g_set K4.out (.inr (Nat.le_refl _)) _) (.inr (Nat.le_refl _)) _
    | true =>
      rw [q] at c5
      rw [q, if_pos rfl] at EF
      clear q
      go_upto_region 5 with (go_at_call 96; refine Calls.mono c5 ?_; rintro e wv ⟨rfl, hw⟩; subst hw; clear c5)
      have K1 := Lib.hid (show Blk (V.setCell ⟨g, 1, none⟩ (.bool false)) P 23 _ from (Below.heap_setCell V _ _ P (fun e => by have := HGP.out; simp only at e; omega)).trans H1.out)
      have K2 := Lib.hid (show Blk (V.setCell ⟨g, 1, none⟩ (.bool false)) w.heap.size 23 _ from (Below.heap_setCell V _ _ w.heap.size (fun e => by have := HLT.out; simp only at e; omega)).trans H4.out)
      have K3 := Lib.hid (show RC (V.setCell ⟨g, 1, none⟩ (.bool false)) B g fi by rw [EF.out]; exact rc_same H3.out)
      have K4 := Lib.hid (g_set H5.out (p := ⟨g, 1, none⟩) (.inl rfl) (.bool false))
      have K5 := Lib.hid (show B ≤ (V.setCell ⟨g, 1, none⟩ (.bool false)).heap.size from Nat.le_trans H6.out (g_set (World.grownBy.refl V (some g)) (p := ⟨g, 1, none⟩) (.inl rfl) (.bool false)).size)
      obtain ⟨Z, eZ⟩ : ∃ Z, Z = V.setCell ⟨g, 1, none⟩ (.bool false) := ⟨_, rfl⟩
      rw [← eZ] at K1 K2 K3 K4 K5 ⊢
      clear eZ k1 f1 H1 H2 H3 H4 H5 H6
      have p0 : Z.cell? ⟨P, 0, none⟩ = some (.string ⟨t1.toArray⟩) := K1.out.cell 0
      have p1 : Z.cell? ⟨P, 1, none⟩ = some (.string ⟨t2.toArray⟩) := K1.out.cell 1
      have n0 : Z.cell? ⟨w.heap.size, 0, none⟩ = some (.string ⟨#[]⟩) := K2.out.cell 0
      have n1 : Z.cell? ⟨w.heap.size, 1, none⟩ = some (.string ⟨#[]⟩) := K2.out.cell 1
      have z0 := K2.out.frozen 0
      have z1 := K2.out.frozen 1
      go_wp2
      have hE : Blk ((Z.setCell ⟨w.heap.size, 0, none⟩ (.string ⟨t1.toArray⟩)).setCell ⟨w.heap.size, 1, none⟩ (.string ⟨t2.toArray⟩)) w.heap.size 23 #[.string ⟨t1.toArray⟩, .string ⟨t2.toArray⟩] := (K2.out.set 0 _).set 1 _
      have hq := load_blk (P := Tryz.prog) hE Tryz.underlying23 rfl (by kernel_rfl)
      refine bodyPost_ret (v := .agg #[.string ⟨t1.toArray⟩, .string ⟨t2.toArray⟩]) ?_ ?_ ?_
      · exact results_cell 2 23 ⟨w.heap.size, 0, none⟩ Tryz.results46 rfl hq
      · rfl
      refine ⟨rfl, ?_, ?_⟩
      · exact rc_set (rc_set K3.out (by have := HLT.out; omega) K5.out HB0.out) (by have := HLT.out; omega) (Nat.le_trans K5.out (g_set (World.grownBy.refl Z (some w.heap.size)) (p := ⟨w.heap.size, 0, none⟩) (.inl rfl) _).size) HB0.out
      · exact g_set (g_set K4.out (.inr (Nat.le_refl _)) _) (.inr (Nat.le_refl _)) _
end Go.Proofs.YteeabfplnaknfaaGreat.Ms
end

section
set_option linter.unusedVariables false
set_option linter.unusedSimpArgs false
namespace Go.Proofs.YteeabfplnaknfaaGreat.Ms
open Go.RowKit Go.Proofs.YteeabfplnaknfaaGreat.Mem Go.Proofs.YteeabfplnaknfaaGreat.DerP Go.Proofs.YteeabfplnaknfaaGreat.DerR

theorem intC_len (c : Option L) : ((intC c).2.getD []).length ≤ (c.getD []).length := by
  unfold intC
  cases h : bodyC 2 c with
  | none => simp
  | some b =>
    simp only
    cases numL b with
    | none => simp
    | some n => exact (body_len 2 c).2
theorem prP_len (c : Option L) : ((prP c).2.getD []).length ≤ (c.getD []).length := by
  unfold prP
  simp only
  split
  · exact (body_len 48 c).2
  · simp
set_option maxHeartbeats 6400000 in
theorem rtoticket_any (B g : Nat) (c : Option L) (w : World) (h : RC w B g c) (hB : B ≤ w.heap.size) (hBg : B ≤ g) (hu : (c.getD []).length ≤ 100000) :
    Calls Tryz.prog 48 #[.pointer (some ⟨g, 0, none⟩)] w fun e w' => (∃ A n, e = .returned (.agg #[.string ⟨(tkP c).1.s.1.toArray⟩, .string ⟨(tkP c).1.s.2.toArray⟩, .int .i64 (tkP c).1.k, .slice A (tkP c).1.b.length n]) ∧ (tkP c).1.b.length ≤ n ∧ Rd w' B A (bvs (tkP c).1.b)) ∧ RC w' B g (tkP c).2 ∧ w.grownBy w' (some g) := by
  have hlt := rc_lt h
  obtain ⟨W, eW⟩ : ∃ W, W = w.alloc (.cells #[.string ⟨#[]⟩, .string ⟨#[]⟩, .int .i64 0, .slice none 0 0] 28) := ⟨_, rfl⟩
  have hWs : W.heap.size = w.heap.size + 1 := by rw [eW]; simp
  have h1 : RC W B g c := by rw [eW]; exact rc_alloc h hB _
  have HG := Lib.hid (show w.grownBy W (some g) by rw [eW]; exact g_alloc (World.grownBy.refl _ _) _)
  have HR := Lib.hid (show Blk W w.heap.size 28 #[.string ⟨#[]⟩, .string ⟨#[]⟩, .int .i64 0, .slice none 0 0] by rw [eW]; exact Blk.new _ _ _)
  have c1 := rinto_any 97 B g c W h1 (by omega) hBg hu
  have HBW := Lib.hid (show B ≤ W.heap.size by omega)
  have HWS := Lib.hid hWs
  have HLT := Lib.hid hlt
  have HBg := Lib.hid hBg
  have HB0 := Lib.hid hB
  have hl1 := (body_len 97 c).1
  have HP1 := Lib.hid (show (tkP c).1 = tkI (bodyC 97 c) from rfl)
  have HP2 := Lib.hid (show (tkP c).2 = if whC (nextC 4 (tkS (bodyC 97 c))) then nextC 97 c else none from rfl)
  obtain ⟨d, ed⟩ : ∃ d, d = bodyC 97 c := ⟨_, rfl⟩
  obtain ⟨r, er⟩ : ∃ r, r = nextC 97 c := ⟨_, rfl⟩
  rw [← ed] at c1 hl1 HP1 HP2
  rw [← er] at c1 HP2
  rw [HP1.out, HP2.out]
  have hl2 := prP_len d
  have hl3 := intC_len (prP d).2
  have HL1 := Lib.hid (show (d.getD []).length ≤ 100000 by omega)
  have HL2 := Lib.hid (show ((prP d).2.getD []).length ≤ 100000 by omega)
  have HL3 := Lib.hid (show ((tkS d).getD []).length ≤ 100000 from Nat.le_trans hl3 (by omega))
  have T1 := Lib.hid (fun B g w h h1 h2 => (rtoprinc_any B g d w h h1 h2 HL1.out))
  have T2 := Lib.hid (fun B g w h h1 h2 => (rint_any B g (prP d).2 w h h1 h2 HL2.out))
  have T3 := Lib.hid (fun B g w h h1 h2 => (roctets_any B g (tkS d) w h h1 h2 HL3.out))
  have WH := Lib.hid (fun B g w h => rwhole_any B g (nextC 4 (tkS d)) w h)
  rw [wh_eq] at WH
  have ET := Lib.hid (show tkI d = ⟨(prP d).1, ((intC (prP d).2).1 : Int), ocC (tkS d)⟩ from rfl)
  have ES := Lib.hid (show tkS d = (intC (prP d).2).2 from rfl)
  rw [ET.out]
  unfold Ints at T2
  rw [← ES.out] at T2
  unfold Took at T3
  rw [show (bodyC 4 (tkS d)).getD [] = ocC (tkS d) from rfl] at T3
  obtain ⟨t1, et1⟩ : ∃ t, t = (prP d).1 := ⟨_, rfl⟩
  obtain ⟨t2, et2⟩ : ∃ t : Int, t = ((intC (prP d).2).1 : Int) := ⟨_, rfl⟩
  obtain ⟨t3, et3⟩ : ∃ t, t = ocC (tkS d) := ⟨_, rfl⟩
  rw [← et1] at T1 ⊢
  rw [← et2] at T2 ⊢
  rw [← et3] at T3 ⊢
  obtain ⟨d1, ed1⟩ : ∃ q, q = (prP d).2 := ⟨_, rfl⟩
  obtain ⟨d2, ed2⟩ : ∃ q, q = tkS d := ⟨_, rfl⟩
  rw [← ed1] at T1 T2
  rw [← ed2] at T2 T3 WH ⊢
  obtain ⟨d3, ed3⟩ : ∃ q, q = nextC 4 d2 := ⟨_, rfl⟩
  rw [← ed3] at T3 WH ⊢
  obtain ⟨fi, efi⟩ : ∃ q, q = if whC d3 = true then r else none := ⟨_, rfl⟩
  rw [← efi]
  have EF := Lib.hid efi
  clear efi
  clear h h1 hB hBg hu hlt hWs hl1 hl2 hl3 HP1 HP2 HL1 HL2 HL3 ET ES ed er et1 et2 et3 ed1 ed2 ed3
  subst eW
  go_enter Tryz.func48, Tryz.ntmps48
  go_upto_region 3 with (first
    | (go_at_call 45; refine Calls.mono c1 ?_; rintro e w2 ⟨⟨gd, rfl, hgd, hd⟩, hc, hg2⟩; clear c1; have HD := Lib.hid hd; have HC := Lib.hid hc; have HGD := Lib.hid (show w.heap.size + 1 ≤ gd by have := HWS.out; omega); replace HR := Lib.hid (HR.out.grown hg2 (by intro e; injection e with e; have := HLT.out; omega)); replace HG := Lib.hid (g_same HG.out hg2); replace HBW := Lib.hid (Nat.le_trans HBW.out hg2.size); have HDL := Lib.hid (rc_lt hd); clear hgd hd hc hg2)
    | (go_at_call 46; refine Calls.mono (T1.out B gd _ HD.out HBW.out (by have := HGD.out; have := HLT.out; have := HBg.out; omega)) ?_; rintro e w3 ⟨rfl, hd, hg3⟩; clear T1; replace HD := Lib.hid hd; replace HC := Lib.hid (rc_far HC.out hg3 (by have := HGD.out; have := HLT.out; omega) HBW.out (by have := HGD.out; have := HLT.out; have := HBg.out; omega)); replace HR := Lib.hid (HR.out.grown hg3 (by intro e; injection e with e; have := HGD.out; omega)); replace HG := Lib.hid (g_new HG.out hg3 (by have := HGD.out; omega)); replace HBW := Lib.hid (Nat.le_trans HBW.out hg3.size); replace HDL := Lib.hid (rc_lt hd); clear hd hg3))
  obtain ⟨P, eP⟩ : ∃ P, P = w3.heap.size := ⟨_, rfl⟩
  obtain ⟨W4, e4⟩ : ∃ W4, W4 = w3.alloc (.cells #[.string ⟨t1.1.toArray⟩, .string ⟨t1.2.toArray⟩, .int .i64 0, .slice none 0 0] 28) := ⟨_, rfl⟩
  have HPB := Lib.hid (show Blk W4 P 28 #[.string ⟨t1.1.toArray⟩, .string ⟨t1.2.toArray⟩, .int .i64 0, .slice none 0 0] by rw [e4, eP]; exact Blk.new _ _ _)
  have h4s : W4.heap.size = P + 1 := by rw [e4, eP]; simp
  have HPG := Lib.hid (show gd < P by rw [eP]; exact HDL.out)
  have hbp : B ≤ P := by rw [eP]; exact HBW.out
  have HBP := Lib.hid hbp
  have HNP := Lib.hid (show w.heap.size < P by have := HPG.out; have := HGD.out; omega)
  have HGP := Lib.hid (show g < P by have := HLT.out; have := HNP.out; omega)
  replace HD := Lib.hid (show RC W4 B gd d1 by rw [e4]; exact rc_alloc HD.out HBW.out _)
  replace HC := Lib.hid (show RC W4 B g r by rw [e4]; exact rc_alloc HC.out HBW.out _)
  replace HR := Lib.hid (show Blk W4 w.heap.size 28 _ by rw [e4]; exact HR.out.alloc _)
  replace HG := Lib.hid (show w.grownBy W4 (some g) by rw [e4]; exact g_alloc HG.out _)
  replace HBW := Lib.hid (show B ≤ W4.heap.size by omega)
  rw [← e4, ← eP]
  clear e4 eP h4s hbp
  go_upto_region 4 with (go_at_call 47; refine Calls.mono (T2.out B gd _ HD.out HBW.out (by have := HGD.out; have := HLT.out; have := HBg.out; omega)) ?_; rintro e w4 ⟨rfl, hd, hg3⟩; clear T2; replace HD := Lib.hid hd; replace HC := Lib.hid (rc_far HC.out hg3 (by have := HGD.out; have := HLT.out; omega) HBW.out (by have := HGD.out; have := HLT.out; have := HBg.out; omega)); replace HR := Lib.hid (HR.out.grown hg3 (by intro e; injection e with e; have := HGD.out; omega)); replace HPB := Lib.hid (HPB.out.grown hg3 (by intro e; injection e with e; have := HPG.out; omega)); replace HG := Lib.hid (g_new HG.out hg3 (by have := HGD.out; omega)); replace HBW := Lib.hid (Nat.le_trans HBW.out hg3.size); have f0 := HPB.out.frozen 2; have k9 : w4.cell? ⟨P, 2, none⟩ = some (.int .i64 0) := HPB.out.cell 2; clear hd hg3)
  have H1 := Lib.hid (show Blk (w4.setCell ⟨P, 2, none⟩ (.int .i64 t2)) P 28 #[.string ⟨t1.1.toArray⟩, .string ⟨t1.2.toArray⟩, .int .i64 t2, .slice none 0 0] from HPB.out.set 2 (.int .i64 t2))
  have H2 := Lib.hid (rc_set (j := 2) (u := .int .i64 t2) HD.out (q := P) (by have := HPG.out; omega) HBW.out HBP.out)
  have H3 := Lib.hid (rc_set (j := 2) (u := .int .i64 t2) HC.out (q := P) (by have := HGP.out; omega) HBW.out HBP.out)
  have H4 := Lib.hid (show Blk (w4.setCell ⟨P, 2, none⟩ (.int .i64 t2)) w.heap.size 28 _ from (Below.heap_setCell w4 _ _ w.heap.size (fun e => by have := HNP.out; simp only at e; omega)).trans HR.out)
  have H5 := Lib.hid (g_set HG.out (p := ⟨P, 2, none⟩) (.inr (show w.heap.size ≤ P by have := HNP.out; omega)) (.int .i64 t2))
  have H6 := Lib.hid (show B ≤ (w4.setCell ⟨P, 2, none⟩ (.int .i64 t2)).heap.size from Nat.le_trans HBW.out (g_set (World.grownBy.refl w4 (some P)) (p := ⟨P, 2, none⟩) (.inl rfl) (.int .i64 t2)).size)
  obtain ⟨V4, eV⟩ : ∃ V, V = w4.setCell ⟨P, 2, none⟩ (.int .i64 t2) := ⟨_, rfl⟩
  rw [← eV] at H1 H2 H3 H4 H5 H6 ⊢
  clear eV k9 f0 HPB HD HC HR HG HBW
  have HPB := H1; have HD := H2; have HC := H3; have HR := H4; have HG := H5; have HBW := H6
  clear H1 H2 H3 H4 H5 H6
  go_upto_region 5 with (go_at_call 49; refine Calls.mono (T3.out B gd _ HD.out HBW.out (by have := HGD.out; have := HLT.out; have := HBg.out; omega)) ?_; rintro e w5 ⟨⟨Ab, cb, rfl, hcb, hrb⟩, hd, hg3⟩; have HCB := Lib.hid hcb; have HRB := Lib.hid hrb; clear hcb hrb; clear T3; replace HD := Lib.hid hd; replace HC := Lib.hid (rc_far HC.out hg3 (by have := HGD.out; have := HLT.out; omega) HBW.out (by have := HGD.out; have := HLT.out; have := HBg.out; omega)); replace HR := Lib.hid (HR.out.grown hg3 (by intro e; injection e with e; have := HGD.out; omega)); replace HPB := Lib.hid (HPB.out.grown hg3 (by intro e; injection e with e; have := HPG.out; omega)); replace HG := Lib.hid (g_new HG.out hg3 (by have := HGD.out; omega)); replace HBW := Lib.hid (Nat.le_trans HBW.out hg3.size); have f0 := HPB.out.frozen 3; have k9 : w5.cell? ⟨P, 3, none⟩ = some (.slice none 0 0) := HPB.out.cell 3; clear hd hg3)
  have H1 := Lib.hid (show Blk (w5.setCell ⟨P, 3, none⟩ (.slice Ab t3.length cb)) P 28 #[.string ⟨t1.1.toArray⟩, .string ⟨t1.2.toArray⟩, .int .i64 t2, .slice Ab t3.length cb] from HPB.out.set 3 (.slice Ab t3.length cb))
  have H2 := Lib.hid (rc_set (j := 3) (u := .slice Ab t3.length cb) HD.out (q := P) (by have := HPG.out; omega) HBW.out HBP.out)
  have H3 := Lib.hid (rc_set (j := 3) (u := .slice Ab t3.length cb) HC.out (q := P) (by have := HGP.out; omega) HBW.out HBP.out)
  have H4 := Lib.hid (show Blk (w5.setCell ⟨P, 3, none⟩ (.slice Ab t3.length cb)) w.heap.size 28 _ from (Below.heap_setCell w5 _ _ w.heap.size (fun e => by have := HNP.out; simp only at e; omega)).trans HR.out)
  have H5 := Lib.hid (g_set HG.out (p := ⟨P, 3, none⟩) (.inr (show w.heap.size ≤ P by have := HNP.out; omega)) (.slice Ab t3.length cb))
  have H6 := Lib.hid (show B ≤ (w5.setCell ⟨P, 3, none⟩ (.slice Ab t3.length cb)).heap.size from Nat.le_trans HBW.out (g_set (World.grownBy.refl w5 (some P)) (p := ⟨P, 3, none⟩) (.inl rfl) (.slice Ab t3.length cb)).size)
  have H7 := Lib.hid (show Rd (w5.setCell ⟨P, 3, none⟩ (.slice Ab t3.length cb)) B Ab (bvs t3) from HRB.out.keep fun b o hb => World.cell?_setCell_other _ _ _ _ (fun e => by injection e with e; have := HBP.out; omega))
  obtain ⟨V, eV⟩ : ∃ V, V = w5.setCell ⟨P, 3, none⟩ (.slice Ab t3.length cb) := ⟨_, rfl⟩
  rw [← eV] at H1 H2 H3 H4 H5 H6 H7 ⊢
  clear eV k9 f0 HPB HD HC HR HG HBW HRB
  have hcl := rc_cell H3.out
  have k1 := hcl.1
  have f1 := hcl.2
  clear hcl
  cases r with
  | none =>
    simp only [Option.isSome_none, Bool.not_false] at k1
    go_upto_region 6 with fail
    have K1 := Lib.hid (show Blk (V.setCell ⟨g, 1, none⟩ (.bool true)) P 28 _ from (Below.heap_setCell V _ _ P (fun e => by have := HGP.out; simp only at e; omega)).trans H1.out)
    have K2 := Lib.hid (show Blk (V.setCell ⟨g, 1, none⟩ (.bool true)) w.heap.size 28 _ from (Below.heap_setCell V _ _ w.heap.size (fun e => by have := HLT.out; simp only at e; omega)).trans H4.out)
    have K3 := Lib.hid (show RC (V.setCell ⟨g, 1, none⟩ (.bool true)) B g fi by rw [EF.out]; have h := rc_err H3.out; cases whC d3 <;> exact h)
    have K4 := Lib.hid (g_set H5.out (p := ⟨g, 1, none⟩) (.inl rfl) (.bool true))
    have K5 := Lib.hid (show B ≤ (V.setCell ⟨g, 1, none⟩ (.bool true)).heap.size from Nat.le_trans H6.out (g_set (World.grownBy.refl V (some g)) (p := ⟨g, 1, none⟩) (.inl rfl) (.bool true)).size)
    have K6 := Lib.hid (show Rd (V.setCell ⟨g, 1, none⟩ (.bool true)) B Ab (bvs t3) from H7.out.keep fun b o hb => World.cell?_setCell_other _ _ _ _ (fun e => by injection e with e; have := HBg.out; omega))
    obtain ⟨Z, eZ⟩ : ∃ Z, Z = V.setCell ⟨g, 1, none⟩ (.bool true) := ⟨_, rfl⟩
    rw [← eZ] at K1 K2 K3 K4 K5 K6 ⊢
    clear eZ k1 f1 H1 H2 H3 H4 H5 H6 H7
    have p0 : Z.cell? ⟨P, 0, none⟩ = some (.string ⟨t1.1.toArray⟩) := K1.out.cell 0
    have p1 : Z.cell? ⟨P, 1, none⟩ = some (.string ⟨t1.2.toArray⟩) := K1.out.cell 1
    have p2 : Z.cell? ⟨P, 2, none⟩ = some (.int .i64 t2) := K1.out.cell 2
    have p3 : Z.cell? ⟨P, 3, none⟩ = some (.slice Ab t3.length cb) := K1.out.cell 3
    have n0 : Z.cell? ⟨w.heap.size, 0, none⟩ = some (.string ⟨#[]⟩) := K2.out.cell 0
    have n1 : Z.cell? ⟨w.heap.size, 1, none⟩ = some (.string ⟨#[]⟩) := K2.out.cell 1
    have n2 : Z.cell? ⟨w.heap.size, 2, none⟩ = some (.int .i64 0) := K2.out.cell 2
    have n3 : Z.cell? ⟨w.heap.size, 3, none⟩ = some (.slice none 0 0) := K2.out.cell 3
    have z0 := K2.out.frozen 0
    have z1 := K2.out.frozen 1
    have z2 := K2.out.frozen 2
    have z3 := K2.out.frozen 3
    go_wp2
    have hE : Blk ((((Z.setCell ⟨w.heap.size, 0, none⟩ (.string ⟨t1.1.toArray⟩)).setCell ⟨w.heap.size, 1, none⟩ (.string ⟨t1.2.toArray⟩)).setCell ⟨w.heap.size, 2, none⟩ (.int .i64 t2)).setCell ⟨w.heap.size, 3, none⟩ (.slice Ab t3.length cb)) w.heap.size 28 #[.string ⟨t1.1.toArray⟩, .string ⟨t1.2.toArray⟩, .int .i64 t2, .slice Ab t3.length cb] := (((K2.out.set 0 _).set 1 _).set 2 _).set 3 _
    have hq := load_blk (P := Tryz.prog) hE Tryz.underlying28 rfl (by kernel_rfl)
    refine bodyPost_ret (v := .agg #[.string ⟨t1.1.toArray⟩, .string ⟨t1.2.toArray⟩, .int .i64 t2, .slice Ab t3.length cb]) ?_ ?_ ?_
    · exact results_cell 2 28 ⟨w.heap.size, 0, none⟩ Tryz.results48 rfl hq
    · rfl
    have s1 := (g_set (World.grownBy.refl Z (some w.heap.size)) (p := ⟨w.heap.size, 0, none⟩) (.inl rfl) (.string ⟨t1.1.toArray⟩))
    have s2 := g_set s1 (p := ⟨w.heap.size, 1, none⟩) (.inl rfl) (.string ⟨t1.2.toArray⟩)
    have s3 := g_set s2 (p := ⟨w.heap.size, 2, none⟩) (.inl rfl) (.int .i64 t2)
    have s4 := g_set s3 (p := ⟨w.heap.size, 3, none⟩) (.inl rfl) (.slice Ab t3.length cb)
    refine ⟨⟨Ab, cb, rfl, HCB.out, ?_⟩, ?_, ?_⟩
    · exact K6.out.keep fun b o hb => World.cell?_of_block (a := ⟨b, o, none⟩) (s4.block b (by have := K5.out; omega) (fun e => by injection e with e; have := HB0.out; omega))
    · exact rc_far K3.out s4 (by have := HLT.out; omega) K5.out HB0.out
    · exact g_new K4.out s4 (Nat.le_refl _)
  | some l =>
    simp only [Option.isSome_some, Bool.not_true] at k1
    have c5 := WH.out B gd _ H2.out
    clear WH
    cases q : whC d3 with
    | false =>
      rw [q] at c5
      rw [q, if_neg Bool.false_ne_true] at EF
      clear q
      go_upto_region 6 with (go_at_call 96; refine Calls.mono c5 ?_; rintro e wv ⟨rfl, hw⟩; subst hw; clear c5)
      have K1 := Lib.hid (show Blk (V.setCell ⟨g, 1, none⟩ (.bool true)) P 28 _ from (Below.heap_setCell V _ _ P (fun e => by have := HGP.out; simp only at e; omega)).trans H1.out)
      have K2 := Lib.hid (show Blk (V.setCell ⟨g, 1, none⟩ (.bool true)) w.heap.size 28 _ from (Below.heap_setCell V _ _ w.heap.size (fun e => by have := HLT.out; simp only at e; omega)).trans H4.out)
      have K3 := Lib.hid (show RC (V.setCell ⟨g, 1, none⟩ (.bool true)) B g fi by rw [EF.out]; exact rc_err H3.out)
      have K4 := Lib.hid (g_set H5.out (p := ⟨g, 1, none⟩) (.inl rfl) (.bool true))
      have K5 := Lib.hid (show B ≤ (V.setCell ⟨g, 1, none⟩ (.bool true)).heap.size from Nat.le_trans H6.out (g_set (World.grownBy.refl V (some g)) (p := ⟨g, 1, none⟩) (.inl rfl) (.bool true)).size)
      have K6 := Lib.hid (show Rd (V.setCell ⟨g, 1, none⟩ (.bool true)) B Ab (bvs t3) from H7.out.keep fun b o hb => World.cell?_setCell_other _ _ _ _ (fun e => by injection e with e; have := HBg.out; omega))
      obtain ⟨Z, eZ⟩ : ∃ Z, Z = V.setCell ⟨g, 1, none⟩ (.bool true) := ⟨_, rfl⟩
      rw [← eZ] at K1 K2 K3 K4 K5 K6 ⊢
      clear eZ k1 f1 H1 H2 H3 H4 H5 H6 H7
      have p0 : Z.cell? ⟨P, 0, none⟩ = some (.string ⟨t1.1.toArray⟩) := K1.out.cell 0
      have p1 : Z.cell? ⟨P, 1, none⟩ = some (.string ⟨t1.2.toArray⟩) := K1.out.cell 1
      have p2 : Z.cell? ⟨P, 2, none⟩ = some (.int .i64 t2) := K1.out.cell 2
      have p3 : Z.cell? ⟨P, 3, none⟩ = some (.slice Ab t3.length cb) := K1.out.cell 3
      have n0 : Z.cell? ⟨w.heap.size, 0, none⟩ = some (.string ⟨#[]⟩) := K2.out.cell 0
      have n1 : Z.cell? ⟨w.heap.size, 1, none⟩ = some (.string ⟨#[]⟩) := K2.out.cell 1
      have n2 : Z.cell? ⟨w.heap.size, 2, none⟩ = some (.int .i64 0) := K2.out.cell 2
      have n3 : Z.cell? ⟨w.heap.size, 3, none⟩ = some (.slice none 0 0) := K2.out.cell 3
      have z0 := K2.out.frozen 0
      have z1 := K2.out.frozen 1
      have z2 := K2.out.frozen 2
      have z3 := K2.out.frozen 3
      go_wp2
      have hE : Blk ((((Z.setCell ⟨w.heap.size, 0, none⟩ (.string ⟨t1.1.toArray⟩)).setCell ⟨w.heap.size, 1, none⟩ (.string ⟨t1.2.toArray⟩)).setCell ⟨w.heap.size, 2, none⟩ (.int .i64 t2)).setCell ⟨w.heap.size, 3, none⟩ (.slice Ab t3.length cb)) w.heap.size 28 #[.string ⟨t1.1.toArray⟩, .string ⟨t1.2.toArray⟩, .int .i64 t2, .slice Ab t3.length cb] := (((K2.out.set 0 _).set 1 _).set 2 _).set 3 _
      have hq := load_blk (P := Tryz.prog) hE Tryz.underlying28 rfl (by kernel_rfl)
      refine bodyPost_ret (v := .agg #[.string ⟨t1.1.toArray⟩, .string ⟨t1.2.toArray⟩, .int .i64 t2, .slice Ab t3.length cb]) ?_ ?_ ?_
      · exact results_cell 2 28 ⟨w.heap.size, 0, none⟩ Tryz.results48 rfl hq
      · rfl
      have s1 := (g_set (World.grownBy.refl Z (some w.heap.size)) (p := ⟨w.heap.size, 0, none⟩) (.inl rfl) (.string ⟨t1.1.toArray⟩))
      have s2 := g_set s1 (p := ⟨w.heap.size, 1, none⟩) (.inl rfl) (.string ⟨t1.2.toArray⟩)
      have s3 := g_set s2 (p := ⟨w.heap.size, 2, none⟩) (.inl rfl) (.int .i64 t2)
      have s4 := g_set s3 (p := ⟨w.heap.size, 3, none⟩) (.inl rfl) (.slice Ab t3.length cb)
      refine ⟨⟨Ab, cb, rfl, HCB.out, ?_⟩, ?_, ?_⟩
      · exact K6.out.keep fun b o hb => World.cell?_of_block (a := ⟨b, o, none⟩) (s4.block b (by have := K5.out; omega) (fun e => by injection e with e; have := HB0.out; omega))
      · exact rc_far K3.out s4 (by have := HLT.out; omega) K5.out HB0.out
      · exact g_new K4.out s4 (Nat.le_refl _)
    | true =>
      rw [q] at c5
      rw [q, if_pos rfl] at EF
      clear q
      go_upto_region 6 with (go_at_call 96; refine Calls.mono c5 ?_; rintro e wv ⟨rfl, hw⟩; subst hw; clear c5)
      have K1 := Lib.hid (show Blk (V.setCell ⟨g, 1, none⟩ (.bool false)) P 28 _ from (Below.heap_setCell V _ _ P (fun e => by have := HGP.out; simp only at e; omega)).trans H1.out)
      have K2 := Lib.hid (show Blk (V.setCell ⟨g, 1, none⟩ (.bool false)) w.heap.size 28 _ from (Below.heap_setCell V _ _ w.heap.size (fun e => by have := HLT.out; simp only at e; omega)).trans H4.out)
      have K3 := Lib.hid (show RC (V.setCell ⟨g, 1, none⟩ (.bool false)) B g fi by rw [EF.out]; exact rc_same H3.out)
      have K4 := Lib.hid (g_set H5.out (p := ⟨g, 1, none⟩) (.inl rfl) (.bool false))
      have K5 := Lib.hid (show B ≤ (V.setCell ⟨g, 1, none⟩ (.bool false)).heap.size from Nat.le_trans H6.out (g_set (World.grownBy.refl V (some g)) (p := ⟨g, 1, none⟩) (.inl rfl) (.bool false)).size)
      have K6 := Lib.hid (show Rd (V.setCell ⟨g, 1, none⟩ (.bool false)) B Ab (bvs t3) from H7.out.keep fun b o hb => World.cell?_setCell_other _ _ _ _ (fun e => by injection e with e; have := HBg.out; omega))
      obtain ⟨Z, eZ⟩ : ∃ Z, Z = V.setCell ⟨g, 1, none⟩ (.bool false) := ⟨_, rfl⟩
      rw [← eZ] at K1 K2 K3 K4 K5 K6 ⊢
      clear eZ k1 f1 H1 H2 H3 H4 H5 H6 H7
      have p0 : Z.cell? ⟨P, 0, none⟩ = some (.string ⟨t1.1.toArray⟩) := K1.out.cell 0
      have p1 : Z.cell? ⟨P, 1, none⟩ = some (.string ⟨t1.2.toArray⟩) := K1.out.cell 1
      have p2 : Z.cell? ⟨P, 2, none⟩ = some (.int .i64 t2) := K1.out.cell 2
      have p3 : Z.cell? ⟨P, 3, none⟩ = some (.slice Ab t3.length cb) := K1.out.cell 3
      have n0 : Z.cell? ⟨w.heap.size, 0, none⟩ = some (.string ⟨#[]⟩) := K2.out.cell 0
      have n1 : Z.cell? ⟨w.heap.size, 1, none⟩ = some (.string ⟨#[]⟩) := K2.out.cell 1
      have n2 : Z.cell? ⟨w.heap.size, 2, none⟩ = some (.int .i64 0) := K2.out.cell 2
      have n3 : Z.cell? ⟨w.heap.size, 3, none⟩ = some (.slice none 0 0) := K2.out.cell 3
      have z0 := K2.out.frozen 0
      have z1 := K2.out.frozen 1
      have z2 := K2.out.frozen 2
      have z3 := K2.out.frozen 3
      go_wp2
      have hE : Blk ((((Z.setCell ⟨w.heap.size, 0, none⟩ (.string ⟨t1.1.toArray⟩)).setCell ⟨w.heap.size, 1, none⟩ (.string ⟨t1.2.toArray⟩)).setCell ⟨w.heap.size, 2, none⟩ (.int .i64 t2)).setCell ⟨w.heap.size, 3, none⟩ (.slice Ab t3.length cb)) w.heap.size 28 #[.string ⟨t1.1.toArray⟩, .string ⟨t1.2.toArray⟩, .int .i64 t2, .slice Ab t3.length cb] := (((K2.out.set 0 _).set 1 _).set 2 _).set 3 _
      have hq := load_blk (P := Tryz.prog) hE Tryz.underlying28 rfl (by kernel_rfl)
      refine bodyPost_ret (v := .agg #[.string ⟨t1.1.toArray⟩, .string ⟨t1.2.toArray⟩, .int .i64 t2, .slice Ab t3.length cb]) ?_ ?_ ?_
      · exact results_cell 2 28 ⟨w.heap.size, 0, none⟩ Tryz.results48 rfl hq
      · rfl
      have s1 := (g_set (World.grownBy.refl Z (some w.heap.size)) (p := ⟨w.heap.size, 0, none⟩) (.inl rfl) (.string ⟨t1.1.toArray⟩))
      have s2 := g_set s1 (p := ⟨w.heap.size, 1, none⟩) (.inl rfl) (.string ⟨t1.2.toArray⟩)
      have s3 := g_set s2 (p := ⟨w.heap.size, 2, none⟩) (.inl rfl) (.int .i64 t2)
      have s4 := g_set s3 (p := ⟨w.heap.size, 3, none⟩) (.inl rfl) (.slice Ab t3.length cb)
      refine ⟨⟨Ab, cb, rfl, HCB.out, ?_⟩, ?_, ?_⟩
      · exact K6.out.keep fun b o hb => World.cell?_of_block (a := ⟨b, o, none⟩) (s4.block b (by have := K5.out; omega) (fun e => by injection e with e; have := HB0.out; omega))
      · exact rc_far K3.out s4 (by have := HLT.out; omega) K5.out HB0.out
      · exact g_new K4.out s4 (Nat.le_refl _)
end Go.Proofs.YteeabfplnaknfaaGreat.Ms
end

section
set_option linter.unusedVariables false
set_option linter.unusedSimpArgs false
namespace Go.Proofs.YteeabfplnaknfaaGreat.Ms
open Go.RowKit Go.Proofs.YteeabfplnaknfaaGreat.Mem Go.Proofs.YteeabfplnaknfaaGreat.DerP Go.Proofs.YteeabfplnaknfaaGreat.DerR

theorem results_pair {P : Program} {fn : Func} {tmps : Array Value} {w : World} {v u : Value} (t q : Nat) (ty : TypeId) (a : Addr) (hres : fn.results = #[.cell t ty, .tmp q]) (ht : tmps.getD t undef = .pointer (some a)) (hl : (loadVar ty a).run P w = .ok v w) (hq : tmps.getD q undef = u) :
    (results fn tmps).run P w = .ok (.tuple #[v, u]) w := by
  have ht' : tmps[t]?.getD undef = .pointer (some a) := by simpa using ht
  have hq' : tmps[q]?.getD undef = u := by simpa using hq
  simp [results, hres, ht', hq', asAddr, hl]
end Go.Proofs.YteeabfplnaknfaaGreat.Ms
end

section
set_option linter.unusedVariables false
set_option linter.unusedSimpArgs false
namespace Go.Proofs.YteeabfplnaknfaaGreat.Ms
open Go.RowKit Go.Proofs.YteeabfplnaknfaaGreat.Mem Go.Proofs.YteeabfplnaknfaaGreat.DerP

set_option maxHeartbeats 1600000 in
theorem rsamet_any (t u : Tk) (A A2 : Option Addr) (c c2 B : Nat) (w : World) (hr : Rd w B A (bvs t.b)) (hr2 : Rd w B A2 (bvs u.b)) (hB : B ≤ w.heap.size) : Calls Tryz.prog 50 #[.agg #[.string ⟨t.s.1.toArray⟩, .string ⟨t.s.2.toArray⟩, .int .i64 t.k, .slice A t.b.length c], .agg #[.string ⟨u.s.1.toArray⟩, .string ⟨u.s.2.toArray⟩, .int .i64 u.k, .slice A2 u.b.length c2]] w fun e w' => e = .returned (.bool (decide (t = u))) ∧ Below w.heap.size w w' := by
  obtain ⟨⟨r, n⟩, k, b⟩ := t
  obtain ⟨⟨r2, n2⟩, k2, b2⟩ := u
  simp only at hr hr2 ⊢
  have HB := Lib.hid (((Below.refl w.heap.size w).alloc (Nat.le_refl _) (.cells #[.string ⟨List.toArray r⟩, .string ⟨List.toArray n⟩, .int .i64 k, .slice A b.length c] 28)).alloc (by simp) (.cells #[.string ⟨List.toArray r2⟩, .string ⟨List.toArray n2⟩, .int .i64 k2, .slice A2 b2.length c2] 28))
  have hcv1 := run_bytes_str (P := Tryz.prog) ((w.alloc (.cells #[.string ⟨List.toArray r⟩, .string ⟨List.toArray n⟩, .int .i64 k, .slice A b.length c] 28)).alloc (.cells #[.string ⟨List.toArray r2⟩, .string ⟨List.toArray n2⟩, .int .i64 k2, .slice A2 b2.length c2] 28)) 26 5 Tryz.underlying26 Tryz.underlying5 ((hr.alloc hB _).alloc (by simp; omega) _) b.length c rfl 9 Tryz.underlying9
  have hcv2 := run_bytes_str (P := Tryz.prog) ((w.alloc (.cells #[.string ⟨List.toArray r⟩, .string ⟨List.toArray n⟩, .int .i64 k, .slice A b.length c] 28)).alloc (.cells #[.string ⟨List.toArray r2⟩, .string ⟨List.toArray n2⟩, .int .i64 k2, .slice A2 b2.length c2] 28)) 26 5 Tryz.underlying26 Tryz.underlying5 ((hr2.alloc hB _).alloc (by simp; omega) _) b2.length c2 rfl 9 Tryz.underlying9
  clear hr hr2 hB
  by_cases e1 : r = r2
  · subst e1
    by_cases e2 : n = n2
    · subst e2
      by_cases e3 : k = k2
      · subst e3
        have t3 : (k == k) = true := by simp
        by_cases e4 : b = b2
        · have t4 : (b == b2) = true := by simpa using e4
          have E := Lib.hid (show decide ((⟨(r, n), k, b⟩ : Tk) = ⟨(r, n), k, b2⟩) = true from decide_eq_true (by rw [e4]))
          clear e4
          go_enter Tryz.func50, Tryz.ntmps50
          go_wp2
          go_ret
          exact ⟨by rw [E.out]; rfl, HB.out⟩
        · have t4 : (b == b2) = false := by simpa using e4
          have E := Lib.hid (show decide ((⟨(r, n), k, b⟩ : Tk) = ⟨(r, n), k, b2⟩) = false from decide_eq_false (fun h => e4 (congrArg Tk.b h)))
          clear e4
          go_enter Tryz.func50, Tryz.ntmps50
          go_wp2
          go_ret
          exact ⟨by rw [E.out]; rfl, HB.out⟩
      · have t3 : (k == k2) = false := by simpa using e3
        have E := Lib.hid (show decide ((⟨(r, n), k, b⟩ : Tk) = ⟨(r, n), k2, b2⟩) = false from decide_eq_false (fun h => e3 (congrArg Tk.k h)))
        go_enter Tryz.func50, Tryz.ntmps50
        go_wp2
        go_ret
        exact ⟨by rw [E.out]; rfl, HB.out⟩
    · have E := Lib.hid (show decide ((⟨(r, n), k, b⟩ : Tk) = ⟨(r, n2), k2, b2⟩) = false from decide_eq_false (fun h => e2 (congrArg (fun t => t.s.2) h)))
      go_enter Tryz.func50, Tryz.ntmps50
      go_wp2
      go_ret
      exact ⟨by rw [E.out]; rfl, HB.out⟩
  · have E := Lib.hid (show decide ((⟨(r, n), k, b⟩ : Tk) = ⟨(r2, n2), k2, b2⟩) = false from decide_eq_false (fun h => e1 (congrArg (fun t => t.s.1) h)))
    go_enter Tryz.func50, Tryz.ntmps50
    go_wp2
    go_ret
    exact ⟨by rw [E.out]; rfl, HB.out⟩
end Go.Proofs.YteeabfplnaknfaaGreat.Ms
end

section
set_option linter.unusedVariables false
set_option linter.unusedSimpArgs false
namespace Go.Proofs.YteeabfplnaknfaaGreat.Ms
open Go.RowKit Go.Proofs.YteeabfplnaknfaaGreat.Mem Go.Proofs.YteeabfplnaknfaaGreat.DerP

set_option maxHeartbeats 3200000 in
theorem rsamer_any (x y : Re) (A A2 D D2 : Option Addr) (c c2 e e2 : Nat) (w : World) (h1 : Rd w w.heap.size A (bvs x.t.b)) (h2 : Rd w w.heap.size A2 (bvs y.t.b)) (h3 : Rd w w.heap.size D (bvs x.b)) (h4 : Rd w w.heap.size D2 (bvs y.b)) :
    Calls Tryz.prog 51 #[.agg #[.string ⟨x.c.1.toArray⟩, .string ⟨x.c.2.toArray⟩, .string ⟨x.t.s.1.toArray⟩, .string ⟨x.t.s.2.toArray⟩, .int .i64 x.t.k, .slice A x.t.b.length c, .slice D x.b.length e], .agg #[.string ⟨y.c.1.toArray⟩, .string ⟨y.c.2.toArray⟩, .string ⟨y.t.s.1.toArray⟩, .string ⟨y.t.s.2.toArray⟩, .int .i64 y.t.k, .slice A2 y.t.b.length c2, .slice D2 y.b.length e2]] w fun e w' => e = .returned (.bool (decide (x = y))) ∧ Below w.heap.size w w' := by
  obtain ⟨⟨r, n⟩, t, b⟩ := x
  obtain ⟨⟨r2, n2⟩, t2, b2⟩ := y
  simp only at h1 h2 h3 h4 ⊢
  have HB := Lib.hid (((Below.refl w.heap.size w).alloc (Nat.le_refl _) (.cells #[.string ⟨List.toArray r⟩, .string ⟨List.toArray n⟩, .string ⟨t.s.1.toArray⟩, .string ⟨t.s.2.toArray⟩, .int .i64 t.k, .slice A t.b.length c, .slice D b.length e] 32)).alloc (by simp) (.cells #[.string ⟨List.toArray r2⟩, .string ⟨List.toArray n2⟩, .string ⟨t2.s.1.toArray⟩, .string ⟨t2.s.2.toArray⟩, .int .i64 t2.k, .slice A2 t2.b.length c2, .slice D2 b2.length e2] 32))
  have HX := Lib.hid ((Blk.new w 32 #[.string ⟨List.toArray r⟩, .string ⟨List.toArray n⟩, .string ⟨t.s.1.toArray⟩, .string ⟨t.s.2.toArray⟩, .int .i64 t.k, .slice A t.b.length c, .slice D b.length e]).alloc (.cells #[.string ⟨List.toArray r2⟩, .string ⟨List.toArray n2⟩, .string ⟨t2.s.1.toArray⟩, .string ⟨t2.s.2.toArray⟩, .int .i64 t2.k, .slice A2 t2.b.length c2, .slice D2 b2.length e2] 32))
  have hy := Blk.new (w.alloc (.cells #[.string ⟨List.toArray r⟩, .string ⟨List.toArray n⟩, .string ⟨t.s.1.toArray⟩, .string ⟨t.s.2.toArray⟩, .int .i64 t.k, .slice A t.b.length c, .slice D b.length e] 32)) 32 #[.string ⟨List.toArray r2⟩, .string ⟨List.toArray n2⟩, .string ⟨t2.s.1.toArray⟩, .string ⟨t2.s.2.toArray⟩, .int .i64 t2.k, .slice A2 t2.b.length c2, .slice D2 b2.length e2]
  rw [show (w.alloc (.cells #[.string ⟨List.toArray r⟩, .string ⟨List.toArray n⟩, .string ⟨t.s.1.toArray⟩, .string ⟨t.s.2.toArray⟩, .int .i64 t.k, .slice A t.b.length c, .slice D b.length e] 32)).heap.size = w.heap.size + 1 by simp] at hy
  have HY := Lib.hid hy
  clear hy
  have T1 := Lib.hid (fun w1 (h : Below w.heap.size w w1) => rsamet_any t t2 A A2 c c2 w1.heap.size w1 ((h1.below h).more h.size) ((h2.below h).more h.size) (Nat.le_refl _))
  have RD1 := Lib.hid (fun w1 (h : Below w.heap.size w w1) => h3.below h)
  have RD2 := Lib.hid (fun w1 (h : Below w.heap.size w w1) => h4.below h)
  clear h1 h2 h3 h4
  by_cases e1 : r = r2
  · subst e1
    by_cases e0 : n = n2
    · subst e0
      cases e3 : decide (t = t2) with
      | false =>
        rw [e3] at T1
        have E := Lib.hid (show decide ((⟨(r, n), t, b⟩ : Re) = ⟨(r, n), t2, b2⟩) = false from decide_eq_false (fun h => of_decide_eq_false e3 (congrArg Re.t h)))
        clear e3
        go_enter Tryz.func51, Tryz.ntmps51
        go_wp2_with (go_at_call 50; refine Calls.mono (T1.out _ HB.out) ?_; rintro e3 w1 ⟨rfl, hb⟩; replace HX := Lib.hid (HX.out.below hb); replace HY := Lib.hid (HY.out.below hb); replace HB := Lib.hid (HB.out.trans (hb.mono HB.out.size)); clear hb T1; have kx : w1.cell? ⟨w.heap.size, 6, none⟩ = some (.slice D b.length e) := HX.out.cell 6; have ky : w1.cell? ⟨w.heap.size + 1, 6, none⟩ = some (.slice D2 b2.length e2) := HY.out.cell 6; have hcv1 := run_bytes_str (P := Tryz.prog) w1 26 5 Tryz.underlying26 Tryz.underlying5 (RD1.out w1 HB.out) b.length e rfl 9 Tryz.underlying9; have hcv2 := run_bytes_str (P := Tryz.prog) w1 26 5 Tryz.underlying26 Tryz.underlying5 (RD2.out w1 HB.out) b2.length e2 rfl 9 Tryz.underlying9)
        go_ret
        exact ⟨by rw [E.out]; rfl, HB.out⟩
      | true =>
        rw [e3] at T1
        have e5 := of_decide_eq_true e3
        by_cases e4 : b = b2
        · have t4 : (b == b2) = true := by simpa using e4
          have E := Lib.hid (show decide ((⟨(r, n), t, b⟩ : Re) = ⟨(r, n), t2, b2⟩) = true from decide_eq_true (by rw [e4, e5]))
          clear e3 e4 e5
          go_enter Tryz.func51, Tryz.ntmps51
          go_wp2_with (go_at_call 50; refine Calls.mono (T1.out _ HB.out) ?_; rintro e3 w1 ⟨rfl, hb⟩; replace HX := Lib.hid (HX.out.below hb); replace HY := Lib.hid (HY.out.below hb); replace HB := Lib.hid (HB.out.trans (hb.mono HB.out.size)); clear hb T1; have kx : w1.cell? ⟨w.heap.size, 6, none⟩ = some (.slice D b.length e) := HX.out.cell 6; have ky : w1.cell? ⟨w.heap.size + 1, 6, none⟩ = some (.slice D2 b2.length e2) := HY.out.cell 6; have hcv1 := run_bytes_str (P := Tryz.prog) w1 26 5 Tryz.underlying26 Tryz.underlying5 (RD1.out w1 HB.out) b.length e rfl 9 Tryz.underlying9; have hcv2 := run_bytes_str (P := Tryz.prog) w1 26 5 Tryz.underlying26 Tryz.underlying5 (RD2.out w1 HB.out) b2.length e2 rfl 9 Tryz.underlying9)
          go_ret
          exact ⟨by rw [E.out]; rfl, HB.out⟩
        · have t4 : (b == b2) = false := by simpa using e4
          have E := Lib.hid (show decide ((⟨(r, n), t, b⟩ : Re) = ⟨(r, n), t2, b2⟩) = false from decide_eq_false (fun h => e4 (congrArg Re.b h)))
          clear e3 e4 e5
          go_enter Tryz.func51, Tryz.ntmps51
          go_wp2_with (go_at_call 50; refine Calls.mono (T1.out _ HB.out) ?_; rintro e3 w1 ⟨rfl, hb⟩; replace HX := Lib.hid (HX.out.below hb); replace HY := Lib.hid (HY.out.below hb); replace HB := Lib.hid (HB.out.trans (hb.mono HB.out.size)); clear hb T1; have kx : w1.cell? ⟨w.heap.size, 6, none⟩ = some (.slice D b.length e) := HX.out.cell 6; have ky : w1.cell? ⟨w.heap.size + 1, 6, none⟩ = some (.slice D2 b2.length e2) := HY.out.cell 6; have hcv1 := run_bytes_str (P := Tryz.prog) w1 26 5 Tryz.underlying26 Tryz.underlying5 (RD1.out w1 HB.out) b.length e rfl 9 Tryz.underlying9; have hcv2 := run_bytes_str (P := Tryz.prog) w1 26 5 Tryz.underlying26 Tryz.underlying5 (RD2.out w1 HB.out) b2.length e2 rfl 9 Tryz.underlying9)
          go_ret
          exact ⟨by rw [E.out]; rfl, HB.out⟩
    · have E := Lib.hid (show decide ((⟨(r, n), t, b⟩ : Re) = ⟨(r, n2), t2, b2⟩) = false from decide_eq_false (fun h => e0 (congrArg (fun t => t.c.2) h)))
      go_enter Tryz.func51, Tryz.ntmps51
      go_wp2
      go_ret
      exact ⟨by rw [E.out]; rfl, HB.out⟩
  · have E := Lib.hid (show decide ((⟨(r, n), t, b⟩ : Re) = ⟨(r2, n2), t2, b2⟩) = false from decide_eq_false (fun h => e1 (congrArg (fun t => t.c.1) h)))
    go_enter Tryz.func51, Tryz.ntmps51
    go_wp2
    go_ret
    exact ⟨by rw [E.out]; rfl, HB.out⟩
end Go.Proofs.YteeabfplnaknfaaGreat.Ms
end
