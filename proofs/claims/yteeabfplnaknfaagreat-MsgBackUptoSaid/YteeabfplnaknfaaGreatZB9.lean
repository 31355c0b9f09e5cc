import Derived.Deep.RegionHeld3
import Derived.Deep.MidRow
import Derived.Deep.LoopGhost
import Derived.Test.YteeabfplnaknfaaGreatZB1
import Derived.Test.YteeabfplnaknfaaGreatZB2
import Derived.Test.YteeabfplnaknfaaGreatZB3
import Derived.Test.YteeabfplnaknfaaGreatZB5
import Derived.Test.YteeabfplnaknfaaGreatZB6
import Derived.Test.YteeabfplnaknfaaGreatZB7
import Derived.Test.YteeabfplnaknfaaGreatZB8
section
set_option linter.unusedVariables false
set_option linter.unusedSimpArgs false
namespace Go.Proofs.YteeabfplnaknfaaGreat.Ms
open Go.RowKit Go.Proofs.YteeabfplnaknfaaGreat.Mem Go.Proofs.YteeabfplnaknfaaGreat.DerP Go.Proofs.YteeabfplnaknfaaGreat.DerR

def EncR (w : World) (o : Option L) (e : Ending) (w' : World) : Prop :=
  (∃ v i, e = .returned (.tuple #[v, .int .i64 i]) ∧ (o = none → v = .slice none 0 0 ∧ i = 1) ∧ ∀ l, o = some l → i = 0 ∧ ∃ g c, v = .slice (some ⟨g, 0, none⟩) l.length c ∧ w.heap.size ≤ g ∧ l.length ≤ c ∧ Rd w' w'.heap.size (some ⟨g, 0, none⟩) (bvs l)) ∧ Below w.heap.size w w'
theorem range_blk {w : World} {g : Nat} {t : TypeId} {cs : Array Value} (h : Blk w g t cs) : w.rangeAt g 0 cs.toList := fun j v hv => by
  rw [Nat.zero_add, h.cell]; simpa using hv
theorem load_cells {P : Program} {ops : Array Oper} {rest : List Oper} {op : Oper} {a : Act} {w : World} {Q : Exit → Act → World → Prop} (hgd : op.guard = none) (ty : TypeId) (x : Operand) (ho : op.op = .load ty x)
    (g o : Nat) (hx : a.eval x = .pointer (some ⟨g, o, none⟩)) (cs : Array Value) (d : TypeDesc) (hc : w.rangeAt g o cs.toList)
    (hu : P.underlying ty = some d) (hd : d.isRow = true) (hi : (P.info? ty).map (·.size) = some cs.size)
    (h : wpList P ops Q rest (a.put op.dst (.agg cs)) w) : wpList P ops Q (op :: rest) a w :=
  wpList_load_mid hgd ty x ho g o hx cs.toList d hc hu hd (by rw [Array.length_toList]; exact hi) (by simpa using h)
theorem rlimit_ok (l : L) (A : Option Addr) (n c : Nat) (w : World) (hn : n = l.length) (h : l.length ≤ 2000) : Calls Tryz.prog 37 #[.slice A n c] w fun e w' => e = .returned (.tuple #[.slice A n c, .int .i64 0]) ∧ w = w' := by
  have := rlimit_any l A n c w hn
  rwa [if_pos h] at this
theorem enc_none {w w' : World} (h : Below w.heap.size w w') : EncR w none (.returned (.tuple #[.slice none 0 0, .int .i64 1])) w' :=
  ⟨⟨_, _, rfl, (fun _ => ⟨rfl, rfl⟩), (fun l e => by cases e)⟩, h⟩
theorem enc_some {w w' : World} {l : L} {g c : Nat} (h : Gives w l (.returned (.slice (some ⟨g, 0, none⟩) l.length c)) w') : EncR w (some l) (.returned (.tuple #[.slice (some ⟨g, 0, none⟩) l.length c, .int .i64 0])) w' := by
  obtain ⟨⟨g', c', h1, h2, h3, h4⟩, h5⟩ := h
  injection h1 with h1
  injection h1 with h1 h6 h7
  injection h1 with h1
  injection h1 with h1
  subst h1; subst h7
  exact ⟨⟨_, _, rfl, (fun e => by cases e), (fun l' e => by injection e with e; subst e; exact ⟨rfl, g, c, rfl, h2, h3, h4⟩)⟩, h5⟩
set_option maxHeartbeats 3200000 in
theorem rencauthn_any (a : An) (w : World) (hs : pSm a.c) : Calls Tryz.prog 20 #[.agg #[.string ⟨a.c.1.toArray⟩, .string ⟨a.c.2.toArray⟩, .int .i64 a.t, .int .i64 a.q]] w (EncR w (anO a)) := by
  have hb0 := (Below.refl w.heap.size w).alloc (Nat.le_refl _) (.cells #[.string ⟨a.c.1.toArray⟩, .string ⟨a.c.2.toArray⟩, .int .i64 a.t, .int .i64 a.q] 57)
  have HB := Lib.hid hb0
  have HK := Lib.hid (Blk.new w 57 #[.string ⟨a.c.1.toArray⟩, .string ⟨a.c.2.toArray⟩, .int .i64 a.t, .int .i64 a.q])
  have I1 := Lib.hid (fun w1 => risauthn_any a w1 hs)
  clear hb0
  cases hx : anB a with
  | false =>
    rw [hx] at I1
    have E := Lib.hid (show anO a = none by unfold anO limO; rw [hx]; rfl)
    rw [E.out]
    clear hx E
    go_enter Tryz.func20, Tryz.ntmps20
    go_wp2_with (go_at_call 30; refine Calls.mono (I1.out _) ?_; rintro e w1 ⟨rfl, hb⟩; replace HB := Lib.hid (HB.out.trans (hb.mono HB.out.size)); clear hb I1)
    go_ret2
    exact enc_none HB.out
  | true =>
    rw [hx] at I1
    have hp : prB a.c = true := (show prB a.c = true ∧ tmB a.t = true ∧ tmB a.q = true by simpa [anB] using hx).1
    have hpl := pr_len hp
    have hpe := (prE_len hp).1
    have e1 := encI_le a.t
    have e2 := encI_le a.q
    have T1 := Lib.hid (fun w1 => rprinc_any a.c w1 (by omega) (by omega))
    have T2 := Lib.hid (fun w1 => DerR.int_any a.t w1)
    have T3 := Lib.hid (fun w1 => DerR.int_any a.q w1)
    have hl : [prE a.c, encI a.t, encI a.q].flatten.length ≤ 1900 := by rw [flat3]; simp only [List.length_append]; omega
    have HL := Lib.hid (show [prE a.c, encI a.t, encI a.q].flatten.length ≤ 65535 by omega)
    have hE := elem_len 98 [prE a.c, encI a.t, encI a.q].flatten
    have E := Lib.hid (show anO a = some (elem 98 [prE a.c, encI a.t, encI a.q].flatten) from lim_iff.2 ⟨hx, by show (elem 98 [prE a.c, encI a.t, encI a.q].flatten).length ≤ 2000; omega, rfl⟩)
    rw [E.out]
    rw [flat3] at hE hl ⊢
    obtain ⟨l1, el1⟩ : ∃ l, l = prE a.c := ⟨_, rfl⟩
    obtain ⟨l2, el2⟩ : ∃ l, l = encI a.t := ⟨_, rfl⟩
    obtain ⟨l3, el3⟩ : ∃ l, l = encI a.q := ⟨_, rfl⟩
    rw [← el1] at T1 HL hE hl ⊢
    rw [← el2] at T2 HL hE hl ⊢
    rw [← el3] at T3 HL hE hl ⊢
    have hlm : (elem 98 (l1 ++ (l2 ++ l3))).length ≤ 2000 := by omega
    have LM := Lib.hid (fun A c w1 => rlimit_ok (elem 98 (l1 ++ (l2 ++ l3))) A _ c w1 rfl hlm)
    clear hx E hE hl hlm el1 el2 el3 hp hpl hpe e1 e2 hs
    go_enter Tryz.func20, Tryz.ntmps20
    go_wp2_with (go_at_call 30; refine Calls.mono (I1.out _) ?_; rintro e w0 ⟨rfl, hb⟩; replace HK := Lib.hid (HK.out.below hb); replace HB := Lib.hid (HB.out.trans (hb.mono HB.out.size)); clear hb I1)
    replace HK := Lib.hid (show Blk w0.drew _ _ _ from HK.out.drewN 1)
    replace HB := Lib.hid (show Below _ _ w0.drew from below_drewN HB.out 1)
    go_region_held3 (fun w' => w'.cell? ⟨w.heap.size, 0, none⟩ = some (.string ⟨a.c.1.toArray⟩) ∧ w'.cell? ⟨w.heap.size, 1, none⟩ = some (.string ⟨a.c.2.toArray⟩) ∧ w'.cell? ⟨w.heap.size, 2, none⟩ = some (.int .i64 a.t) ∧ w'.cell? ⟨w.heap.size, 3, none⟩ = some (.int .i64 a.q)) (first | exact ⟨HK.out.cell 0, HK.out.cell 1, HK.out.cell 2, HK.out.cell 3⟩ | exact ⟨(HK.out.alloc _).cell 0, (HK.out.alloc _).cell 1, (HK.out.alloc _).cell 2, (HK.out.alloc _).cell 3⟩) ((first
      | (go_at_call 39; (with_reducible refine Calls.mono (T1.out _) ?_); rintro e w1 ⟨⟨g1, c1, rfl, hg1, hc1, hr1⟩, hb⟩; clear T1; have HR1 := Lib.hid hr1; replace HK := Lib.hid (HK.out.below hb); replace HB := Lib.hid (HB.out.trans (hb.mono HB.out.size)); clear hb hr1 hg1 hc1)
      | (go_at_call 40; (with_reducible refine Calls.mono (T2.out _) ?_); rintro e w2 ⟨⟨g2, c2, rfl, hg2, hc2, hr2⟩, hb⟩; clear T2; replace HR1 := Lib.hid (rd_on HR1.out hb); have HR2 := Lib.hid hr2; replace HK := Lib.hid (HK.out.below hb); replace HB := Lib.hid (HB.out.trans (hb.mono HB.out.size)); clear hb hr2 hg2 hc2)
      | (go_at_call 40; (with_reducible refine Calls.mono (T3.out _) ?_); rintro e w3 ⟨⟨g3, c3, rfl, hg3, hc3, hr3⟩, hb⟩; clear T3; replace HR1 := Lib.hid (rd_on HR1.out hb); replace HR2 := Lib.hid (rd_on HR2.out hb); have HR3 := Lib.hid hr3; replace HK := Lib.hid (HK.out.below hb); replace HB := Lib.hid (HB.out.trans (hb.mono HB.out.size)); clear hb hr3 hg3 hc3)
      | (go_at_call 38; refine Calls.mono (wrap_any 98 [l1, l2, l3] _ 3 3 (w3.heap.size + 1) _ (lay_three HR1.out HR2.out HR3.out) rfl (by simp) HL.out (by simp)) ?_; rintro e wz ⟨⟨gz, cz, rfl, hgz, hcz, hrz⟩, hb⟩; have hal := (Below.refl w3.heap.size w3).alloc (Nat.le_refl _) (.cells #[.slice (some ⟨g1, 0, none⟩) l1.length c1, .slice (some ⟨g2, 0, none⟩) l2.length c2, .slice (some ⟨g3, 0, none⟩) l3.length c3] 26); have HG := Lib.hid (gives_on (l := elem 98 [l1, l2, l3].flatten) ⟨⟨gz, cz, rfl, hgz, hcz, hrz⟩, hb⟩ (HB.out.trans (hal.mono HB.out.size))); rw [flat3] at HG; replace HK := Lib.hid ((HK.out.alloc (.cells #[.slice (some ⟨g1, 0, none⟩) l1.length c1, .slice (some ⟨g2, 0, none⟩) l2.length c2, .slice (some ⟨g3, 0, none⟩) l3.length c3] 26)).below hb); clear hal hgz hcz hrz hb)
      | (go_at_call 37; refine Calls.mono (LM.out _ _ _) ?_; rintro e wy ⟨rfl, rfl⟩)))
    go_wp2
    go_ret2
    exact enc_some HG.out
end Go.Proofs.YteeabfplnaknfaaGreat.Ms
end

section
set_option linter.unusedVariables false
set_option linter.unusedSimpArgs false
namespace Go.Proofs.YteeabfplnaknfaaGreat.Ms
open Go.RowKit Go.Proofs.YteeabfplnaknfaaGreat.Mem Go.Proofs.YteeabfplnaknfaaGreat.DerP Go.Proofs.YteeabfplnaknfaaGreat.DerR

theorem rlimit_no (l : L) (A : Option Addr) (n c : Nat) (w : World) (hn : n = l.length) (h : ¬ l.length ≤ 2000) : Calls Tryz.prog 37 #[.slice A n c] w fun e w' => e = .returned (.tuple #[.slice none 0 0, .int .i64 1]) ∧ w = w' := by
  have := rlimit_any l A n c w hn
  rwa [if_neg h] at this
set_option maxHeartbeats 12800000 in
set_option maxRecDepth 100000 in
theorem renc8_any (m : Mg) (A1 A2 A3 A4 A5 A6 : Option Addr) (c1 c2 c3 c4 c5 c6 : Nat) (w : World) (hs : mSm m) (r1 : Rd w w.heap.size A1 (bvs m.tg.t.b)) (r2 : Rd w w.heap.size A2 (bvs m.tg.a)) (r3 : Rd w w.heap.size A3 (bvs m.re.t.b)) (r4 : Rd w w.heap.size A4 (bvs m.re.b)) (r5 : Rd w w.heap.size A5 (bvs m.ap.t.b)) (r6 : Rd w w.heap.size A6 (bvs m.ap.a)) :
    Calls Tryz.prog 10 #[.agg #[.int .i64 m.k, .string ⟨m.aq.c.1.toArray⟩, .string ⟨m.aq.c.2.toArray⟩, .string ⟨m.aq.s.1.toArray⟩, .string ⟨m.aq.s.2.toArray⟩, .int .i64 m.aq.t, .int .i64 m.aq.no, .string ⟨m.tg.t.s.1.toArray⟩, .string ⟨m.tg.t.s.2.toArray⟩, .int .i64 m.tg.t.k, .slice A1 m.tg.t.b.length c1, .slice A2 m.tg.a.length c2, .string ⟨m.tg.s.1.toArray⟩, .string ⟨m.tg.s.2.toArray⟩, .int .i64 m.tg.u, .int .i64 m.tg.no, .string ⟨m.re.c.1.toArray⟩, .string ⟨m.re.c.2.toArray⟩, .string ⟨m.re.t.s.1.toArray⟩, .string ⟨m.re.t.s.2.toArray⟩, .int .i64 m.re.t.k, .slice A3 m.re.t.b.length c3, .slice A4 m.re.b.length c4, .string ⟨m.ap.t.s.1.toArray⟩, .string ⟨m.ap.t.s.2.toArray⟩, .int .i64 m.ap.t.k, .slice A5 m.ap.t.b.length c5, .slice A6 m.ap.a.length c6, .int .i64 m.fa.e, .int .i64 m.fa.no]] w (EncR w (mgO m)) := by
  have I1 := Lib.hid (fun w1 => ris8_any m A1 A2 A3 A4 A5 A6 c1 c2 c3 c4 c5 c6 w1 hs)
  have HI := Lib.hid (show (Tryz.prog.info? 39).map (·.size) = some (#[.int .i64 m.k, .string ⟨m.aq.c.1.toArray⟩, .string ⟨m.aq.c.2.toArray⟩, .string ⟨m.aq.s.1.toArray⟩, .string ⟨m.aq.s.2.toArray⟩, .int .i64 m.aq.t, .int .i64 m.aq.no, .string ⟨m.tg.t.s.1.toArray⟩, .string ⟨m.tg.t.s.2.toArray⟩, .int .i64 m.tg.t.k, .slice A1 m.tg.t.b.length c1, .slice A2 m.tg.a.length c2, .string ⟨m.tg.s.1.toArray⟩, .string ⟨m.tg.s.2.toArray⟩, .int .i64 m.tg.u, .int .i64 m.tg.no, .string ⟨m.re.c.1.toArray⟩, .string ⟨m.re.c.2.toArray⟩, .string ⟨m.re.t.s.1.toArray⟩, .string ⟨m.re.t.s.2.toArray⟩, .int .i64 m.re.t.k, .slice A3 m.re.t.b.length c3, .slice A4 m.re.b.length c4, .string ⟨m.ap.t.s.1.toArray⟩, .string ⟨m.ap.t.s.2.toArray⟩, .int .i64 m.ap.t.k, .slice A5 m.ap.t.b.length c5, .slice A6 m.ap.a.length c6, .int .i64 m.fa.e, .int .i64 m.fa.no] : Array Value).size by kernel_rfl)
  obtain ⟨cs, ecs⟩ : ∃ cs : Array Value, cs = #[.int .i64 m.k, .string ⟨m.aq.c.1.toArray⟩, .string ⟨m.aq.c.2.toArray⟩, .string ⟨m.aq.s.1.toArray⟩, .string ⟨m.aq.s.2.toArray⟩, .int .i64 m.aq.t, .int .i64 m.aq.no, .string ⟨m.tg.t.s.1.toArray⟩, .string ⟨m.tg.t.s.2.toArray⟩, .int .i64 m.tg.t.k, .slice A1 m.tg.t.b.length c1, .slice A2 m.tg.a.length c2, .string ⟨m.tg.s.1.toArray⟩, .string ⟨m.tg.s.2.toArray⟩, .int .i64 m.tg.u, .int .i64 m.tg.no, .string ⟨m.re.c.1.toArray⟩, .string ⟨m.re.c.2.toArray⟩, .string ⟨m.re.t.s.1.toArray⟩, .string ⟨m.re.t.s.2.toArray⟩, .int .i64 m.re.t.k, .slice A3 m.re.t.b.length c3, .slice A4 m.re.b.length c4, .string ⟨m.ap.t.s.1.toArray⟩, .string ⟨m.ap.t.s.2.toArray⟩, .int .i64 m.ap.t.k, .slice A5 m.ap.t.b.length c5, .slice A6 m.ap.a.length c6, .int .i64 m.fa.e, .int .i64 m.fa.no] := ⟨_, rfl⟩
  rw [← ecs] at I1 HI ⊢
  have EC := Lib.hid ecs
  clear ecs
  have HB := Lib.hid ((Below.refl w.heap.size w).alloc (Nat.le_refl _) (.cells cs 39))
  have HK := Lib.hid (Blk.new w 39 cs)
  cases hx : mgB m with
  | false =>
    rw [hx] at I1
    have E := Lib.hid (show mgO m = none by unfold mgO limO; rw [hx]; rfl)
    rw [E.out]
    clear hx E hs r1 r2 r3 r4 r5 r6
    go_enter Tryz.func10, Tryz.ntmps10
    go_wp2_with (first
      | (refine load_cells (by rfl) 39 (.tmp 1) (by rfl) w.heap.size 0 (by rfl) cs _ (range_blk (Blk.new w 39 cs)) Tryz.underlying39 (by rfl) HI.out ?_)
      | (go_at_call 36; refine Calls.mono (I1.out _) ?_; rintro e w1 ⟨rfl, hb⟩; replace HB := Lib.hid (HB.out.trans (hb.mono HB.out.size)); clear hb I1)
      | fail)
    go_ret2
    exact enc_none HB.out
  | true =>
    rw [hx] at I1
    rcases mg_cases hx with ⟨h1, e⟩ | ⟨h1, e⟩ | ⟨h1, e⟩ | ⟨h1, e⟩ | ⟨h1, e⟩
    · have h' : prB m.aq.c = true ∧ prB m.aq.s = true ∧ tmB m.aq.t = true ∧ tmB m.aq.no = true := by simpa [asB] using h1
      have b1 := pr_len h'.1
      have b2 := pr_len h'.2.1
      have b3 := (prE_len h'.1).1
      have b4 := (prE_len h'.2.1).1
      have b5 := encI_le m.aq.t
      have b6 := encI_le m.aq.no
      have hk : m.k = 1 := by rw [e]
      have y1 : (m.k == 1) = true := by rw [hk]; rfl
      have y2 : (m.k == 2) = false := by rw [hk]; rfl
      have y3 : (m.k == 3) = false := by rw [hk]; rfl
      have y4 : (m.k == 4) = false := by rw [hk]; rfl
      have y5 : (m.k == 5) = false := by rw [hk]; rfl
      have hE0 : mgE m = elem 106 [prE m.aq.c, prE m.aq.s, encI m.aq.t, encI m.aq.no].flatten := by rw [e]; rfl
      have hO : ∀ l, mgE m = l → l.length ≤ 2000 → mgO m = some l := fun l e2 h2 => lim_iff.2 ⟨hx, by rw [e2]; exact h2, e2⟩
      have hN : ∀ l, mgE m = l → ¬ l.length ≤ 2000 → mgO m = none := fun l e2 h2 => by unfold mgO limO; rw [e2, if_neg (fun h => h2 h.2)]
      have HO := Lib.hid (hO _ hE0)
      have HN := Lib.hid (hN _ hE0)
      have T1 := Lib.hid (fun w1 => rprinc_any m.aq.c w1 (by omega) (by omega))
      have T2 := Lib.hid (fun w1 => rprinc_any m.aq.s w1 (by omega) (by omega))
      have T3 := Lib.hid (fun w1 => DerR.int_any m.aq.t w1)
      have T4 := Lib.hid (fun w1 => DerR.int_any m.aq.no w1)
      have hl : [prE m.aq.c, prE m.aq.s, encI m.aq.t, encI m.aq.no].flatten.length ≤ 60000 := by rw [flat4]; simp only [List.length_append]; omega
      have hl2 : [prE m.aq.c, prE m.aq.s, encI m.aq.t, encI m.aq.no].flatten.length ≤ 1990 := by rw [flat4]; simp only [List.length_append]; omega
      have HL := Lib.hid (show [prE m.aq.c, prE m.aq.s, encI m.aq.t, encI m.aq.no].flatten.length ≤ 65535 by omega)
      have hE := elem_len 106 [prE m.aq.c, prE m.aq.s, encI m.aq.t, encI m.aq.no].flatten
      rw [flat4] at hE hl HO HN hl2
      obtain ⟨l1, el1⟩ : ∃ l, l = prE m.aq.c := ⟨_, rfl⟩
      obtain ⟨l2, el2⟩ : ∃ l, l = prE m.aq.s := ⟨_, rfl⟩
      obtain ⟨l3, el3⟩ : ∃ l, l = encI m.aq.t := ⟨_, rfl⟩
      obtain ⟨l4, el4⟩ : ∃ l, l = encI m.aq.no := ⟨_, rfl⟩
      rw [← el1] at T1 HL hE hl HO HN hl2
      rw [← el2] at T2 HL hE hl HO HN hl2
      rw [← el3] at T3 HL hE hl HO HN hl2
      rw [← el4] at T4 HL hE hl HO HN hl2
      have hlm : (elem 106 (l1 ++ (l2 ++ (l3 ++ l4)))).length ≤ 2000 := by omega
      have LM := Lib.hid (fun A c w1 => rlimit_ok (elem 106 (l1 ++ (l2 ++ (l3 ++ l4)))) A _ c w1 rfl hlm)
      rw [HO.out hlm]
      clear h1 e h' hx hE0 hO hN hk hs r1 r2 r3 r4 r5 r6 hE hl hl2 b1 b2 b3 b4 b5 b6 el1 el2 el3 el4 HO HN hlm
      go_enter Tryz.func10, Tryz.ntmps10
      go_wp2_with (first
        | (refine load_cells (by rfl) 39 (.tmp 1) (by rfl) w.heap.size 0 (by rfl) cs _ (range_blk (Blk.new w 39 cs)) Tryz.underlying39 (by rfl) HI.out ?_)
        | (go_at_call 36; refine Calls.mono (I1.out _) ?_; rintro e w0 ⟨rfl, hb⟩; replace HK := Lib.hid (HK.out.below hb); replace HB := Lib.hid (HB.out.trans (hb.mono HB.out.size)); clear hb I1; replace HK := Lib.hid (EC.out ▸ HK.out); have k0 : w0.cell? ⟨w.heap.size, 0, none⟩ = some (.int .i64 m.k) := HK.out.cell 0; have k1 : w0.cell? ⟨w.heap.size, 1, none⟩ = some (.string ⟨m.aq.c.1.toArray⟩) := HK.out.cell 1; have k2 : w0.cell? ⟨w.heap.size, 2, none⟩ = some (.string ⟨m.aq.c.2.toArray⟩) := HK.out.cell 2; have k3 : w0.cell? ⟨w.heap.size, 3, none⟩ = some (.string ⟨m.aq.s.1.toArray⟩) := HK.out.cell 3; have k4 : w0.cell? ⟨w.heap.size, 4, none⟩ = some (.string ⟨m.aq.s.2.toArray⟩) := HK.out.cell 4; have k5 : w0.cell? ⟨w.heap.size, 5, none⟩ = some (.int .i64 m.aq.t) := HK.out.cell 5; have k6 : w0.cell? ⟨w.heap.size, 6, none⟩ = some (.int .i64 m.aq.no) := HK.out.cell 6)
        | fail)
      clear k0 k1 k2 k3 k4 k5 k6
      replace HB := Lib.hid (HB.out.alloc HB.out.size (.cells #[.string ⟨m.aq.c.1.toArray⟩, .string ⟨m.aq.c.2.toArray⟩, .string ⟨m.aq.s.1.toArray⟩, .string ⟨m.aq.s.2.toArray⟩, .int .i64 m.aq.t, .int .i64 m.aq.no] 25))
      replace HK := Lib.hid (Blk.new w0 25 #[.string ⟨m.aq.c.1.toArray⟩, .string ⟨m.aq.c.2.toArray⟩, .string ⟨m.aq.s.1.toArray⟩, .string ⟨m.aq.s.2.toArray⟩, .int .i64 m.aq.t, .int .i64 m.aq.no])
      obtain ⟨W, eW⟩ : ∃ W, W = w0.alloc (.cells #[.string ⟨m.aq.c.1.toArray⟩, .string ⟨m.aq.c.2.toArray⟩, .string ⟨m.aq.s.1.toArray⟩, .string ⟨m.aq.s.2.toArray⟩, .int .i64 m.aq.t, .int .i64 m.aq.no] 25) := ⟨_, rfl⟩
      rw [← eW] at HB HK ⊢
      clear eW
      replace HK := Lib.hid (show Blk W.drew _ _ _ from HK.out.drewN 1)
      replace HB := Lib.hid (show Below _ _ W.drew from below_drewN HB.out 1)
      go_region_held3 (fun w' => w'.cell? ⟨w0.heap.size, 0, none⟩ = some (.string ⟨m.aq.c.1.toArray⟩) ∧ w'.cell? ⟨w0.heap.size, 1, none⟩ = some (.string ⟨m.aq.c.2.toArray⟩) ∧ w'.cell? ⟨w0.heap.size, 2, none⟩ = some (.string ⟨m.aq.s.1.toArray⟩) ∧ w'.cell? ⟨w0.heap.size, 3, none⟩ = some (.string ⟨m.aq.s.2.toArray⟩) ∧ w'.cell? ⟨w0.heap.size, 4, none⟩ = some (.int .i64 m.aq.t) ∧ w'.cell? ⟨w0.heap.size, 5, none⟩ = some (.int .i64 m.aq.no)) (first | exact ⟨HK.out.cell 0, HK.out.cell 1, HK.out.cell 2, HK.out.cell 3, HK.out.cell 4, HK.out.cell 5⟩ | exact ⟨(HK.out.alloc _).cell 0, (HK.out.alloc _).cell 1, (HK.out.alloc _).cell 2, (HK.out.alloc _).cell 3, (HK.out.alloc _).cell 4, (HK.out.alloc _).cell 5⟩) ((first
        | (go_at_call 39; (with_reducible refine Calls.mono (T1.out _) ?_); rintro e w1 ⟨⟨g1, c1, rfl, hg1, hc1, hr1⟩, hb⟩; clear T1; have HR1 := Lib.hid hr1; replace HK := Lib.hid (HK.out.below hb); replace HB := Lib.hid (HB.out.trans (hb.mono HB.out.size)); clear hb hr1 hg1 hc1)
        | (go_at_call 39; (with_reducible refine Calls.mono (T2.out _) ?_); rintro e w2 ⟨⟨g2, c2, rfl, hg2, hc2, hr2⟩, hb⟩; clear T2; replace HR1 := Lib.hid (rd_on HR1.out hb); have HR2 := Lib.hid hr2; replace HK := Lib.hid (HK.out.below hb); replace HB := Lib.hid (HB.out.trans (hb.mono HB.out.size)); clear hb hr2 hg2 hc2)
        | (go_at_call 40; (with_reducible refine Calls.mono (T3.out _) ?_); rintro e w3 ⟨⟨g3, c3, rfl, hg3, hc3, hr3⟩, hb⟩; clear T3; replace HR1 := Lib.hid (rd_on HR1.out hb); replace HR2 := Lib.hid (rd_on HR2.out hb); have HR3 := Lib.hid hr3; replace HK := Lib.hid (HK.out.below hb); replace HB := Lib.hid (HB.out.trans (hb.mono HB.out.size)); clear hb hr3 hg3 hc3)
        | (go_at_call 40; (with_reducible refine Calls.mono (T4.out _) ?_); rintro e w4 ⟨⟨g4, c4, rfl, hg4, hc4, hr4⟩, hb⟩; clear T4; replace HR1 := Lib.hid (rd_on HR1.out hb); replace HR2 := Lib.hid (rd_on HR2.out hb); replace HR3 := Lib.hid (rd_on HR3.out hb); have HR4 := Lib.hid hr4; replace HK := Lib.hid (HK.out.below hb); replace HB := Lib.hid (HB.out.trans (hb.mono HB.out.size)); clear hb hr4 hg4 hc4)
        | (go_at_call 38; refine Calls.mono (wrap_any 106 [l1, l2, l3, l4] _ 4 4 (w4.heap.size + 1) _ (lay_four HR1.out HR2.out HR3.out HR4.out) rfl (by simp) HL.out (by simp)) ?_; rintro e wz ⟨⟨gz, cz, rfl, hgz, hcz, hrz⟩, hb⟩; have hal := (Below.refl w4.heap.size w4).alloc (Nat.le_refl _) (.cells #[.slice (some ⟨g1, 0, none⟩) l1.length c1, .slice (some ⟨g2, 0, none⟩) l2.length c2, .slice (some ⟨g3, 0, none⟩) l3.length c3, .slice (some ⟨g4, 0, none⟩) l4.length c4] 26); have HG := Lib.hid (gives_on (l := elem 106 [l1, l2, l3, l4].flatten) ⟨⟨gz, cz, rfl, hgz, hcz, hrz⟩, hb⟩ (HB.out.trans (hal.mono HB.out.size))); rw [flat4] at HG; replace HK := Lib.hid ((HK.out.alloc (.cells #[.slice (some ⟨g1, 0, none⟩) l1.length c1, .slice (some ⟨g2, 0, none⟩) l2.length c2, .slice (some ⟨g3, 0, none⟩) l3.length c3, .slice (some ⟨g4, 0, none⟩) l4.length c4] 26)).below hb); clear hal hgz hcz hrz hb)
        | (go_at_call 37; refine Calls.mono (LM.out _ _ _) ?_; rintro e wy ⟨rfl, rfl⟩)))
      go_wp2
      go_ret2
      exact enc_some HG.out
    · have h' : tkB m.tg.t = true ∧ blobB m.tg.a = true ∧ prB m.tg.s = true ∧ tmB m.tg.u = true ∧ tmB m.tg.no = true := by simpa [tgB] using h1
      have b1 := tk_parts h'.1
      have b2 := pr_len b1.1
      have b3 := (tkE_len h'.1).1
      have b4 := blob_parts h'.2.1
      have b5 := elem_len 4 m.tg.a
      have b6 := pr_len h'.2.2.1
      have b7 := (prE_len h'.2.2.1).1
      have b8 := encI_le m.tg.u
      have b9 := encI_le m.tg.no
      have hk : m.k = 2 := by rw [e]
      have y1 : (m.k == 1) = false := by rw [hk]; rfl
      have y2 : (m.k == 2) = true := by rw [hk]; rfl
      have y3 : (m.k == 3) = false := by rw [hk]; rfl
      have y4 : (m.k == 4) = false := by rw [hk]; rfl
      have y5 : (m.k == 5) = false := by rw [hk]; rfl
      have hE0 : mgE m = elem 108 [tkE m.tg.t, elem 4 m.tg.a, prE m.tg.s, encI m.tg.u, encI m.tg.no].flatten := by rw [e]; rfl
      have hO : ∀ l, mgE m = l → l.length ≤ 2000 → mgO m = some l := fun l e2 h2 => lim_iff.2 ⟨hx, by rw [e2]; exact h2, e2⟩
      have hN : ∀ l, mgE m = l → ¬ l.length ≤ 2000 → mgO m = none := fun l e2 h2 => by unfold mgO limO; rw [e2, if_neg (fun h => h2 h.2)]
      have HO := Lib.hid (hO _ hE0)
      have HN := Lib.hid (hN _ hE0)
      have T1 := Lib.hid (fun w1 (h : Below w.heap.size w w1) => rtick_any m.tg.t A1 c1 w1.heap.size w1 (by omega) (by omega) (by omega) ((r1.below h).more h.size) (Nat.le_refl _))
      have T2 := Lib.hid (fun w1 (h : Below w.heap.size w w1) => DerR.octets_any m.tg.a A2 m.tg.a.length c2 w1.heap.size w1 ((r2.below h).more h.size) rfl (Nat.le_refl _) (by omega))
      have T3 := Lib.hid (fun w1 => rprinc_any m.tg.s w1 (by omega) (by omega))
      have T4 := Lib.hid (fun w1 => DerR.int_any m.tg.u w1)
      have T5 := Lib.hid (fun w1 => DerR.int_any m.tg.no w1)
      have hl : [tkE m.tg.t, elem 4 m.tg.a, prE m.tg.s, encI m.tg.u, encI m.tg.no].flatten.length ≤ 60000 := by rw [flat5]; simp only [List.length_append]; omega
      have hl2 : True := by trivial
      have HL := Lib.hid (show [tkE m.tg.t, elem 4 m.tg.a, prE m.tg.s, encI m.tg.u, encI m.tg.no].flatten.length ≤ 65535 by omega)
      have hE := elem_len 108 [tkE m.tg.t, elem 4 m.tg.a, prE m.tg.s, encI m.tg.u, encI m.tg.no].flatten
      rw [flat5] at hE hl HO HN
      obtain ⟨l1, el1⟩ : ∃ l, l = tkE m.tg.t := ⟨_, rfl⟩
      obtain ⟨l2, el2⟩ : ∃ l, l = elem 4 m.tg.a := ⟨_, rfl⟩
      obtain ⟨l3, el3⟩ : ∃ l, l = prE m.tg.s := ⟨_, rfl⟩
      obtain ⟨l4, el4⟩ : ∃ l, l = encI m.tg.u := ⟨_, rfl⟩
      obtain ⟨l5, el5⟩ : ∃ l, l = encI m.tg.no := ⟨_, rfl⟩
      rw [← el1] at T1 HL hE hl HO HN
      rw [← el2] at T2 HL hE hl HO HN
      rw [← el3] at T3 HL hE hl HO HN
      rw [← el4] at T4 HL hE hl HO HN
      rw [← el5] at T5 HL hE hl HO HN
      by_cases hlim : (elem 108 (l1 ++ (l2 ++ (l3 ++ (l4 ++ l5))))).length ≤ 2000
      · have hlm : (elem 108 (l1 ++ (l2 ++ (l3 ++ (l4 ++ l5))))).length ≤ 2000 := hlim
        have LM := Lib.hid (fun A c w1 => rlimit_ok (elem 108 (l1 ++ (l2 ++ (l3 ++ (l4 ++ l5))))) A _ c w1 rfl hlm)
        rw [HO.out hlm]
        clear h1 e h' hx hE0 hO hN hk hs r1 r2 r3 r4 r5 r6 hE hl hl2 b1 b2 b3 b4 b5 b6 b7 b8 b9 el1 el2 el3 el4 el5 HO HN hlm hlim
        go_enter Tryz.func10, Tryz.ntmps10
        go_wp2_with (first
          | (refine load_cells (by rfl) 39 (.tmp 1) (by rfl) w.heap.size 0 (by rfl) cs _ (range_blk (Blk.new w 39 cs)) Tryz.underlying39 (by rfl) HI.out ?_)
          | (go_at_call 36; refine Calls.mono (I1.out _) ?_; rintro e w0 ⟨rfl, hb⟩; replace HK := Lib.hid (HK.out.below hb); replace HB := Lib.hid (HB.out.trans (hb.mono HB.out.size)); clear hb I1; replace HK := Lib.hid (EC.out ▸ HK.out); have k0 : w0.cell? ⟨w.heap.size, 0, none⟩ = some (.int .i64 m.k) := HK.out.cell 0; have k7 : w0.cell? ⟨w.heap.size, 7, none⟩ = some (.string ⟨m.tg.t.s.1.toArray⟩) := HK.out.cell 7; have k8 : w0.cell? ⟨w.heap.size, 8, none⟩ = some (.string ⟨m.tg.t.s.2.toArray⟩) := HK.out.cell 8; have k9 : w0.cell? ⟨w.heap.size, 9, none⟩ = some (.int .i64 m.tg.t.k) := HK.out.cell 9; have k10 : w0.cell? ⟨w.heap.size, 10, none⟩ = some (.slice A1 m.tg.t.b.length c1) := HK.out.cell 10; have k11 : w0.cell? ⟨w.heap.size, 11, none⟩ = some (.slice A2 m.tg.a.length c2) := HK.out.cell 11; have k12 : w0.cell? ⟨w.heap.size, 12, none⟩ = some (.string ⟨m.tg.s.1.toArray⟩) := HK.out.cell 12; have k13 : w0.cell? ⟨w.heap.size, 13, none⟩ = some (.string ⟨m.tg.s.2.toArray⟩) := HK.out.cell 13; have k14 : w0.cell? ⟨w.heap.size, 14, none⟩ = some (.int .i64 m.tg.u) := HK.out.cell 14; have k15 : w0.cell? ⟨w.heap.size, 15, none⟩ = some (.int .i64 m.tg.no) := HK.out.cell 15)
          | fail)
        clear k0 k7 k8 k9 k10 k11 k12 k13 k14 k15
        replace HB := Lib.hid (HB.out.alloc HB.out.size (.cells #[.string ⟨m.tg.t.s.1.toArray⟩, .string ⟨m.tg.t.s.2.toArray⟩, .int .i64 m.tg.t.k, .slice A1 m.tg.t.b.length c1, .slice A2 m.tg.a.length c2, .string ⟨m.tg.s.1.toArray⟩, .string ⟨m.tg.s.2.toArray⟩, .int .i64 m.tg.u, .int .i64 m.tg.no] 30))
        replace HK := Lib.hid (Blk.new w0 30 #[.string ⟨m.tg.t.s.1.toArray⟩, .string ⟨m.tg.t.s.2.toArray⟩, .int .i64 m.tg.t.k, .slice A1 m.tg.t.b.length c1, .slice A2 m.tg.a.length c2, .string ⟨m.tg.s.1.toArray⟩, .string ⟨m.tg.s.2.toArray⟩, .int .i64 m.tg.u, .int .i64 m.tg.no])
        obtain ⟨W, eW⟩ : ∃ W, W = w0.alloc (.cells #[.string ⟨m.tg.t.s.1.toArray⟩, .string ⟨m.tg.t.s.2.toArray⟩, .int .i64 m.tg.t.k, .slice A1 m.tg.t.b.length c1, .slice A2 m.tg.a.length c2, .string ⟨m.tg.s.1.toArray⟩, .string ⟨m.tg.s.2.toArray⟩, .int .i64 m.tg.u, .int .i64 m.tg.no] 30) := ⟨_, rfl⟩
        rw [← eW] at HB HK ⊢
        clear eW
        replace HK := Lib.hid (show Blk W.drew _ _ _ from HK.out.drewN 1)
        replace HB := Lib.hid (show Below _ _ W.drew from below_drewN HB.out 1)
        go_region_held3 (fun w' => w'.cell? ⟨w0.heap.size, 0, none⟩ = some (.string ⟨m.tg.t.s.1.toArray⟩) ∧ w'.cell? ⟨w0.heap.size, 1, none⟩ = some (.string ⟨m.tg.t.s.2.toArray⟩) ∧ w'.cell? ⟨w0.heap.size, 2, none⟩ = some (.int .i64 m.tg.t.k) ∧ w'.cell? ⟨w0.heap.size, 3, none⟩ = some (.slice A1 m.tg.t.b.length c1) ∧ w'.cell? ⟨w0.heap.size, 4, none⟩ = some (.slice A2 m.tg.a.length c2) ∧ w'.cell? ⟨w0.heap.size, 5, none⟩ = some (.string ⟨m.tg.s.1.toArray⟩) ∧ w'.cell? ⟨w0.heap.size, 6, none⟩ = some (.string ⟨m.tg.s.2.toArray⟩) ∧ w'.cell? ⟨w0.heap.size, 7, none⟩ = some (.int .i64 m.tg.u) ∧ w'.cell? ⟨w0.heap.size, 8, none⟩ = some (.int .i64 m.tg.no)) (first | exact ⟨HK.out.cell 0, HK.out.cell 1, HK.out.cell 2, HK.out.cell 3, HK.out.cell 4, HK.out.cell 5, HK.out.cell 6, HK.out.cell 7, HK.out.cell 8⟩ | exact ⟨(HK.out.alloc _).cell 0, (HK.out.alloc _).cell 1, (HK.out.alloc _).cell 2, (HK.out.alloc _).cell 3, (HK.out.alloc _).cell 4, (HK.out.alloc _).cell 5, (HK.out.alloc _).cell 6, (HK.out.alloc _).cell 7, (HK.out.alloc _).cell 8⟩) ((first
          | (go_at_call 41; (with_reducible refine Calls.mono (T1.out _ HB.out) ?_); rintro e w1 ⟨⟨g1, c1, rfl, hg1, hc1, hr1⟩, hb⟩; clear T1; have HR1 := Lib.hid hr1; replace HK := Lib.hid (HK.out.below hb); replace HB := Lib.hid (HB.out.trans (hb.mono HB.out.size)); clear hb hr1 hg1 hc1)
          | (go_at_call 42; (with_reducible refine Calls.mono (T2.out _ HB.out) ?_); rintro e w2 ⟨⟨g2, c2, rfl, hg2, hc2, hr2⟩, hb⟩; clear T2; replace HR1 := Lib.hid (rd_on HR1.out hb); have HR2 := Lib.hid hr2; replace HK := Lib.hid (HK.out.below hb); replace HB := Lib.hid (HB.out.trans (hb.mono HB.out.size)); clear hb hr2 hg2 hc2)
          | (go_at_call 39; (with_reducible refine Calls.mono (T3.out _) ?_); rintro e w3 ⟨⟨g3, c3, rfl, hg3, hc3, hr3⟩, hb⟩; clear T3; replace HR1 := Lib.hid (rd_on HR1.out hb); replace HR2 := Lib.hid (rd_on HR2.out hb); have HR3 := Lib.hid hr3; replace HK := Lib.hid (HK.out.below hb); replace HB := Lib.hid (HB.out.trans (hb.mono HB.out.size)); clear hb hr3 hg3 hc3)
          | (go_at_call 40; (with_reducible refine Calls.mono (T4.out _) ?_); rintro e w4 ⟨⟨g4, c4, rfl, hg4, hc4, hr4⟩, hb⟩; clear T4; replace HR1 := Lib.hid (rd_on HR1.out hb); replace HR2 := Lib.hid (rd_on HR2.out hb); replace HR3 := Lib.hid (rd_on HR3.out hb); have HR4 := Lib.hid hr4; replace HK := Lib.hid (HK.out.below hb); replace HB := Lib.hid (HB.out.trans (hb.mono HB.out.size)); clear hb hr4 hg4 hc4)
          | (go_at_call 40; (with_reducible refine Calls.mono (T5.out _) ?_); rintro e w5 ⟨⟨g5, c5, rfl, hg5, hc5, hr5⟩, hb⟩; clear T5; replace HR1 := Lib.hid (rd_on HR1.out hb); replace HR2 := Lib.hid (rd_on HR2.out hb); replace HR3 := Lib.hid (rd_on HR3.out hb); replace HR4 := Lib.hid (rd_on HR4.out hb); have HR5 := Lib.hid hr5; replace HK := Lib.hid (HK.out.below hb); replace HB := Lib.hid (HB.out.trans (hb.mono HB.out.size)); clear hb hr5 hg5 hc5)
          | (go_at_call 38; refine Calls.mono (wrap_any 108 [l1, l2, l3, l4, l5] _ 5 5 (w5.heap.size + 1) _ (lay_five HR1.out HR2.out HR3.out HR4.out HR5.out) rfl (by simp) HL.out (by simp)) ?_; rintro e wz ⟨⟨gz, cz, rfl, hgz, hcz, hrz⟩, hb⟩; have hal := (Below.refl w5.heap.size w5).alloc (Nat.le_refl _) (.cells #[.slice (some ⟨g1, 0, none⟩) l1.length c1, .slice (some ⟨g2, 0, none⟩) l2.length c2, .slice (some ⟨g3, 0, none⟩) l3.length c3, .slice (some ⟨g4, 0, none⟩) l4.length c4, .slice (some ⟨g5, 0, none⟩) l5.length c5] 26); have HG := Lib.hid (gives_on (l := elem 108 [l1, l2, l3, l4, l5].flatten) ⟨⟨gz, cz, rfl, hgz, hcz, hrz⟩, hb⟩ (HB.out.trans (hal.mono HB.out.size))); rw [flat5] at HG; replace HK := Lib.hid ((HK.out.alloc (.cells #[.slice (some ⟨g1, 0, none⟩) l1.length c1, .slice (some ⟨g2, 0, none⟩) l2.length c2, .slice (some ⟨g3, 0, none⟩) l3.length c3, .slice (some ⟨g4, 0, none⟩) l4.length c4, .slice (some ⟨g5, 0, none⟩) l5.length c5] 26)).below hb); clear hal hgz hcz hrz hb)
          | (go_at_call 37; refine Calls.mono (LM.out _ _ _) ?_; rintro e wy ⟨rfl, rfl⟩)))
        go_wp2
        go_ret2
        exact enc_some HG.out
      · have hlm : ¬ (elem 108 (l1 ++ (l2 ++ (l3 ++ (l4 ++ l5))))).length ≤ 2000 := hlim
        have LM := Lib.hid (fun A c w1 => rlimit_no (elem 108 (l1 ++ (l2 ++ (l3 ++ (l4 ++ l5))))) A _ c w1 rfl hlm)
        rw [HN.out hlm]
        clear h1 e h' hx hE0 hO hN hk hs r1 r2 r3 r4 r5 r6 hE hl hl2 b1 b2 b3 b4 b5 b6 b7 b8 b9 el1 el2 el3 el4 el5 HO HN hlm hlim
        go_enter Tryz.func10, Tryz.ntmps10
        go_wp2_with (first
          | (refine load_cells (by rfl) 39 (.tmp 1) (by rfl) w.heap.size 0 (by rfl) cs _ (range_blk (Blk.new w 39 cs)) Tryz.underlying39 (by rfl) HI.out ?_)
          | (go_at_call 36; refine Calls.mono (I1.out _) ?_; rintro e w0 ⟨rfl, hb⟩; replace HK := Lib.hid (HK.out.below hb); replace HB := Lib.hid (HB.out.trans (hb.mono HB.out.size)); clear hb I1; replace HK := Lib.hid (EC.out ▸ HK.out); have k0 : w0.cell? ⟨w.heap.size, 0, none⟩ = some (.int .i64 m.k) := HK.out.cell 0; have k7 : w0.cell? ⟨w.heap.size, 7, none⟩ = some (.string ⟨m.tg.t.s.1.toArray⟩) := HK.out.cell 7; have k8 : w0.cell? ⟨w.heap.size, 8, none⟩ = some (.string ⟨m.tg.t.s.2.toArray⟩) := HK.out.cell 8; have k9 : w0.cell? ⟨w.heap.size, 9, none⟩ = some (.int .i64 m.tg.t.k) := HK.out.cell 9; have k10 : w0.cell? ⟨w.heap.size, 10, none⟩ = some (.slice A1 m.tg.t.b.length c1) := HK.out.cell 10; have k11 : w0.cell? ⟨w.heap.size, 11, none⟩ = some (.slice A2 m.tg.a.length c2) := HK.out.cell 11; have k12 : w0.cell? ⟨w.heap.size, 12, none⟩ = some (.string ⟨m.tg.s.1.toArray⟩) := HK.out.cell 12; have k13 : w0.cell? ⟨w.heap.size, 13, none⟩ = some (.string ⟨m.tg.s.2.toArray⟩) := HK.out.cell 13; have k14 : w0.cell? ⟨w.heap.size, 14, none⟩ = some (.int .i64 m.tg.u) := HK.out.cell 14; have k15 : w0.cell? ⟨w.heap.size, 15, none⟩ = some (.int .i64 m.tg.no) := HK.out.cell 15)
          | fail)
        clear k0 k7 k8 k9 k10 k11 k12 k13 k14 k15
        replace HB := Lib.hid (HB.out.alloc HB.out.size (.cells #[.string ⟨m.tg.t.s.1.toArray⟩, .string ⟨m.tg.t.s.2.toArray⟩, .int .i64 m.tg.t.k, .slice A1 m.tg.t.b.length c1, .slice A2 m.tg.a.length c2, .string ⟨m.tg.s.1.toArray⟩, .string ⟨m.tg.s.2.toArray⟩, .int .i64 m.tg.u, .int .i64 m.tg.no] 30))
        replace HK := Lib.hid (Blk.new w0 30 #[.string ⟨m.tg.t.s.1.toArray⟩, .string ⟨m.tg.t.s.2.toArray⟩, .int .i64 m.tg.t.k, .slice A1 m.tg.t.b.length c1, .slice A2 m.tg.a.length c2, .string ⟨m.tg.s.1.toArray⟩, .string ⟨m.tg.s.2.toArray⟩, .int .i64 m.tg.u, .int .i64 m.tg.no])
        obtain ⟨W, eW⟩ : ∃ W, W = w0.alloc (.cells #[.string ⟨m.tg.t.s.1.toArray⟩, .string ⟨m.tg.t.s.2.toArray⟩, .int .i64 m.tg.t.k, .slice A1 m.tg.t.b.length c1, .slice A2 m.tg.a.length c2, .string ⟨m.tg.s.1.toArray⟩, .string ⟨m.tg.s.2.toArray⟩, .int .i64 m.tg.u, .int .i64 m.tg.no] 30) := ⟨_, rfl⟩
        rw [← eW] at HB HK ⊢
        clear eW
        replace HK := Lib.hid (show Blk W.drew _ _ _ from HK.out.drewN 1)
        replace HB := Lib.hid (show Below _ _ W.drew from below_drewN HB.out 1)
        go_region_held3 (fun w' => w'.cell? ⟨w0.heap.size, 0, none⟩ = some (.string ⟨m.tg.t.s.1.toArray⟩) ∧ w'.cell? ⟨w0.heap.size, 1, none⟩ = some (.string ⟨m.tg.t.s.2.toArray⟩) ∧ w'.cell? ⟨w0.heap.size, 2, none⟩ = some (.int .i64 m.tg.t.k) ∧ w'.cell? ⟨w0.heap.size, 3, none⟩ = some (.slice A1 m.tg.t.b.length c1) ∧ w'.cell? ⟨w0.heap.size, 4, none⟩ = some (.slice A2 m.tg.a.length c2) ∧ w'.cell? ⟨w0.heap.size, 5, none⟩ = some (.string ⟨m.tg.s.1.toArray⟩) ∧ w'.cell? ⟨w0.heap.size, 6, none⟩ = some (.string ⟨m.tg.s.2.toArray⟩) ∧ w'.cell? ⟨w0.heap.size, 7, none⟩ = some (.int .i64 m.tg.u) ∧ w'.cell? ⟨w0.heap.size, 8, none⟩ = some (.int .i64 m.tg.no)) (first | exact ⟨HK.out.cell 0, HK.out.cell 1, HK.out.cell 2, HK.out.cell 3, HK.out.cell 4, HK.out.cell 5, HK.out.cell 6, HK.out.cell 7, HK.out.cell 8⟩ | exact ⟨(HK.out.alloc _).cell 0, (HK.out.alloc _).cell 1, (HK.out.alloc _).cell 2, (HK.out.alloc _).cell 3, (HK.out.alloc _).cell 4, (HK.out.alloc _).cell 5, (HK.out.alloc _).cell 6, (HK.out.alloc _).cell 7, (HK.out.alloc _).cell 8⟩) ((first
          | (go_at_call 41; (with_reducible refine Calls.mono (T1.out _ HB.out) ?_); rintro e w1 ⟨⟨g1, c1, rfl, hg1, hc1, hr1⟩, hb⟩; clear T1; have HR1 := Lib.hid hr1; replace HK := Lib.hid (HK.out.below hb); replace HB := Lib.hid (HB.out.trans (hb.mono HB.out.size)); clear hb hr1 hg1 hc1)
          | (go_at_call 42; (with_reducible refine Calls.mono (T2.out _ HB.out) ?_); rintro e w2 ⟨⟨g2, c2, rfl, hg2, hc2, hr2⟩, hb⟩; clear T2; replace HR1 := Lib.hid (rd_on HR1.out hb); have HR2 := Lib.hid hr2; replace HK := Lib.hid (HK.out.below hb); replace HB := Lib.hid (HB.out.trans (hb.mono HB.out.size)); clear hb hr2 hg2 hc2)
          | (go_at_call 39; (with_reducible refine Calls.mono (T3.out _) ?_); rintro e w3 ⟨⟨g3, c3, rfl, hg3, hc3, hr3⟩, hb⟩; clear T3; replace HR1 := Lib.hid (rd_on HR1.out hb); replace HR2 := Lib.hid (rd_on HR2.out hb); have HR3 := Lib.hid hr3; replace HK := Lib.hid (HK.out.below hb); replace HB := Lib.hid (HB.out.trans (hb.mono HB.out.size)); clear hb hr3 hg3 hc3)
          | (go_at_call 40; (with_reducible refine Calls.mono (T4.out _) ?_); rintro e w4 ⟨⟨g4, c4, rfl, hg4, hc4, hr4⟩, hb⟩; clear T4; replace HR1 := Lib.hid (rd_on HR1.out hb); replace HR2 := Lib.hid (rd_on HR2.out hb); replace HR3 := Lib.hid (rd_on HR3.out hb); have HR4 := Lib.hid hr4; replace HK := Lib.hid (HK.out.below hb); replace HB := Lib.hid (HB.out.trans (hb.mono HB.out.size)); clear hb hr4 hg4 hc4)
          | (go_at_call 40; (with_reducible refine Calls.mono (T5.out _) ?_); rintro e w5 ⟨⟨g5, c5, rfl, hg5, hc5, hr5⟩, hb⟩; clear T5; replace HR1 := Lib.hid (rd_on HR1.out hb); replace HR2 := Lib.hid (rd_on HR2.out hb); replace HR3 := Lib.hid (rd_on HR3.out hb); replace HR4 := Lib.hid (rd_on HR4.out hb); have HR5 := Lib.hid hr5; replace HK := Lib.hid (HK.out.below hb); replace HB := Lib.hid (HB.out.trans (hb.mono HB.out.size)); clear hb hr5 hg5 hc5)
          | (go_at_call 38; refine Calls.mono (wrap_any 108 [l1, l2, l3, l4, l5] _ 5 5 (w5.heap.size + 1) _ (lay_five HR1.out HR2.out HR3.out HR4.out HR5.out) rfl (by simp) HL.out (by simp)) ?_; rintro e wz ⟨⟨gz, cz, rfl, hgz, hcz, hrz⟩, hb⟩; have hal := (Below.refl w5.heap.size w5).alloc (Nat.le_refl _) (.cells #[.slice (some ⟨g1, 0, none⟩) l1.length c1, .slice (some ⟨g2, 0, none⟩) l2.length c2, .slice (some ⟨g3, 0, none⟩) l3.length c3, .slice (some ⟨g4, 0, none⟩) l4.length c4, .slice (some ⟨g5, 0, none⟩) l5.length c5] 26); have HG := Lib.hid (gives_on (l := elem 108 [l1, l2, l3, l4, l5].flatten) ⟨⟨gz, cz, rfl, hgz, hcz, hrz⟩, hb⟩ (HB.out.trans (hal.mono HB.out.size))); rw [flat5] at HG; replace HK := Lib.hid ((HK.out.alloc (.cells #[.slice (some ⟨g1, 0, none⟩) l1.length c1, .slice (some ⟨g2, 0, none⟩) l2.length c2, .slice (some ⟨g3, 0, none⟩) l3.length c3, .slice (some ⟨g4, 0, none⟩) l4.length c4, .slice (some ⟨g5, 0, none⟩) l5.length c5] 26)).below hb); clear hal hgz hcz hrz hb)
          | (go_at_call 37; refine Calls.mono (LM.out _ _ _) ?_; rintro e wy ⟨rfl, rfl⟩)))
        go_wp2
        go_ret2
        exact enc_none HG.out.2
    · have h' : prB m.re.c = true ∧ tkB m.re.t = true ∧ blobB m.re.b = true := by simpa [reB] using h1
      have b1 := tk_parts h'.2.1
      have b2 := pr_len b1.1
      have b3 := (tkE_len h'.2.1).1
      have b4 := blob_parts h'.2.2
      have b5 := elem_len 4 m.re.b
      have b6 := pr_len h'.1
      have b7 := (prE_len h'.1).1
      have hk : m.k = 3 := by rw [e]
      have y1 : (m.k == 1) = false := by rw [hk]; rfl
      have y2 : (m.k == 2) = false := by rw [hk]; rfl
      have y3 : (m.k == 3) = true := by rw [hk]; rfl
      have y4 : (m.k == 4) = false := by rw [hk]; rfl
      have y5 : (m.k == 5) = false := by rw [hk]; rfl
      have hE0 : mgE m = elem 107 [prE m.re.c, tkE m.re.t, elem 4 m.re.b].flatten := by rw [e]; rfl
      have hO : ∀ l, mgE m = l → l.length ≤ 2000 → mgO m = some l := fun l e2 h2 => lim_iff.2 ⟨hx, by rw [e2]; exact h2, e2⟩
      have hN : ∀ l, mgE m = l → ¬ l.length ≤ 2000 → mgO m = none := fun l e2 h2 => by unfold mgO limO; rw [e2, if_neg (fun h => h2 h.2)]
      have HO := Lib.hid (hO _ hE0)
      have HN := Lib.hid (hN _ hE0)
      have T1 := Lib.hid (fun w1 => rprinc_any m.re.c w1 (by omega) (by omega))
      have T2 := Lib.hid (fun w1 (h : Below w.heap.size w w1) => rtick_any m.re.t A3 c3 w1.heap.size w1 (by omega) (by omega) (by omega) ((r3.below h).more h.size) (Nat.le_refl _))
      have T3 := Lib.hid (fun w1 (h : Below w.heap.size w w1) => DerR.octets_any m.re.b A4 m.re.b.length c4 w1.heap.size w1 ((r4.below h).more h.size) rfl (Nat.le_refl _) (by omega))
      have hl : [prE m.re.c, tkE m.re.t, elem 4 m.re.b].flatten.length ≤ 60000 := by rw [flat3]; simp only [List.length_append]; omega
      have hl2 : [prE m.re.c, tkE m.re.t, elem 4 m.re.b].flatten.length ≤ 1990 := by rw [flat3]; simp only [List.length_append]; omega
      have HL := Lib.hid (show [prE m.re.c, tkE m.re.t, elem 4 m.re.b].flatten.length ≤ 65535 by omega)
      have hE := elem_len 107 [prE m.re.c, tkE m.re.t, elem 4 m.re.b].flatten
      rw [flat3] at hE hl HO HN hl2
      obtain ⟨l1, el1⟩ : ∃ l, l = prE m.re.c := ⟨_, rfl⟩
      obtain ⟨l2, el2⟩ : ∃ l, l = tkE m.re.t := ⟨_, rfl⟩
      obtain ⟨l3, el3⟩ : ∃ l, l = elem 4 m.re.b := ⟨_, rfl⟩
      rw [← el1] at T1 HL hE hl HO HN hl2
      rw [← el2] at T2 HL hE hl HO HN hl2
      rw [← el3] at T3 HL hE hl HO HN hl2
      have hlm : (elem 107 (l1 ++ (l2 ++ l3))).length ≤ 2000 := by omega
      have LM := Lib.hid (fun A c w1 => rlimit_ok (elem 107 (l1 ++ (l2 ++ l3))) A _ c w1 rfl hlm)
      rw [HO.out hlm]
      clear h1 e h' hx hE0 hO hN hk hs r1 r2 r3 r4 r5 r6 hE hl hl2 b1 b2 b3 b4 b5 b6 b7 el1 el2 el3 HO HN hlm
      go_enter Tryz.func10, Tryz.ntmps10
      go_wp2_with (first
        | (refine load_cells (by rfl) 39 (.tmp 1) (by rfl) w.heap.size 0 (by rfl) cs _ (range_blk (Blk.new w 39 cs)) Tryz.underlying39 (by rfl) HI.out ?_)
        | (go_at_call 36; refine Calls.mono (I1.out _) ?_; rintro e w0 ⟨rfl, hb⟩; replace HK := Lib.hid (HK.out.below hb); replace HB := Lib.hid (HB.out.trans (hb.mono HB.out.size)); clear hb I1; replace HK := Lib.hid (EC.out ▸ HK.out); have k0 : w0.cell? ⟨w.heap.size, 0, none⟩ = some (.int .i64 m.k) := HK.out.cell 0)
        | fail)
      clear k0
      replace HK := Lib.hid (show Blk w0.drew _ _ _ from HK.out.drewN 1)
      replace HB := Lib.hid (show Below _ _ w0.drew from below_drewN HB.out 1)
      go_region_held3 (fun w' => w'.cell? ⟨w.heap.size, 16, none⟩ = some (.string ⟨m.re.c.1.toArray⟩) ∧ w'.cell? ⟨w.heap.size, 17, none⟩ = some (.string ⟨m.re.c.2.toArray⟩) ∧ w'.cell? ⟨w.heap.size, 18, none⟩ = some (.string ⟨m.re.t.s.1.toArray⟩) ∧ w'.cell? ⟨w.heap.size, 19, none⟩ = some (.string ⟨m.re.t.s.2.toArray⟩) ∧ w'.cell? ⟨w.heap.size, 20, none⟩ = some (.int .i64 m.re.t.k) ∧ w'.cell? ⟨w.heap.size, 21, none⟩ = some (.slice A3 m.re.t.b.length c3) ∧ w'.cell? ⟨w.heap.size, 22, none⟩ = some (.slice A4 m.re.b.length c4)) (first | exact ⟨HK.out.cell 16, HK.out.cell 17, HK.out.cell 18, HK.out.cell 19, HK.out.cell 20, HK.out.cell 21, HK.out.cell 22⟩ | exact ⟨(HK.out.alloc _).cell 16, (HK.out.alloc _).cell 17, (HK.out.alloc _).cell 18, (HK.out.alloc _).cell 19, (HK.out.alloc _).cell 20, (HK.out.alloc _).cell 21, (HK.out.alloc _).cell 22⟩) ((first
        | (go_at_call 39; (with_reducible refine Calls.mono (T1.out _) ?_); rintro e w1 ⟨⟨g1, c1, rfl, hg1, hc1, hr1⟩, hb⟩; clear T1; have HR1 := Lib.hid hr1; replace HK := Lib.hid (HK.out.below hb); replace HB := Lib.hid (HB.out.trans (hb.mono HB.out.size)); clear hb hr1 hg1 hc1)
        | (go_at_call 41; (with_reducible refine Calls.mono (T2.out _ HB.out) ?_); rintro e w2 ⟨⟨g2, c2, rfl, hg2, hc2, hr2⟩, hb⟩; clear T2; replace HR1 := Lib.hid (rd_on HR1.out hb); have HR2 := Lib.hid hr2; replace HK := Lib.hid (HK.out.below hb); replace HB := Lib.hid (HB.out.trans (hb.mono HB.out.size)); clear hb hr2 hg2 hc2)
        | (go_at_call 42; (with_reducible refine Calls.mono (T3.out _ HB.out) ?_); rintro e w3 ⟨⟨g3, c3, rfl, hg3, hc3, hr3⟩, hb⟩; clear T3; replace HR1 := Lib.hid (rd_on HR1.out hb); replace HR2 := Lib.hid (rd_on HR2.out hb); have HR3 := Lib.hid hr3; replace HK := Lib.hid (HK.out.below hb); replace HB := Lib.hid (HB.out.trans (hb.mono HB.out.size)); clear hb hr3 hg3 hc3)
        | (go_at_call 38; refine Calls.mono (wrap_any 107 [l1, l2, l3] _ 3 3 (w3.heap.size + 1) _ (lay_three HR1.out HR2.out HR3.out) rfl (by simp) HL.out (by simp)) ?_; rintro e wz ⟨⟨gz, cz, rfl, hgz, hcz, hrz⟩, hb⟩; have hal := (Below.refl w3.heap.size w3).alloc (Nat.le_refl _) (.cells #[.slice (some ⟨g1, 0, none⟩) l1.length c1, .slice (some ⟨g2, 0, none⟩) l2.length c2, .slice (some ⟨g3, 0, none⟩) l3.length c3] 26); have HG := Lib.hid (gives_on (l := elem 107 [l1, l2, l3].flatten) ⟨⟨gz, cz, rfl, hgz, hcz, hrz⟩, hb⟩ (HB.out.trans (hal.mono HB.out.size))); rw [flat3] at HG; replace HK := Lib.hid ((HK.out.alloc (.cells #[.slice (some ⟨g1, 0, none⟩) l1.length c1, .slice (some ⟨g2, 0, none⟩) l2.length c2, .slice (some ⟨g3, 0, none⟩) l3.length c3] 26)).below hb); clear hal hgz hcz hrz hb)
        | (go_at_call 37; refine Calls.mono (LM.out _ _ _) ?_; rintro e wy ⟨rfl, rfl⟩)))
      go_wp2
      go_ret2
      exact enc_some HG.out
    · have h' : tkB m.ap.t = true ∧ blobB m.ap.a = true := by simpa [apB] using h1
      have b1 := tk_parts h'.1
      have b2 := pr_len b1.1
      have b3 := (tkE_len h'.1).1
      have b4 := blob_parts h'.2
      have b5 := elem_len 4 m.ap.a
      have hk : m.k = 4 := by rw [e]
      have y1 : (m.k == 1) = false := by rw [hk]; rfl
      have y2 : (m.k == 2) = false := by rw [hk]; rfl
      have y3 : (m.k == 3) = false := by rw [hk]; rfl
      have y4 : (m.k == 4) = true := by rw [hk]; rfl
      have y5 : (m.k == 5) = false := by rw [hk]; rfl
      have hE0 : mgE m = elem 110 [tkE m.ap.t, elem 4 m.ap.a].flatten := by rw [e]; rfl
      have hO : ∀ l, mgE m = l → l.length ≤ 2000 → mgO m = some l := fun l e2 h2 => lim_iff.2 ⟨hx, by rw [e2]; exact h2, e2⟩
      have hN : ∀ l, mgE m = l → ¬ l.length ≤ 2000 → mgO m = none := fun l e2 h2 => by unfold mgO limO; rw [e2, if_neg (fun h => h2 h.2)]
      have HO := Lib.hid (hO _ hE0)
      have HN := Lib.hid (hN _ hE0)
      have T1 := Lib.hid (fun w1 (h : Below w.heap.size w w1) => rtick_any m.ap.t A5 c5 w1.heap.size w1 (by omega) (by omega) (by omega) ((r5.below h).more h.size) (Nat.le_refl _))
      have T2 := Lib.hid (fun w1 (h : Below w.heap.size w w1) => DerR.octets_any m.ap.a A6 m.ap.a.length c6 w1.heap.size w1 ((r6.below h).more h.size) rfl (Nat.le_refl _) (by omega))
      have hl : [tkE m.ap.t, elem 4 m.ap.a].flatten.length ≤ 60000 := by rw [flat2]; simp only [List.length_append]; omega
      have hl2 : [tkE m.ap.t, elem 4 m.ap.a].flatten.length ≤ 1990 := by rw [flat2]; simp only [List.length_append]; omega
      have HL := Lib.hid (show [tkE m.ap.t, elem 4 m.ap.a].flatten.length ≤ 65535 by omega)
      have hE := elem_len 110 [tkE m.ap.t, elem 4 m.ap.a].flatten
      rw [flat2] at hE hl HO HN hl2
      obtain ⟨l1, el1⟩ : ∃ l, l = tkE m.ap.t := ⟨_, rfl⟩
      obtain ⟨l2, el2⟩ : ∃ l, l = elem 4 m.ap.a := ⟨_, rfl⟩
      rw [← el1] at T1 HL hE hl HO HN hl2
      rw [← el2] at T2 HL hE hl HO HN hl2
      have hlm : (elem 110 (l1 ++ l2)).length ≤ 2000 := by omega
      have LM := Lib.hid (fun A c w1 => rlimit_ok (elem 110 (l1 ++ l2)) A _ c w1 rfl hlm)
      rw [HO.out hlm]
      clear h1 e h' hx hE0 hO hN hk hs r1 r2 r3 r4 r5 r6 hE hl hl2 b1 b2 b3 b4 b5 el1 el2 HO HN hlm
      go_enter Tryz.func10, Tryz.ntmps10
      go_wp2_with (first
        | (refine load_cells (by rfl) 39 (.tmp 1) (by rfl) w.heap.size 0 (by rfl) cs _ (range_blk (Blk.new w 39 cs)) Tryz.underlying39 (by rfl) HI.out ?_)
        | (go_at_call 36; refine Calls.mono (I1.out _) ?_; rintro e w0 ⟨rfl, hb⟩; replace HK := Lib.hid (HK.out.below hb); replace HB := Lib.hid (HB.out.trans (hb.mono HB.out.size)); clear hb I1; replace HK := Lib.hid (EC.out ▸ HK.out); have k0 : w0.cell? ⟨w.heap.size, 0, none⟩ = some (.int .i64 m.k) := HK.out.cell 0)
        | fail)
      clear k0
      replace HK := Lib.hid (show Blk w0.drew _ _ _ from HK.out.drewN 1)
      replace HB := Lib.hid (show Below _ _ w0.drew from below_drewN HB.out 1)
      go_region_held3 (fun w' => w'.cell? ⟨w.heap.size, 23, none⟩ = some (.string ⟨m.ap.t.s.1.toArray⟩) ∧ w'.cell? ⟨w.heap.size, 24, none⟩ = some (.string ⟨m.ap.t.s.2.toArray⟩) ∧ w'.cell? ⟨w.heap.size, 25, none⟩ = some (.int .i64 m.ap.t.k) ∧ w'.cell? ⟨w.heap.size, 26, none⟩ = some (.slice A5 m.ap.t.b.length c5) ∧ w'.cell? ⟨w.heap.size, 27, none⟩ = some (.slice A6 m.ap.a.length c6)) (first | exact ⟨HK.out.cell 23, HK.out.cell 24, HK.out.cell 25, HK.out.cell 26, HK.out.cell 27⟩ | exact ⟨(HK.out.alloc _).cell 23, (HK.out.alloc _).cell 24, (HK.out.alloc _).cell 25, (HK.out.alloc _).cell 26, (HK.out.alloc _).cell 27⟩) ((first
        | (go_at_call 41; (with_reducible refine Calls.mono (T1.out _ HB.out) ?_); rintro e w1 ⟨⟨g1, c1, rfl, hg1, hc1, hr1⟩, hb⟩; clear T1; have HR1 := Lib.hid hr1; replace HK := Lib.hid (HK.out.below hb); replace HB := Lib.hid (HB.out.trans (hb.mono HB.out.size)); clear hb hr1 hg1 hc1)
        | (go_at_call 42; (with_reducible refine Calls.mono (T2.out _ HB.out) ?_); rintro e w2 ⟨⟨g2, c2, rfl, hg2, hc2, hr2⟩, hb⟩; clear T2; replace HR1 := Lib.hid (rd_on HR1.out hb); have HR2 := Lib.hid hr2; replace HK := Lib.hid (HK.out.below hb); replace HB := Lib.hid (HB.out.trans (hb.mono HB.out.size)); clear hb hr2 hg2 hc2)
        | (go_at_call 38; refine Calls.mono (wrap_any 110 [l1, l2] _ 2 2 (w2.heap.size + 1) _ (lay_two HR1.out HR2.out) rfl (by simp) HL.out (by simp)) ?_; rintro e wz ⟨⟨gz, cz, rfl, hgz, hcz, hrz⟩, hb⟩; have hal := (Below.refl w2.heap.size w2).alloc (Nat.le_refl _) (.cells #[.slice (some ⟨g1, 0, none⟩) l1.length c1, .slice (some ⟨g2, 0, none⟩) l2.length c2] 26); have HG := Lib.hid (gives_on (l := elem 110 [l1, l2].flatten) ⟨⟨gz, cz, rfl, hgz, hcz, hrz⟩, hb⟩ (HB.out.trans (hal.mono HB.out.size))); rw [flat2] at HG; replace HK := Lib.hid ((HK.out.alloc (.cells #[.slice (some ⟨g1, 0, none⟩) l1.length c1, .slice (some ⟨g2, 0, none⟩) l2.length c2] 26)).below hb); clear hal hgz hcz hrz hb)
        | (go_at_call 37; refine Calls.mono (LM.out _ _ _) ?_; rintro e wy ⟨rfl, rfl⟩)))
      go_wp2
      go_ret2
      exact enc_some HG.out
    · have h' := h1
      have b1 := encI_le m.fa.e
      have b2 := encI_le m.fa.no
      have hk : m.k = 5 := by rw [e]
      have y1 : (m.k == 1) = false := by rw [hk]; rfl
      have y2 : (m.k == 2) = false := by rw [hk]; rfl
      have y3 : (m.k == 3) = false := by rw [hk]; rfl
      have y4 : (m.k == 4) = false := by rw [hk]; rfl
      have y5 : (m.k == 5) = true := by rw [hk]; rfl
      have hE0 : mgE m = elem 126 [encI m.fa.e, encI m.fa.no].flatten := by rw [e]; rfl
      have hO : ∀ l, mgE m = l → l.length ≤ 2000 → mgO m = some l := fun l e2 h2 => lim_iff.2 ⟨hx, by rw [e2]; exact h2, e2⟩
      have hN : ∀ l, mgE m = l → ¬ l.length ≤ 2000 → mgO m = none := fun l e2 h2 => by unfold mgO limO; rw [e2, if_neg (fun h => h2 h.2)]
      have HO := Lib.hid (hO _ hE0)
      have HN := Lib.hid (hN _ hE0)
      have T1 := Lib.hid (fun w1 => DerR.int_any m.fa.e w1)
      have T2 := Lib.hid (fun w1 => DerR.int_any m.fa.no w1)
      have hl : [encI m.fa.e, encI m.fa.no].flatten.length ≤ 60000 := by rw [flat2]; simp only [List.length_append]; omega
      have hl2 : [encI m.fa.e, encI m.fa.no].flatten.length ≤ 1990 := by rw [flat2]; simp only [List.length_append]; omega
      have HL := Lib.hid (show [encI m.fa.e, encI m.fa.no].flatten.length ≤ 65535 by omega)
      have hE := elem_len 126 [encI m.fa.e, encI m.fa.no].flatten
      rw [flat2] at hE hl HO HN hl2
      obtain ⟨l1, el1⟩ : ∃ l, l = encI m.fa.e := ⟨_, rfl⟩
      obtain ⟨l2, el2⟩ : ∃ l, l = encI m.fa.no := ⟨_, rfl⟩
      rw [← el1] at T1 HL hE hl HO HN hl2
      rw [← el2] at T2 HL hE hl HO HN hl2
      have hlm : (elem 126 (l1 ++ l2)).length ≤ 2000 := by omega
      have LM := Lib.hid (fun A c w1 => rlimit_ok (elem 126 (l1 ++ l2)) A _ c w1 rfl hlm)
      rw [HO.out hlm]
      clear h1 e h' hx hE0 hO hN hk hs r1 r2 r3 r4 r5 r6 hE hl hl2 b1 b2 el1 el2 HO HN hlm
      go_enter Tryz.func10, Tryz.ntmps10
      go_wp2_with (first
        | (refine load_cells (by rfl) 39 (.tmp 1) (by rfl) w.heap.size 0 (by rfl) cs _ (range_blk (Blk.new w 39 cs)) Tryz.underlying39 (by rfl) HI.out ?_)
        | (go_at_call 36; refine Calls.mono (I1.out _) ?_; rintro e w0 ⟨rfl, hb⟩; replace HK := Lib.hid (HK.out.below hb); replace HB := Lib.hid (HB.out.trans (hb.mono HB.out.size)); clear hb I1; replace HK := Lib.hid (EC.out ▸ HK.out); have k0 : w0.cell? ⟨w.heap.size, 0, none⟩ = some (.int .i64 m.k) := HK.out.cell 0)
        | fail)
      clear k0
      replace HK := Lib.hid (show Blk w0.drew _ _ _ from HK.out.drewN 1)
      replace HB := Lib.hid (show Below _ _ w0.drew from below_drewN HB.out 1)
      go_region_held3 (fun w' => w'.cell? ⟨w.heap.size, 28, none⟩ = some (.int .i64 m.fa.e) ∧ w'.cell? ⟨w.heap.size, 29, none⟩ = some (.int .i64 m.fa.no)) (first | exact ⟨HK.out.cell 28, HK.out.cell 29⟩ | exact ⟨(HK.out.alloc _).cell 28, (HK.out.alloc _).cell 29⟩) ((first
        | (go_at_call 40; (with_reducible refine Calls.mono (T1.out _) ?_); rintro e w1 ⟨⟨g1, c1, rfl, hg1, hc1, hr1⟩, hb⟩; clear T1; have HR1 := Lib.hid hr1; replace HK := Lib.hid (HK.out.below hb); replace HB := Lib.hid (HB.out.trans (hb.mono HB.out.size)); clear hb hr1 hg1 hc1)
        | (go_at_call 40; (with_reducible refine Calls.mono (T2.out _) ?_); rintro e w2 ⟨⟨g2, c2, rfl, hg2, hc2, hr2⟩, hb⟩; clear T2; replace HR1 := Lib.hid (rd_on HR1.out hb); have HR2 := Lib.hid hr2; replace HK := Lib.hid (HK.out.below hb); replace HB := Lib.hid (HB.out.trans (hb.mono HB.out.size)); clear hb hr2 hg2 hc2)
        | (go_at_call 38; refine Calls.mono (wrap_any 126 [l1, l2] _ 2 2 (w2.heap.size + 1) _ (lay_two HR1.out HR2.out) rfl (by simp) HL.out (by simp)) ?_; rintro e wz ⟨⟨gz, cz, rfl, hgz, hcz, hrz⟩, hb⟩; have hal := (Below.refl w2.heap.size w2).alloc (Nat.le_refl _) (.cells #[.slice (some ⟨g1, 0, none⟩) l1.length c1, .slice (some ⟨g2, 0, none⟩) l2.length c2] 26); have HG := Lib.hid (gives_on (l := elem 126 [l1, l2].flatten) ⟨⟨gz, cz, rfl, hgz, hcz, hrz⟩, hb⟩ (HB.out.trans (hal.mono HB.out.size))); rw [flat2] at HG; replace HK := Lib.hid ((HK.out.alloc (.cells #[.slice (some ⟨g1, 0, none⟩) l1.length c1, .slice (some ⟨g2, 0, none⟩) l2.length c2] 26)).below hb); clear hal hgz hcz hrz hb)
        | (go_at_call 37; refine Calls.mono (LM.out _ _ _) ?_; rintro e wy ⟨rfl, rfl⟩)))
      go_wp2
      go_ret2
      exact enc_some HG.out
end Go.Proofs.YteeabfplnaknfaaGreat.Ms
end

section
set_option linter.unusedVariables false
set_option linter.unusedSimpArgs false
namespace Go.Proofs.YteeabfplnaknfaaGreat.Ms
open Go.RowKit Go.Proofs.YteeabfplnaknfaaGreat.Mem Go.Proofs.YteeabfplnaknfaaGreat.DerP

theorem rp_cells {p : Rp} (hk : p.ss.length = 32) {g : Nat} {t : TypeId} {w' : World} (h : Blk w' g t (rpC p).toArray) : w'.cell? ⟨g, 32, none⟩ = some (.string ⟨p.s.1.toArray⟩) ∧ w'.cell? ⟨g, 33, none⟩ = some (.string ⟨p.s.2.toArray⟩) ∧ w'.cell? ⟨g, 34, none⟩ = some (.int .i64 p.st) ∧ w'.cell? ⟨g, 35, none⟩ = some (.int .i64 p.en) ∧ w'.cell? ⟨g, 36, none⟩ = some (.int .i64 p.no) := by
  have hl : (bvs p.ss).length = 32 := by rw [bvs_length]; exact hk
  have key : ∀ j, w'.cell? ⟨g, 32 + j, none⟩ = (prC p.s ++ [.int .i64 p.st, .int .i64 p.en, .int .i64 p.no])[j]? := fun j => by
    rw [h.cell, List.getElem?_toArray, rpC, List.getElem?_append_right (by omega), hl, Nat.add_sub_cancel_left]
  exact ⟨key 0, key 1, key 2, key 3, key 4⟩
theorem rp_size {p : Rp} (hk : p.ss.length = 32) : (rpC p).toArray.size = 37 := by
  simp [rpC, prC, bvs_length, hk]
set_option maxHeartbeats 3200000 in
theorem risrep_any (p : Rp) (w : World) (hk : p.ss.length = 32) (hs : pSm p.s) : Calls Tryz.prog 31 #[.agg (rpC p).toArray] w fun e w' => e = .returned (.bool (rpB p)) ∧ Below w.heap.size w w' := by
  have HI := Lib.hid (show (Tryz.prog.info? 59).map (·.size) = some (rpC p).toArray.size by rw [rp_size hk]; kernel_rfl)
  have CF := Lib.hid (show ∀ w' : World, Blk w' w.heap.size 59 (rpC p).toArray → w'.cell? ⟨w.heap.size, 32, none⟩ = some (.string ⟨p.s.1.toArray⟩) ∧ w'.cell? ⟨w.heap.size, 33, none⟩ = some (.string ⟨p.s.2.toArray⟩) ∧ w'.cell? ⟨w.heap.size, 34, none⟩ = some (.int .i64 p.st) ∧ w'.cell? ⟨w.heap.size, 35, none⟩ = some (.int .i64 p.en) ∧ w'.cell? ⟨w.heap.size, 36, none⟩ = some (.int .i64 p.no) from fun w' h => rp_cells hk h)
  obtain ⟨cs, ecs⟩ : ∃ cs, cs = (rpC p).toArray := ⟨_, rfl⟩
  rw [← ecs] at HI CF ⊢
  clear ecs
  have HB := Lib.hid ((Below.refl w.heap.size w).alloc (Nat.le_refl _) (.cells cs 59))
  have HK := Lib.hid (Blk.new w 59 cs)
  have T1 := Lib.hid (fun w1 => isprinc_any p.s w1 hs.1 hs.2)
  have T2 := Lib.hid (fun w1 => rtm_any p.st w1)
  have T3 := Lib.hid (fun w1 => rtm_any p.en w1)
  have T4 := Lib.hid (fun w1 => rtm_any p.no w1)
  obtain ⟨k0, k1, k2, k3, k4⟩ := CF.out _ HK.out
  cases h1 : prB p.s with
  | false =>
    rw [h1] at T1
    have E := Lib.hid (show rpB p = false by rw [rpB, h1]; rfl)
    clear h1
    go_enter Tryz.func31, Tryz.ntmps31
    go_wp2_with (go_at_call 69; (with_reducible refine Calls.mono (T1.out _) ?_); rintro e w1 ⟨rfl, hb⟩; replace HK := Lib.hid (HK.out.below hb); replace HB := Lib.hid (HB.out.trans (hb.mono HB.out.size)); clear hb T1; (try clear k0 k1 k2 k3 k4); obtain ⟨k0, k1, k2, k3, k4⟩ := CF.out _ HK.out)
    go_ret
    exact ⟨by rw [E.out]; rfl, HB.out⟩
  | true =>
    rw [h1] at T1
    cases h2 : tmB p.st with
    | false =>
      rw [h2] at T2
      have E := Lib.hid (show rpB p = false by rw [rpB, h1, h2]; rfl)
      clear h1 h2
      go_enter Tryz.func31, Tryz.ntmps31
      go_wp2_with (first
        | (go_at_call 69; (with_reducible refine Calls.mono (T1.out _) ?_); rintro e w1 ⟨rfl, hb⟩; replace HK := Lib.hid (HK.out.below hb); replace HB := Lib.hid (HB.out.trans (hb.mono HB.out.size)); clear hb T1; (try clear k0 k1 k2 k3 k4); obtain ⟨k0, k1, k2, k3, k4⟩ := CF.out _ HK.out)
        | (go_at_call 70; (with_reducible refine Calls.mono (T2.out _) ?_); rintro e w2 ⟨rfl, hw⟩; subst hw; clear T2))
      go_ret
      exact ⟨by rw [E.out]; rfl, HB.out⟩
    | true =>
      rw [h2] at T2
      cases h3 : tmB p.en with
      | false =>
        rw [h3] at T3
        have E := Lib.hid (show rpB p = false by rw [rpB, h1, h2, h3]; rfl)
        clear h1 h2 h3
        go_enter Tryz.func31, Tryz.ntmps31
        go_wp2_with (first
          | (go_at_call 69; (with_reducible refine Calls.mono (T1.out _) ?_); rintro e w1 ⟨rfl, hb⟩; replace HK := Lib.hid (HK.out.below hb); replace HB := Lib.hid (HB.out.trans (hb.mono HB.out.size)); clear hb T1; (try clear k0 k1 k2 k3 k4); obtain ⟨k0, k1, k2, k3, k4⟩ := CF.out _ HK.out)
          | (go_at_call 70; (with_reducible refine Calls.mono (T2.out _) ?_); rintro e w2 ⟨rfl, hw⟩; subst hw; clear T2)
          | (go_at_call 70; (with_reducible refine Calls.mono (T3.out _) ?_); rintro e w3 ⟨rfl, hw⟩; subst hw; clear T3))
        go_ret
        exact ⟨by rw [E.out]; rfl, HB.out⟩
      | true =>
        rw [h3] at T3
        have E := Lib.hid (show rpB p = tmB p.no by rw [rpB, h1, h2, h3]; rfl)
        clear h1 h2 h3
        go_enter Tryz.func31, Tryz.ntmps31
        go_wp2_with (first
          | (go_at_call 69; (with_reducible refine Calls.mono (T1.out _) ?_); rintro e w1 ⟨rfl, hb⟩; replace HK := Lib.hid (HK.out.below hb); replace HB := Lib.hid (HB.out.trans (hb.mono HB.out.size)); clear hb T1; (try clear k0 k1 k2 k3 k4); obtain ⟨k0, k1, k2, k3, k4⟩ := CF.out _ HK.out)
          | (go_at_call 70; (with_reducible refine Calls.mono (T2.out _) ?_); rintro e w2 ⟨rfl, hw⟩; subst hw; clear T2)
          | (go_at_call 70; (with_reducible refine Calls.mono (T3.out _) ?_); rintro e w3 ⟨rfl, hw⟩; subst hw; clear T3)
          | (go_at_call 70; (with_reducible refine Calls.mono (T4.out _) ?_); rintro e w4 ⟨rfl, hw⟩; subst hw; clear T4))
        go_ret
        exact ⟨by rw [E.out]; rfl, HB.out⟩
end Go.Proofs.YteeabfplnaknfaaGreat.Ms
end
