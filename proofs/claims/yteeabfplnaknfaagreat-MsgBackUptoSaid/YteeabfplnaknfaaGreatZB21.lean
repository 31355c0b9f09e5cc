import Derived.Deep.LoopGhost
import Derived.Test.YteeabfplnaknfaaGreatZB1
import Derived.Test.YteeabfplnaknfaaGreatZB2
import Derived.Test.YteeabfplnaknfaaGreatZB3
import Derived.Test.YteeabfplnaknfaaGreatZB4
import Derived.Test.YteeabfplnaknfaaGreatZB5
import Derived.Test.YteeabfplnaknfaaGreatZB6
import Derived.Test.YteeabfplnaknfaaGreatZB7
import Derived.Test.YteeabfplnaknfaaGreatZB9
import Derived.Test.YteeabfplnaknfaaGreatZB10
import Derived.Test.YteeabfplnaknfaaGreatZB11
import Derived.Test.YteeabfplnaknfaaGreatZB12
import Derived.Test.YteeabfplnaknfaaGreatZB13
import Derived.Test.YteeabfplnaknfaaGreatZB14
import Derived.Test.YteeabfplnaknfaaGreatZB15
import Derived.Test.YteeabfplnaknfaaGreatZB16
import Derived.Test.YteeabfplnaknfaaGreatZB17
import Derived.Test.YteeabfplnaknfaaGreatZB18
import Derived.Test.YteeabfplnaknfaaGreatZB19
import Derived.Test.YteeabfplnaknfaaGreatZB20
section
set_option linter.unusedVariables false
set_option linter.unusedSimpArgs false
namespace Go.Proofs.YteeabfplnaknfaaGreat.Mc
open Go.RowKit Go.Proofs.YteeabfplnaknfaaGreat.Mem Go.Proofs.YteeabfplnaknfaaGreat.DerP Go.Proofs.YteeabfplnaknfaaGreat.DerC Go.Proofs.YteeabfplnaknfaaGreat.Ms

def OwnN (w : World) (base : Nat) (v : Value) (l : L) : Prop := (v = .slice none 0 0 ∧ l = []) ∨ OwnB w base v l
section
variable {w w' : World} {base base' g : Nat} {v : Value} {l : L} {cs : Array Value}
theorem OwnN.keep (h : OwnN w base v l) (hg : w.grownBy w' (some g)) (hlt : g < base) : OwnN w' base v l := h.imp id fun h => h.keep hg hlt
theorem OwnN.below (h : OwnN w base v l) (hb : Below w.heap.size w w') : OwnN w' base v l := h.imp id fun h => h.below hb
theorem OwnN.less (h : OwnN w base v l) (hb : base' ≤ base) : OwnN w base' v l := h.imp id fun h => h.less hb
theorem OwnN.slb (h : OwnN w base v l) : SlB w w.heap.size v l := by
  rcases h with ⟨rfl, rfl⟩ | h
  · exact SlB.nil _ _
  · exact h.slb
def TgO (w : World) (B : Nat) (cs : Array Value) (q : Tg) : Prop := ∃ b a, cs = (tgC q b a).toArray ∧ OwnN w B b q.t.b ∧ OwnN w B a q.a
def ReO (w : World) (B : Nat) (cs : Array Value) (q : Re) : Prop := ∃ b a, cs = (reC q b a).toArray ∧ OwnN w B b q.t.b ∧ OwnN w B a q.b
def ApO (w : World) (B : Nat) (cs : Array Value) (q : Ap) : Prop := ∃ b a, cs = (apC q b a).toArray ∧ OwnN w B b q.t.b ∧ OwnN w B a q.a
theorem TgO.keep {q : Tg} (h : TgO w base cs q) (hg : w.grownBy w' (some g)) (hlt : g < base) : TgO w' base cs q := by obtain ⟨b, a, h1, h2, h3⟩ := h; exact ⟨b, a, h1, h2.keep hg hlt, h3.keep hg hlt⟩
theorem TgO.below {q : Tg} (h : TgO w base cs q) (hb : Below w.heap.size w w') : TgO w' base cs q := by obtain ⟨b, a, h1, h2, h3⟩ := h; exact ⟨b, a, h1, h2.below hb, h3.below hb⟩
theorem TgO.less {q : Tg} (h : TgO w base cs q) (hb : base' ≤ base) : TgO w base' cs q := by obtain ⟨b, a, h1, h2, h3⟩ := h; exact ⟨b, a, h1, h2.less hb, h3.less hb⟩
theorem TgO.toV {q : Tg} (h : TgO w base cs q) : TgV w w.heap.size cs q := by obtain ⟨b, a, h1, h2, h3⟩ := h; exact ⟨b, a, h1, h2.slb, h3.slb⟩
theorem ReO.keep {q : Re} (h : ReO w base cs q) (hg : w.grownBy w' (some g)) (hlt : g < base) : ReO w' base cs q := by obtain ⟨b, a, h1, h2, h3⟩ := h; exact ⟨b, a, h1, h2.keep hg hlt, h3.keep hg hlt⟩
theorem ReO.below {q : Re} (h : ReO w base cs q) (hb : Below w.heap.size w w') : ReO w' base cs q := by obtain ⟨b, a, h1, h2, h3⟩ := h; exact ⟨b, a, h1, h2.below hb, h3.below hb⟩
theorem ReO.less {q : Re} (h : ReO w base cs q) (hb : base' ≤ base) : ReO w base' cs q := by obtain ⟨b, a, h1, h2, h3⟩ := h; exact ⟨b, a, h1, h2.less hb, h3.less hb⟩
theorem ReO.toV {q : Re} (h : ReO w base cs q) : ReV w w.heap.size cs q := by obtain ⟨b, a, h1, h2, h3⟩ := h; exact ⟨b, a, h1, h2.slb, h3.slb⟩
theorem ApO.keep {q : Ap} (h : ApO w base cs q) (hg : w.grownBy w' (some g)) (hlt : g < base) : ApO w' base cs q := by obtain ⟨b, a, h1, h2, h3⟩ := h; exact ⟨b, a, h1, h2.keep hg hlt, h3.keep hg hlt⟩
theorem ApO.below {q : Ap} (h : ApO w base cs q) (hb : Below w.heap.size w w') : ApO w' base cs q := by obtain ⟨b, a, h1, h2, h3⟩ := h; exact ⟨b, a, h1, h2.below hb, h3.below hb⟩
theorem ApO.less {q : Ap} (h : ApO w base cs q) (hb : base' ≤ base) : ApO w base' cs q := by obtain ⟨b, a, h1, h2, h3⟩ := h; exact ⟨b, a, h1, h2.less hb, h3.less hb⟩
theorem ApO.toV {q : Ap} (h : ApO w base cs q) : ApV w w.heap.size cs q := by obtain ⟨b, a, h1, h2, h3⟩ := h; exact ⟨b, a, h1, h2.slb, h3.slb⟩
structure MpO (w : World) (B : Nat) (pa pt pr pp pf : Array Value) (m : Mg) : Prop where
  a : AsV pa m.aq
  t : TgO w B pt m.tg
  r : ReO w B pr m.re
  p : ApO w B pp m.ap
  f : FaV pf m.fa
def MgO (w : World) (B : Nat) (cs : Array Value) (m : Mg) : Prop := ∃ pa pt pr pp pf, cs = mgA m.k pa pt pr pp pf ∧ MpO w B pa pt pr pp pf m
variable {pa pt pr pp pf : Array Value} {m : Mg}
theorem MpO.toV (h : MpO w base pa pt pr pp pf m) : MgP w w.heap.size pa pt pr pp pf m := ⟨h.a, h.t.toV, h.r.toV, h.p.toV, h.f⟩
theorem MpO.keep (h : MpO w base pa pt pr pp pf m) (hg : w.grownBy w' (some g)) (hlt : g < base) : MpO w' base pa pt pr pp pf m := ⟨h.a, h.t.keep hg hlt, h.r.keep hg hlt, h.p.keep hg hlt, h.f⟩
theorem MpO.below (h : MpO w base pa pt pr pp pf m) (hb : Below w.heap.size w w') : MpO w' base pa pt pr pp pf m := ⟨h.a, h.t.below hb, h.r.below hb, h.p.below hb, h.f⟩
theorem MpO.less (h : MpO w base pa pt pr pp pf m) (hb : base' ≤ base) : MpO w base' pa pt pr pp pf m := ⟨h.a, h.t.less hb, h.r.less hb, h.p.less hb, h.f⟩
theorem MgO.toV (h : MgO w base cs m) : MgV w w.heap.size cs m := by obtain ⟨pa, pt, pr, pp, pf, h1, h2⟩ := h; exact ⟨pa, pt, pr, pp, pf, h1, h2.toV⟩
theorem MgO.keep (h : MgO w base cs m) (hg : w.grownBy w' (some g)) (hlt : g < base) : MgO w' base cs m := by obtain ⟨pa, pt, pr, pp, pf, h1, h2⟩ := h; exact ⟨pa, pt, pr, pp, pf, h1, h2.keep hg hlt⟩
theorem MgO.below (h : MgO w base cs m) (hb : Below w.heap.size w w') : MgO w' base cs m := by obtain ⟨pa, pt, pr, pp, pf, h1, h2⟩ := h; exact ⟨pa, pt, pr, pp, pf, h1, h2.below hb⟩
theorem MgO.less (h : MgO w base cs m) (hb : base' ≤ base) : MgO w base' cs m := by obtain ⟨pa, pt, pr, pp, pf, h1, h2⟩ := h; exact ⟨pa, pt, pr, pp, pf, h1, h2.less hb⟩
theorem MgO.size (h : MgO w base cs m) : cs.size = 30 := by obtain ⟨pa, pt, pr, pp, pf, h1, h2⟩ := h; rw [h1]; exact h2.toV.size m.k
theorem MgO.one (h : MgO w base cs m) : One cs := by obtain ⟨pa, pt, pr, pp, pf, h1, h2⟩ := h; rw [h1]; exact h2.toV.one m.k
end
theorem zT_o (w : World) (B : Nat) : TgO w B zT tg0 := ⟨_, _, rfl, .inl ⟨rfl, rfl⟩, .inl ⟨rfl, rfl⟩⟩
theorem zR_o (w : World) (B : Nat) : ReO w B zR re0 := ⟨_, _, rfl, .inl ⟨rfl, rfl⟩, .inl ⟨rfl, rfl⟩⟩
theorem zP_o (w : World) (B : Nat) : ApO w B zP ap0 := ⟨_, _, rfl, .inl ⟨rfl, rfl⟩, .inl ⟨rfl, rfl⟩⟩
theorem zM_o (w : World) (B : Nat) (k : Int) : MpO w B zA zT zR zP zF ⟨k, as0, tg0, re0, ap0, fa0⟩ := ⟨zA_v, zT_o w B, zR_o w B, zP_o w B, zF_v⟩
section
variable (g : Nat) (c : Option L) (w : World) (h : Cur w g c) (hs : (c.getD []).length ≤ 100000)
include h hs
theorem takeas_v : Calls Tryz.prog 90 #[.pointer (some ⟨g, 0, none⟩)] w fun e w' => ∃ ps, e = .returned (.agg ps) ∧ AsV ps (asQ c).1 ∧ w.grownBy w' (some g) :=
  (takeas_any g c w h hs).mono fun e w' hh => by obtain ⟨rfl, _, h2⟩ := hh; exact ⟨_, rfl, rfl, h2⟩
theorem taketg_v : Calls Tryz.prog 91 #[.pointer (some ⟨g, 0, none⟩)] w fun e w' => ∃ ps, e = .returned (.agg ps) ∧ TgO w' w.heap.size ps (tgQ c).1 ∧ w.grownBy w' (some g) :=
  (taketg_any g c w h hs).mono fun e w' hh => by obtain ⟨z1, z2, rfl, o1, o2, _, h2⟩ := hh; exact ⟨_, rfl, ⟨_, _, rfl, .inr o1, .inr o2⟩, h2⟩
theorem takere_v : Calls Tryz.prog 92 #[.pointer (some ⟨g, 0, none⟩)] w fun e w' => ∃ ps, e = .returned (.agg ps) ∧ ReO w' w.heap.size ps (reQ c).1 ∧ w.grownBy w' (some g) :=
  (takere_any g c w h hs).mono fun e w' hh => by obtain ⟨z1, z2, rfl, o1, o2, _, h2⟩ := hh; exact ⟨_, rfl, ⟨_, _, rfl, .inr o1, .inr o2⟩, h2⟩
theorem takeap_v : Calls Tryz.prog 93 #[.pointer (some ⟨g, 0, none⟩)] w fun e w' => ∃ ps, e = .returned (.agg ps) ∧ ApO w' w.heap.size ps (apQ c).1 ∧ w.grownBy w' (some g) :=
  (takeap_any g c w h hs).mono fun e w' hh => by obtain ⟨z1, z2, rfl, o1, o2, _, h2⟩ := hh; exact ⟨_, rfl, ⟨_, _, rfl, .inr o1, .inr o2⟩, h2⟩
theorem takefa_v : Calls Tryz.prog 94 #[.pointer (some ⟨g, 0, none⟩)] w fun e w' => ∃ ps, e = .returned (.agg ps) ∧ FaV ps (faQ c).1 ∧ w.grownBy w' (some g) :=
  (takefa_any g c w h hs).mono fun e w' hh => by obtain ⟨rfl, _, h2⟩ := hh; exact ⟨_, rfl, rfl, h2⟩
end
theorem built_as {ps : Array Value} {q : As} (h : AsV ps q) : Tryz.prog.built 39 [(0, .int .i64 1), (1, .agg ps)] = some (mgA 1 ps zT zR zP zF) := by rw [h]; kernel_rfl
theorem built_tg {w : World} {B : Nat} {ps : Array Value} {q : Tg} (h : TgO w B ps q) : Tryz.prog.built 39 [(0, .int .i64 2), (2, .agg ps)] = some (mgA 2 zA ps zR zP zF) := by obtain ⟨b, a, rfl, _⟩ := h; kernel_rfl
theorem built_re {w : World} {B : Nat} {ps : Array Value} {q : Re} (h : ReO w B ps q) : Tryz.prog.built 39 [(0, .int .i64 3), (3, .agg ps)] = some (mgA 3 zA zT ps zP zF) := by obtain ⟨b, a, rfl, _⟩ := h; kernel_rfl
theorem built_ap {w : World} {B : Nat} {ps : Array Value} {q : Ap} (h : ApO w B ps q) : Tryz.prog.built 39 [(0, .int .i64 4), (4, .agg ps)] = some (mgA 4 zA zT zR ps zF) := by obtain ⟨b, a, rfl, _⟩ := h; kernel_rfl
theorem built_fa {ps : Array Value} {q : Fa} (h : FaV ps q) : Tryz.prog.built 39 [(0, .int .i64 5), (5, .agg ps)] = some (mgA 5 zA zT zR zP ps) := by rw [h]; kernel_rfl
theorem built_none : Tryz.prog.built 39 [] = some (mgA 0 zA zT zR zP zF) := by kernel_rfl
set_option maxHeartbeats 12800000 in
set_option maxRecDepth 10000 in
theorem takemsg_any (A : Option Addr) (b : L) (cap : Nat) (w : World) (h : Rd w w.heap.size A (bvs b)) (hs : b.length ≤ 100000) : Calls Tryz.prog 44 #[.slice A b.length cap] w fun e w' => ∃ ds, e = .returned (.agg ds) ∧ MgO w' w.heap.size ds (mgQ b) ∧ Below w.heap.size w w' := by
  obtain ⟨zz, ezz⟩ : ∃ z : Array Value, z = #[.int .i64 0, .string ⟨#[]⟩, .string ⟨#[]⟩, .string ⟨#[]⟩, .string ⟨#[]⟩, .int .i64 0, .int .i64 0, .string ⟨#[]⟩, .string ⟨#[]⟩, .int .i64 0, .slice none 0 0, .slice none 0 0, .string ⟨#[]⟩, .string ⟨#[]⟩, .int .i64 0, .int .i64 0, .string ⟨#[]⟩, .string ⟨#[]⟩, .string ⟨#[]⟩, .string ⟨#[]⟩, .int .i64 0, .slice none 0 0, .slice none 0 0, .string ⟨#[]⟩, .string ⟨#[]⟩, .int .i64 0, .slice none 0 0, .slice none 0 0, .int .i64 0, .int .i64 0] := ⟨_, rfl⟩
  have ez0 : zz = mgA 0 zA zT zR zP zF := by rw [ezz]; rfl
  have HZS := Lib.hid (show zz.size = 30 by rw [ez0]; exact (zM_v w 0 0).size 0)
  obtain ⟨W, eW⟩ : ∃ W, W = w.alloc (.cells zz 39) := ⟨_, rfl⟩
  have HWS := Lib.hid (show W.heap.size = w.heap.size + 1 by rw [eW]; simp)
  have HR := Lib.hid (show Blk W w.heap.size 39 zz by rw [eW]; exact Blk.new _ _ _)
  have HG := Lib.hid (show Below w.heap.size w W by rw [eW]; exact (Below.refl _ _).alloc (Nat.le_refl _) _)
  clear ez0
  cases b with
  | nil =>
    have EQ := Lib.hid (show mgQ [] = ⟨0, as0, tg0, re0, ap0, fa0⟩ from rfl)
    have HMS := Lib.hid ((zM_v w 0 0).size 0)
    have HMO := Lib.hid ((zM_v w 0 0).one 0)
    clear h hs
    go_enter Tryz.func44, Tryz.ntmps44
    go_upto_region 1 with fail
    rw [← ezz, ← eW]
    clear ezz eW
    go_wp2_with (first
      | (refine wpList_built (by rfl) 39 #[] (by rfl) (mgA 0 zA zT zR zP zF) built_none ?_)
      | (refine wpList_store_mid (by rfl) 39 (.tmp 2) (.tmp 7) (by rfl) w.heap.size 0 (mgA 0 zA zT zR zP zF) (by rfl) (by rfl) (there_blk HR.out _ (by rw [HMS.out]; have := HZS.out; omega)) (by rw [HMS.out]; exact mg_info) HMO.out ?_)
      | fail)
    have hE := blk_cells (ds := mgA 0 zA zT zR zP zF) HR.out (by rw [HMS.out]; exact HZS.out)
    have hp := put_cells W w.heap.size (mgA 0 zA zT zR zP zF).toList
    have hq := load_blk (P := Tryz.prog) hE Tryz.underlying39 rfl (by rw [HMS.out]; exact mg_info)
    refine bodyPost_ret (v := .agg (mgA 0 zA zT zR zP zF)) ?_ ?_ ?_
    · exact results_cell 2 39 ⟨w.heap.size, 0, none⟩ Tryz.results44 rfl hq
    · rfl
    refine ⟨_, rfl, ?_, below_g HG.out hp (by have := HR.out.lt; omega) (Nat.le_refl _)⟩
    rw [EQ.out]
    exact ⟨zA, zT, zR, zP, zF, rfl, ⟨zA_v, zT_o _ _, zR_o _ _, zP_o _ _, zF_v⟩⟩
  | cons t r =>
    obtain ⟨bb, oo, rfl, hbb, hcell⟩ : ∃ bb oo, A = some ⟨bb, oo, none⟩ ∧ bb < w.heap.size ∧ w.cell? ⟨bb, oo, none⟩ = some (.int .u8 (t.toNat : Int)) := by
      obtain ⟨bb, oo, rfl, h1, h2⟩ := h.at_ (i := 0) (u := bv t) rfl
      exact ⟨bb, oo, rfl, h1, h2⟩
    have HRD := Lib.hid (fun w1 (h1 : Below w.heap.size w w1) => show w1.cell? ⟨bb, oo, none⟩ = some (.int .u8 (t.toNat : Int)) from (h1.cell (p := ⟨bb, oo, none⟩) hbb).trans hcell)
    have hu := u8_le t
    have c0 := Lib.hid (fun w1 (h1 : Below w.heap.size w w1) => open_any w1.heap.size (some ⟨bb, oo, none⟩) (t :: r) (t :: r).length cap w1 ((h.below h1).more h1.size) rfl)
    have hl0 : ((some (t :: r) : Option L).getD []).length ≤ 100000 := hs
    have c1 := Lib.hid (fun g w1 h => into_any t g (some (t :: r)) w1 h (by omega))
    have hl1 := bd_len t hl0
    have HL := Lib.hid (show (0 : Int) < (((t :: r).length : Nat) : Int) by simp)
    by_cases m1 : t = 106
    · have d1 : ((t.toNat : Int) == 106) = true := by rw [m1]; rfl
      have EQ := Lib.hid (show mgQ (t :: r) = ⟨1, (asQ (bodyC t (some (t :: r)))).1, tg0, re0, ap0, fa0⟩ by subst m1; rfl)
      obtain ⟨s0, es0⟩ : ∃ s, s = bodyC t (some (t :: r)) := ⟨_, rfl⟩
      rw [← es0] at c1 hl1 EQ
      have T1 := Lib.hid (fun g w1 h => takeas_v g s0 w1 h hl1)
      clear es0 hl1 hl0 hs h hcell hu m1
      go_enter Tryz.func44, Tryz.ntmps44
      go_upto_region 1 with fail
      rw [← ezz, ← eW]
      clear ezz eW
      go_upto_region 3 with fail
      replace HR := Lib.hid (show Blk W.drew _ _ _ from HR.out.drewN 1)
      replace HG := Lib.hid (show Below _ _ W.drew from below_drewN HG.out 1)
      go_region_held3 (fun w' => w'.cell? ⟨bb, oo, none⟩ = some (.int .u8 (t.toNat : Int))) (exact HRD.out _ HG.out) ((first
        | (go_at_call 88; refine Calls.mono (c0.out _ HG.out) ?_; rintro e wo ⟨go, rfl, hgo, hco, hb⟩; clear c0; have HC := Lib.hid hco; have HGO := Lib.hid (show w.heap.size + 1 ≤ go by have := HWS.out; have : W.drew.heap.size = W.heap.size := rfl; omega); replace HR := Lib.hid (HR.out.below hb); replace HG := Lib.hid (HG.out.trans (hb.mono HG.out.size)); have HWO := Lib.hid (show w.heap.size + 1 ≤ wo.heap.size by have := hb.size; have := HWS.out; have : W.drew.heap.size = W.heap.size := rfl; omega); clear hgo hco hb)
        | (go_at_call 89; refine Calls.mono (c1.out _ _ HC.out) ?_; rintro e wi ⟨⟨gd, rfl, hgd, hd⟩, hc, hg⟩; clear c1 HC; have HD := Lib.hid hd; have HGD := Lib.hid (show w.heap.size + 1 ≤ gd by have := HWO.out; omega); have HDL := Lib.hid (cur_lt hd); replace HR := Lib.hid (HR.out.grown hg (by intro e; injection e with e; have := HGO.out; omega)); replace HG := Lib.hid (below_g HG.out hg HG.out.size (by have := HGO.out; omega)); clear hgd hd hc hg HWO HGO)))
      have k9 := HRD.out _ HG.out
      go_wp2_with (first
        | (go_at_call 90; refine Calls.mono (T1.out _ _ HD.out) ?_; rintro e w3 ⟨ps, rfl, ho, hg⟩; clear T1 HD; replace HR := Lib.hid (HR.out.grown hg (by intro e; injection e with e; have := HGD.out; omega)); replace HG := Lib.hid (below_g HG.out hg HG.out.size (by have := HGD.out; omega)); have HBT := Lib.hid (built_as ho); have HM := Lib.hid (show MpO w3 (gd + 1) ps zT zR zP zF ⟨1, (asQ s0).1, tg0, re0, ap0, fa0⟩ from ⟨ho, zT_o _ _, zR_o _ _, zP_o _ _, zF_v⟩); have HMS := Lib.hid (HM.out.toV.size 1); have HMO := Lib.hid (HM.out.toV.one 1); clear hg ho)
        | (refine wpList_built (by rfl) 39 #[(0, .const (.int .i64 1)), (1, .tmp 20)] (by rfl) (mgA 1 ps zT zR zP zF) (by simp only [List.map_toArray, List.map_cons, List.map_nil]; exact HBT.out) ?_)
        | (refine wpList_store_mid (by rfl) 39 (.tmp 2) (.tmp 21) (by rfl) w.heap.size 0 (mgA 1 ps zT zR zP zF) (by rfl) (by rfl) (there_blk HR.out _ (by rw [HMS.out]; have := HZS.out; omega)) (by rw [HMS.out]; exact mg_info) HMO.out ?_)
        | fail)
      have hE := blk_cells (ds := mgA 1 ps zT zR zP zF) HR.out (by rw [HMS.out]; exact HZS.out)
      have hp := put_cells w3 w.heap.size (mgA 1 ps zT zR zP zF).toList
      have hq := load_blk (P := Tryz.prog) hE Tryz.underlying39 rfl (by rw [HMS.out]; exact mg_info)
      refine bodyPost_ret (v := .agg (mgA 1 ps zT zR zP zF)) ?_ ?_ ?_
      · exact results_cell 2 39 ⟨w.heap.size, 0, none⟩ Tryz.results44 rfl hq
      · rfl
      refine ⟨_, rfl, ?_, below_g HG.out hp (by have := HR.out.lt; omega) (Nat.le_refl _)⟩
      rw [EQ.out]
      exact ⟨ps, zT, zR, zP, zF, rfl, (HM.out.keep hp (by have := HGD.out; omega)).less (by have := HGD.out; omega)⟩
    · have d1 : ((t.toNat : Int) == 106) = false := by simp; intro e; exact m1 (UInt8.toNat_inj.1 (by rw [show (106 : UInt8).toNat = 106 from rfl]; omega))
      by_cases m2 : t = 108
      · have d2 : ((t.toNat : Int) == 108) = true := by rw [m2]; rfl
        have EQ := Lib.hid (show mgQ (t :: r) = ⟨2, as0, (tgQ (bodyC t (some (t :: r)))).1, re0, ap0, fa0⟩ by subst m2; rfl)
        obtain ⟨s0, es0⟩ : ∃ s, s = bodyC t (some (t :: r)) := ⟨_, rfl⟩
        rw [← es0] at c1 hl1 EQ
        have T1 := Lib.hid (fun g w1 h => taketg_v g s0 w1 h hl1)
        clear es0 hl1 hl0 hs h hcell hu m1 m2
        go_enter Tryz.func44, Tryz.ntmps44
        go_upto_region 1 with fail
        rw [← ezz, ← eW]
        clear ezz eW
        go_upto_region 3 with fail
        replace HR := Lib.hid (show Blk W.drew _ _ _ from HR.out.drewN 1)
        replace HG := Lib.hid (show Below _ _ W.drew from below_drewN HG.out 1)
        go_region_held3 (fun w' => w'.cell? ⟨bb, oo, none⟩ = some (.int .u8 (t.toNat : Int))) (exact HRD.out _ HG.out) ((first
          | (go_at_call 88; refine Calls.mono (c0.out _ HG.out) ?_; rintro e wo ⟨go, rfl, hgo, hco, hb⟩; clear c0; have HC := Lib.hid hco; have HGO := Lib.hid (show w.heap.size + 1 ≤ go by have := HWS.out; have : W.drew.heap.size = W.heap.size := rfl; omega); replace HR := Lib.hid (HR.out.below hb); replace HG := Lib.hid (HG.out.trans (hb.mono HG.out.size)); have HWO := Lib.hid (show w.heap.size + 1 ≤ wo.heap.size by have := hb.size; have := HWS.out; have : W.drew.heap.size = W.heap.size := rfl; omega); clear hgo hco hb)
          | (go_at_call 89; refine Calls.mono (c1.out _ _ HC.out) ?_; rintro e wi ⟨⟨gd, rfl, hgd, hd⟩, hc, hg⟩; clear c1 HC; have HD := Lib.hid hd; have HGD := Lib.hid (show w.heap.size + 1 ≤ gd by have := HWO.out; omega); have HDL := Lib.hid (cur_lt hd); replace HR := Lib.hid (HR.out.grown hg (by intro e; injection e with e; have := HGO.out; omega)); replace HG := Lib.hid (below_g HG.out hg HG.out.size (by have := HGO.out; omega)); clear hgd hd hc hg HWO HGO)))
        have k9 := HRD.out _ HG.out
        go_wp2_with (first
          | (go_at_call 91; refine Calls.mono (T1.out _ _ HD.out) ?_; rintro e w3 ⟨ps, rfl, ho, hg⟩; clear T1 HD; replace ho := ho.less (show gd + 1 ≤ _ from HDL.out); replace HR := Lib.hid (HR.out.grown hg (by intro e; injection e with e; have := HGD.out; omega)); replace HG := Lib.hid (below_g HG.out hg HG.out.size (by have := HGD.out; omega)); have HBT := Lib.hid (built_tg ho); have HM := Lib.hid (show MpO w3 (gd + 1) zA ps zR zP zF ⟨2, as0, (tgQ s0).1, re0, ap0, fa0⟩ from ⟨zA_v, ho, zR_o _ _, zP_o _ _, zF_v⟩); have HMS := Lib.hid (HM.out.toV.size 2); have HMO := Lib.hid (HM.out.toV.one 2); clear hg ho)
          | (refine wpList_built (by rfl) 39 #[(0, .const (.int .i64 2)), (2, .tmp 25)] (by rfl) (mgA 2 zA ps zR zP zF) (by simp only [List.map_toArray, List.map_cons, List.map_nil]; exact HBT.out) ?_)
          | (refine wpList_store_mid (by rfl) 39 (.tmp 2) (.tmp 26) (by rfl) w.heap.size 0 (mgA 2 zA ps zR zP zF) (by rfl) (by rfl) (there_blk HR.out _ (by rw [HMS.out]; have := HZS.out; omega)) (by rw [HMS.out]; exact mg_info) HMO.out ?_)
          | fail)
        have hE := blk_cells (ds := mgA 2 zA ps zR zP zF) HR.out (by rw [HMS.out]; exact HZS.out)
        have hp := put_cells w3 w.heap.size (mgA 2 zA ps zR zP zF).toList
        have hq := load_blk (P := Tryz.prog) hE Tryz.underlying39 rfl (by rw [HMS.out]; exact mg_info)
        refine bodyPost_ret (v := .agg (mgA 2 zA ps zR zP zF)) ?_ ?_ ?_
        · exact results_cell 2 39 ⟨w.heap.size, 0, none⟩ Tryz.results44 rfl hq
        · rfl
        refine ⟨_, rfl, ?_, below_g HG.out hp (by have := HR.out.lt; omega) (Nat.le_refl _)⟩
        rw [EQ.out]
        exact ⟨zA, ps, zR, zP, zF, rfl, (HM.out.keep hp (by have := HGD.out; omega)).less (by have := HGD.out; omega)⟩
      · have d2 : ((t.toNat : Int) == 108) = false := by simp; intro e; exact m2 (UInt8.toNat_inj.1 (by rw [show (108 : UInt8).toNat = 108 from rfl]; omega))
        by_cases m3 : t = 107
        · have d3 : ((t.toNat : Int) == 107) = true := by rw [m3]; rfl
          have EQ := Lib.hid (show mgQ (t :: r) = ⟨3, as0, tg0, (reQ (bodyC t (some (t :: r)))).1, ap0, fa0⟩ by subst m3; rfl)
          obtain ⟨s0, es0⟩ : ∃ s, s = bodyC t (some (t :: r)) := ⟨_, rfl⟩
          rw [← es0] at c1 hl1 EQ
          have T1 := Lib.hid (fun g w1 h => takere_v g s0 w1 h hl1)
          clear es0 hl1 hl0 hs h hcell hu m1 m2 m3
          go_enter Tryz.func44, Tryz.ntmps44
          go_upto_region 1 with fail
          rw [← ezz, ← eW]
          clear ezz eW
          go_upto_region 3 with fail
          replace HR := Lib.hid (show Blk W.drew _ _ _ from HR.out.drewN 1)
          replace HG := Lib.hid (show Below _ _ W.drew from below_drewN HG.out 1)
          go_region_held3 (fun w' => w'.cell? ⟨bb, oo, none⟩ = some (.int .u8 (t.toNat : Int))) (exact HRD.out _ HG.out) ((first
            | (go_at_call 88; refine Calls.mono (c0.out _ HG.out) ?_; rintro e wo ⟨go, rfl, hgo, hco, hb⟩; clear c0; have HC := Lib.hid hco; have HGO := Lib.hid (show w.heap.size + 1 ≤ go by have := HWS.out; have : W.drew.heap.size = W.heap.size := rfl; omega); replace HR := Lib.hid (HR.out.below hb); replace HG := Lib.hid (HG.out.trans (hb.mono HG.out.size)); have HWO := Lib.hid (show w.heap.size + 1 ≤ wo.heap.size by have := hb.size; have := HWS.out; have : W.drew.heap.size = W.heap.size := rfl; omega); clear hgo hco hb)
            | (go_at_call 89; refine Calls.mono (c1.out _ _ HC.out) ?_; rintro e wi ⟨⟨gd, rfl, hgd, hd⟩, hc, hg⟩; clear c1 HC; have HD := Lib.hid hd; have HGD := Lib.hid (show w.heap.size + 1 ≤ gd by have := HWO.out; omega); have HDL := Lib.hid (cur_lt hd); replace HR := Lib.hid (HR.out.grown hg (by intro e; injection e with e; have := HGO.out; omega)); replace HG := Lib.hid (below_g HG.out hg HG.out.size (by have := HGO.out; omega)); clear hgd hd hc hg HWO HGO)))
          have k9 := HRD.out _ HG.out
          go_wp2_with (first
            | (go_at_call 92; refine Calls.mono (T1.out _ _ HD.out) ?_; rintro e w3 ⟨ps, rfl, ho, hg⟩; clear T1 HD; replace ho := ho.less (show gd + 1 ≤ _ from HDL.out); replace HR := Lib.hid (HR.out.grown hg (by intro e; injection e with e; have := HGD.out; omega)); replace HG := Lib.hid (below_g HG.out hg HG.out.size (by have := HGD.out; omega)); have HBT := Lib.hid (built_re ho); have HM := Lib.hid (show MpO w3 (gd + 1) zA zT ps zP zF ⟨3, as0, tg0, (reQ s0).1, ap0, fa0⟩ from ⟨zA_v, zT_o _ _, ho, zP_o _ _, zF_v⟩); have HMS := Lib.hid (HM.out.toV.size 3); have HMO := Lib.hid (HM.out.toV.one 3); clear hg ho)
            | (refine wpList_built (by rfl) 39 #[(0, .const (.int .i64 3)), (3, .tmp 30)] (by rfl) (mgA 3 zA zT ps zP zF) (by simp only [List.map_toArray, List.map_cons, List.map_nil]; exact HBT.out) ?_)
            | (refine wpList_store_mid (by rfl) 39 (.tmp 2) (.tmp 31) (by rfl) w.heap.size 0 (mgA 3 zA zT ps zP zF) (by rfl) (by rfl) (there_blk HR.out _ (by rw [HMS.out]; have := HZS.out; omega)) (by rw [HMS.out]; exact mg_info) HMO.out ?_)
            | fail)
          have hE := blk_cells (ds := mgA 3 zA zT ps zP zF) HR.out (by rw [HMS.out]; exact HZS.out)
          have hp := put_cells w3 w.heap.size (mgA 3 zA zT ps zP zF).toList
          have hq := load_blk (P := Tryz.prog) hE Tryz.underlying39 rfl (by rw [HMS.out]; exact mg_info)
          refine bodyPost_ret (v := .agg (mgA 3 zA zT ps zP zF)) ?_ ?_ ?_
          · exact results_cell 2 39 ⟨w.heap.size, 0, none⟩ Tryz.results44 rfl hq
          · rfl
          refine ⟨_, rfl, ?_, below_g HG.out hp (by have := HR.out.lt; omega) (Nat.le_refl _)⟩
          rw [EQ.out]
          exact ⟨zA, zT, ps, zP, zF, rfl, (HM.out.keep hp (by have := HGD.out; omega)).less (by have := HGD.out; omega)⟩
        · have d3 : ((t.toNat : Int) == 107) = false := by simp; intro e; exact m3 (UInt8.toNat_inj.1 (by rw [show (107 : UInt8).toNat = 107 from rfl]; omega))
          by_cases m4 : t = 110
          · have d4 : ((t.toNat : Int) == 110) = true := by rw [m4]; rfl
            have EQ := Lib.hid (show mgQ (t :: r) = ⟨4, as0, tg0, re0, (apQ (bodyC t (some (t :: r)))).1, fa0⟩ by subst m4; rfl)
            obtain ⟨s0, es0⟩ : ∃ s, s = bodyC t (some (t :: r)) := ⟨_, rfl⟩
            rw [← es0] at c1 hl1 EQ
            have T1 := Lib.hid (fun g w1 h => takeap_v g s0 w1 h hl1)
            clear es0 hl1 hl0 hs h hcell hu m1 m2 m3 m4
            go_enter Tryz.func44, Tryz.ntmps44
            go_upto_region 1 with fail
            rw [← ezz, ← eW]
            clear ezz eW
            go_upto_region 3 with fail
            replace HR := Lib.hid (show Blk W.drew _ _ _ from HR.out.drewN 1)
            replace HG := Lib.hid (show Below _ _ W.drew from below_drewN HG.out 1)
            go_region_held3 (fun w' => w'.cell? ⟨bb, oo, none⟩ = some (.int .u8 (t.toNat : Int))) (exact HRD.out _ HG.out) ((first
              | (go_at_call 88; refine Calls.mono (c0.out _ HG.out) ?_; rintro e wo ⟨go, rfl, hgo, hco, hb⟩; clear c0; have HC := Lib.hid hco; have HGO := Lib.hid (show w.heap.size + 1 ≤ go by have := HWS.out; have : W.drew.heap.size = W.heap.size := rfl; omega); replace HR := Lib.hid (HR.out.below hb); replace HG := Lib.hid (HG.out.trans (hb.mono HG.out.size)); have HWO := Lib.hid (show w.heap.size + 1 ≤ wo.heap.size by have := hb.size; have := HWS.out; have : W.drew.heap.size = W.heap.size := rfl; omega); clear hgo hco hb)
              | (go_at_call 89; refine Calls.mono (c1.out _ _ HC.out) ?_; rintro e wi ⟨⟨gd, rfl, hgd, hd⟩, hc, hg⟩; clear c1 HC; have HD := Lib.hid hd; have HGD := Lib.hid (show w.heap.size + 1 ≤ gd by have := HWO.out; omega); have HDL := Lib.hid (cur_lt hd); replace HR := Lib.hid (HR.out.grown hg (by intro e; injection e with e; have := HGO.out; omega)); replace HG := Lib.hid (below_g HG.out hg HG.out.size (by have := HGO.out; omega)); clear hgd hd hc hg HWO HGO)))
            have k9 := HRD.out _ HG.out
            go_wp2_with (first
              | (go_at_call 93; refine Calls.mono (T1.out _ _ HD.out) ?_; rintro e w3 ⟨ps, rfl, ho, hg⟩; clear T1 HD; replace ho := ho.less (show gd + 1 ≤ _ from HDL.out); replace HR := Lib.hid (HR.out.grown hg (by intro e; injection e with e; have := HGD.out; omega)); replace HG := Lib.hid (below_g HG.out hg HG.out.size (by have := HGD.out; omega)); have HBT := Lib.hid (built_ap ho); have HM := Lib.hid (show MpO w3 (gd + 1) zA zT zR ps zF ⟨4, as0, tg0, re0, (apQ s0).1, fa0⟩ from ⟨zA_v, zT_o _ _, zR_o _ _, ho, zF_v⟩); have HMS := Lib.hid (HM.out.toV.size 4); have HMO := Lib.hid (HM.out.toV.one 4); clear hg ho)
              | (refine wpList_built (by rfl) 39 #[(0, .const (.int .i64 4)), (4, .tmp 35)] (by rfl) (mgA 4 zA zT zR ps zF) (by simp only [List.map_toArray, List.map_cons, List.map_nil]; exact HBT.out) ?_)
              | (refine wpList_store_mid (by rfl) 39 (.tmp 2) (.tmp 36) (by rfl) w.heap.size 0 (mgA 4 zA zT zR ps zF) (by rfl) (by rfl) (there_blk HR.out _ (by rw [HMS.out]; have := HZS.out; omega)) (by rw [HMS.out]; exact mg_info) HMO.out ?_)
              | fail)
            have hE := blk_cells (ds := mgA 4 zA zT zR ps zF) HR.out (by rw [HMS.out]; exact HZS.out)
            have hp := put_cells w3 w.heap.size (mgA 4 zA zT zR ps zF).toList
            have hq := load_blk (P := Tryz.prog) hE Tryz.underlying39 rfl (by rw [HMS.out]; exact mg_info)
            refine bodyPost_ret (v := .agg (mgA 4 zA zT zR ps zF)) ?_ ?_ ?_
            · exact results_cell 2 39 ⟨w.heap.size, 0, none⟩ Tryz.results44 rfl hq
            · rfl
            refine ⟨_, rfl, ?_, below_g HG.out hp (by have := HR.out.lt; omega) (Nat.le_refl _)⟩
            rw [EQ.out]
            exact ⟨zA, zT, zR, ps, zF, rfl, (HM.out.keep hp (by have := HGD.out; omega)).less (by have := HGD.out; omega)⟩
          · have d4 : ((t.toNat : Int) == 110) = false := by simp; intro e; exact m4 (UInt8.toNat_inj.1 (by rw [show (110 : UInt8).toNat = 110 from rfl]; omega))
            by_cases m5 : t = 126
            · have d5 : ((t.toNat : Int) == 126) = true := by rw [m5]; rfl
              have EQ := Lib.hid (show mgQ (t :: r) = ⟨5, as0, tg0, re0, ap0, (faQ (bodyC t (some (t :: r)))).1⟩ by subst m5; rfl)
              obtain ⟨s0, es0⟩ : ∃ s, s = bodyC t (some (t :: r)) := ⟨_, rfl⟩
              rw [← es0] at c1 hl1 EQ
              have T1 := Lib.hid (fun g w1 h => takefa_v g s0 w1 h hl1)
              clear es0 hl1 hl0 hs h hcell hu m1 m2 m3 m4 m5
              go_enter Tryz.func44, Tryz.ntmps44
              go_upto_region 1 with fail
              rw [← ezz, ← eW]
              clear ezz eW
              go_upto_region 3 with fail
              replace HR := Lib.hid (show Blk W.drew _ _ _ from HR.out.drewN 1)
              replace HG := Lib.hid (show Below _ _ W.drew from below_drewN HG.out 1)
              go_region_held3 (fun w' => w'.cell? ⟨bb, oo, none⟩ = some (.int .u8 (t.toNat : Int))) (exact HRD.out _ HG.out) ((first
                | (go_at_call 88; refine Calls.mono (c0.out _ HG.out) ?_; rintro e wo ⟨go, rfl, hgo, hco, hb⟩; clear c0; have HC := Lib.hid hco; have HGO := Lib.hid (show w.heap.size + 1 ≤ go by have := HWS.out; have : W.drew.heap.size = W.heap.size := rfl; omega); replace HR := Lib.hid (HR.out.below hb); replace HG := Lib.hid (HG.out.trans (hb.mono HG.out.size)); have HWO := Lib.hid (show w.heap.size + 1 ≤ wo.heap.size by have := hb.size; have := HWS.out; have : W.drew.heap.size = W.heap.size := rfl; omega); clear hgo hco hb)
                | (go_at_call 89; refine Calls.mono (c1.out _ _ HC.out) ?_; rintro e wi ⟨⟨gd, rfl, hgd, hd⟩, hc, hg⟩; clear c1 HC; have HD := Lib.hid hd; have HGD := Lib.hid (show w.heap.size + 1 ≤ gd by have := HWO.out; omega); have HDL := Lib.hid (cur_lt hd); replace HR := Lib.hid (HR.out.grown hg (by intro e; injection e with e; have := HGO.out; omega)); replace HG := Lib.hid (below_g HG.out hg HG.out.size (by have := HGO.out; omega)); clear hgd hd hc hg HWO HGO)))
              have k9 := HRD.out _ HG.out
              go_wp2_with (first
                | (go_at_call 94; refine Calls.mono (T1.out _ _ HD.out) ?_; rintro e w3 ⟨ps, rfl, ho, hg⟩; clear T1 HD; replace HR := Lib.hid (HR.out.grown hg (by intro e; injection e with e; have := HGD.out; omega)); replace HG := Lib.hid (below_g HG.out hg HG.out.size (by have := HGD.out; omega)); have HBT := Lib.hid (built_fa ho); have HM := Lib.hid (show MpO w3 (gd + 1) zA zT zR zP ps ⟨5, as0, tg0, re0, ap0, (faQ s0).1⟩ from ⟨zA_v, zT_o _ _, zR_o _ _, zP_o _ _, ho⟩); have HMS := Lib.hid (HM.out.toV.size 5); have HMO := Lib.hid (HM.out.toV.one 5); clear hg ho)
                | (refine wpList_built (by rfl) 39 #[(0, .const (.int .i64 5)), (5, .tmp 40)] (by rfl) (mgA 5 zA zT zR zP ps) (by simp only [List.map_toArray, List.map_cons, List.map_nil]; exact HBT.out) ?_)
                | (refine wpList_store_mid (by rfl) 39 (.tmp 2) (.tmp 41) (by rfl) w.heap.size 0 (mgA 5 zA zT zR zP ps) (by rfl) (by rfl) (there_blk HR.out _ (by rw [HMS.out]; have := HZS.out; omega)) (by rw [HMS.out]; exact mg_info) HMO.out ?_)
                | fail)
              have hE := blk_cells (ds := mgA 5 zA zT zR zP ps) HR.out (by rw [HMS.out]; exact HZS.out)
              have hp := put_cells w3 w.heap.size (mgA 5 zA zT zR zP ps).toList
              have hq := load_blk (P := Tryz.prog) hE Tryz.underlying39 rfl (by rw [HMS.out]; exact mg_info)
              refine bodyPost_ret (v := .agg (mgA 5 zA zT zR zP ps)) ?_ ?_ ?_
              · exact results_cell 2 39 ⟨w.heap.size, 0, none⟩ Tryz.results44 rfl hq
              · rfl
              refine ⟨_, rfl, ?_, below_g HG.out hp (by have := HR.out.lt; omega) (Nat.le_refl _)⟩
              rw [EQ.out]
              exact ⟨zA, zT, zR, zP, ps, rfl, (HM.out.keep hp (by have := HGD.out; omega)).less (by have := HGD.out; omega)⟩
            · have d5 : ((t.toNat : Int) == 126) = false := by simp; intro e; exact m5 (UInt8.toNat_inj.1 (by rw [show (126 : UInt8).toNat = 126 from rfl]; omega))
              have EQ := Lib.hid (show mgQ (t :: r) = ⟨0, as0, tg0, re0, ap0, fa0⟩ by simp only [mgQ, if_neg m1, if_neg m2, if_neg m3, if_neg m4, if_neg m5]; rfl)
              have HMS := Lib.hid ((zM_v w 0 0).size 0)
              have HMO := Lib.hid ((zM_v w 0 0).one 0)
              clear m1 m2 m3 m4 m5 hl1 hl0 hs h hcell hu
              go_enter Tryz.func44, Tryz.ntmps44
              go_upto_region 1 with fail
              rw [← ezz, ← eW]
              clear ezz eW
              go_upto_region 3 with fail
              replace HR := Lib.hid (show Blk W.drew _ _ _ from HR.out.drewN 1)
              replace HG := Lib.hid (show Below _ _ W.drew from below_drewN HG.out 1)
              go_region_held3 (fun w' => w'.cell? ⟨bb, oo, none⟩ = some (.int .u8 (t.toNat : Int))) (exact HRD.out _ HG.out) ((first
                | (go_at_call 88; refine Calls.mono (c0.out _ HG.out) ?_; rintro e wo ⟨go, rfl, hgo, hco, hb⟩; clear c0; have HC := Lib.hid hco; have HGO := Lib.hid (show w.heap.size + 1 ≤ go by have := HWS.out; have : W.drew.heap.size = W.heap.size := rfl; omega); replace HR := Lib.hid (HR.out.below hb); replace HG := Lib.hid (HG.out.trans (hb.mono HG.out.size)); have HWO := Lib.hid (show w.heap.size + 1 ≤ wo.heap.size by have := hb.size; have := HWS.out; have : W.drew.heap.size = W.heap.size := rfl; omega); clear hgo hco hb)
                | (go_at_call 89; refine Calls.mono (c1.out _ _ HC.out) ?_; rintro e wi ⟨⟨gd, rfl, hgd, hd⟩, hc, hg⟩; clear c1 HC; have HD := Lib.hid hd; have HGD := Lib.hid (show w.heap.size + 1 ≤ gd by have := HWO.out; omega); have HDL := Lib.hid (cur_lt hd); replace HR := Lib.hid (HR.out.grown hg (by intro e; injection e with e; have := HGO.out; omega)); replace HG := Lib.hid (below_g HG.out hg HG.out.size (by have := HGO.out; omega)); clear hgd hd hc hg HWO HGO)))
              have k9 := HRD.out _ HG.out
              go_wp2_with (first
                | (refine wpList_built (by rfl) 39 #[] (by rfl) (mgA 0 zA zT zR zP zF) built_none ?_)
                | (refine wpList_store_mid (by rfl) 39 (.tmp 2) (.tmp 42) (by rfl) w.heap.size 0 (mgA 0 zA zT zR zP zF) (by rfl) (by rfl) (there_blk HR.out _ (by rw [HMS.out]; have := HZS.out; omega)) (by rw [HMS.out]; exact mg_info) HMO.out ?_)
                | fail)
              have hE := blk_cells (ds := mgA 0 zA zT zR zP zF) HR.out (by rw [HMS.out]; exact HZS.out)
              have hp := put_cells wi w.heap.size (mgA 0 zA zT zR zP zF).toList
              have hq := load_blk (P := Tryz.prog) hE Tryz.underlying39 rfl (by rw [HMS.out]; exact mg_info)
              refine bodyPost_ret (v := .agg (mgA 0 zA zT zR zP zF)) ?_ ?_ ?_
              · exact results_cell 2 39 ⟨w.heap.size, 0, none⟩ Tryz.results44 rfl hq
              · rfl
              refine ⟨_, rfl, ?_, below_g HG.out hp (by have := HR.out.lt; omega) (Nat.le_refl _)⟩
              rw [EQ.out]
              exact ⟨zA, zT, zR, zP, zF, rfl, ⟨zA_v, zT_o _ _, zR_o _ _, zP_o _ _, zF_v⟩⟩
end Go.Proofs.YteeabfplnaknfaaGreat.Mc
end

section
set_option linter.unusedVariables false
set_option linter.unusedSimpArgs false
namespace Go.Proofs.YteeabfplnaknfaaGreat.Mc
open Go.RowKit Go.Proofs.YteeabfplnaknfaaGreat.Mem Go.Proofs.YteeabfplnaknfaaGreat.DerP Go.Proofs.YteeabfplnaknfaaGreat.DerC Go.Proofs.YteeabfplnaknfaaGreat.Ms

def mgG (b : L) : Mg := (mgD b).getD mg0
def mgI (b : L) : Int := if (mgD b).isSome then 0 else 2
theorem pr0_sm : pSm pr0 := ⟨by decide, by decide⟩
theorem mgQ_sm {b : L} (hl : b.length ≤ 100000) : mSm (mgQ b) := by
  have z := pr0_sm
  have hz : mSm ⟨0, as0, tg0, re0, ap0, fa0⟩ := ⟨⟨z, z⟩, ⟨z, z⟩, ⟨z, z⟩, z⟩
  cases b with
  | nil => exact hz
  | cons t r =>
    have h0 : ∀ u, ((bodyC u (some (t :: r))).getD []).length ≤ 100000 := fun u => bd_len u (show ((some (t :: r) : Option L).getD []).length ≤ 100000 from hl)
    simp only [mgQ]
    split
    · exact ⟨⟨prQ_sm (h0 _), prQ_sm (nx_len 48 (h0 _))⟩, ⟨z, z⟩, ⟨z, z⟩, z⟩
    · split
      · exact ⟨⟨z, z⟩, ⟨prQ_sm (bd_len 97 (h0 _)), prQ_sm (nx_len 4 (nx_len 97 (h0 _)))⟩, ⟨z, z⟩, z⟩
      · split
        · exact ⟨⟨z, z⟩, ⟨z, z⟩, ⟨prQ_sm (h0 _), prQ_sm (bd_len 97 (nx_len 48 (h0 _)))⟩, z⟩
        · split
          · exact ⟨⟨z, z⟩, ⟨z, z⟩, ⟨z, z⟩, prQ_sm (bd_len 97 (h0 _))⟩
          · split
            · exact ⟨⟨z, z⟩, ⟨z, z⟩, ⟨z, z⟩, z⟩
            · exact hz
theorem zz_o (w : World) (B : Nat) : MgO w B (mgA 0 zA zT zR zP zF) mg0 := ⟨_, _, _, _, _, rfl, zM_o w B 0⟩
set_option maxHeartbeats 12800000 in
set_option maxRecDepth 10000 in
theorem decode_mg (A : Option Addr) (b : L) (c : Nat) (w : World) (hr : Rd w w.heap.size A (bvs b)) : Calls Tryz.prog 43 #[.slice A b.length c, .func (.func 44) #[] #[], .func (.func 9) #[] #[]] w fun e w' => ∃ ds, e = .returned (.tuple #[.agg ds, .int .i64 (mgI b)]) ∧ MgO w' w.heap.size ds (mgG b) ∧ Below w.heap.size w w' := by
  obtain ⟨zz, ezz⟩ : ∃ z : Array Value, z = #[.int .i64 0, .string ⟨#[]⟩, .string ⟨#[]⟩, .string ⟨#[]⟩, .string ⟨#[]⟩, .int .i64 0, .int .i64 0, .string ⟨#[]⟩, .string ⟨#[]⟩, .int .i64 0, .slice none 0 0, .slice none 0 0, .string ⟨#[]⟩, .string ⟨#[]⟩, .int .i64 0, .int .i64 0, .string ⟨#[]⟩, .string ⟨#[]⟩, .string ⟨#[]⟩, .string ⟨#[]⟩, .int .i64 0, .slice none 0 0, .slice none 0 0, .string ⟨#[]⟩, .string ⟨#[]⟩, .int .i64 0, .slice none 0 0, .slice none 0 0, .int .i64 0, .int .i64 0] := ⟨_, rfl⟩
  have ez0 : zz = mgA 0 zA zT zR zP zF := by rw [ezz]; rfl
  have hz : ∀ (w1 : World) (B : Nat), MgO w1 B zz mg0 := fun w1 B => by rw [ez0]; exact zz_o w1 B
  have hzs : zz.size = 30 := (hz w 0).size
  obtain ⟨W, eW⟩ : ∃ W, W = (w.alloc (.cells zz 39)).alloc (.cells zz 39) := ⟨_, rfl⟩
  have hWs : W.heap.size = w.heap.size + 1 + 1 := by rw [eW]; simp
  have hq := Blk.new (w.alloc (.cells zz 39)) 39 zz
  rw [show (w.alloc (.cells zz 39)).heap.size = w.heap.size + 1 by simp, ← eW] at hq
  have HZ := Lib.hid hq
  clear hq
  have HR := Lib.hid (show Blk W w.heap.size 39 zz by rw [eW]; exact (Blk.new _ _ _).alloc _)
  have HG := Lib.hid (show Below w.heap.size w W by rw [eW]; exact ((Below.refl _ _).alloc (Nat.le_refl _) _).alloc (by simp) _)
  have HRD := Lib.hid (fun w1 (h : Below w.heap.size w w1) => (hr.below h).more h.size)
  have HIZ := Lib.hid (show (Tryz.prog.info? 39).map (·.size) = some zz.size by rw [hzs]; exact mg_info)
  have HZO := Lib.hid (show zz.all (·.oneCell') = true from (hz w 0).one)
  have HZS := Lib.hid hzs
  have HZM := Lib.hid hz
  have ED := Lib.hid (mg_same b)
  have HWS := Lib.hid hWs
  clear hWs hzs ez0 hz
  by_cases hl : b.length ≤ 2000
  · have t1 : decide ((2000 : Int) < (b.length : Int)) = false := decide_eq_false (by omega)
    have hl1 : b.length ≤ 100000 := by omega
    have hsm := mgQ_sm hl1
    have T1 := Lib.hid (fun w1 (h : Rd w1 w1.heap.size A (bvs b)) => takemsg_any A b c w1 h hl1)
    have EN := Lib.hid (fun w1 cs (h : MgV w1 w1.heap.size cs (mgQ b)) => enc_any cs (mgQ b) w1 h hsm)
    have BE := Lib.hid (fun (l : L) (g c2 : Nat) (w1 : World) (h : Rd w1 w1.heap.size (some ⟨g, 0, none⟩) (bvs l)) (hb : Below w.heap.size w w1) => beq_any l b (some ⟨g, 0, none⟩) A c2 c w1.heap.size w1 h (HRD.out w1 hb))
    clear hl hl1 hr hsm
    cases ho : mgO (mgQ b) with
    | none =>
      rw [ho] at EN
      have hD : mgD b = none := by rw [ED.out, ho]; rfl
      have GE := Lib.hid (show mgG b = mg0 by rw [mgG, hD]; rfl)
      have IE := Lib.hid (show mgI b = 2 by rw [mgI, hD]; rfl)
      clear ED ho hD BE
      go_enter Tryz.func43, Tryz.ntmps43
      go_upto_region 2 with fail
      rw [← ezz, ← eW]
      clear ezz eW
      go_wp2_with (first
        | (refine load_cells (by rfl) 39 (.tmp 8) (by rfl) (w.heap.size + 1) 0 (by rfl) zz _ (range_blk HZ.out) Tryz.underlying39 (by rfl) HIZ.out ?_)
        | (refine wpList_store_mid (by rfl) 39 (.tmp 6) (.tmp 33) (by rfl) w.heap.size 0 zz (by rfl) (by rfl) (there_blk HR.out _ (Nat.le_refl _)) HIZ.out HZO.out ?_)
        | (go_at_call 44; refine Calls.mono (T1.out _ (HRD.out _ HG.out)) ?_; rintro e w4 ⟨cs, rfl, hv, hb⟩; clear T1; have HV := Lib.hid (hv.less (show w.heap.size + 1 ≤ _ by have := HR.out.lt; omega)); have HCI := Lib.hid (show (Tryz.prog.info? 39).map (·.size) = some cs.size by rw [hv.size]; exact mg_info); have HCO := Lib.hid (show cs.all (·.oneCell') = true from hv.one); have HCS := Lib.hid hv.size; clear hv; replace HZ := Lib.hid (HZ.out.below hb); replace HR := Lib.hid (HR.out.below hb); replace HG := Lib.hid (HG.out.trans (hb.mono HG.out.size)); clear hb)
        | (refine wpList_store_mid (by rfl) 39 (.tmp 9) (.tmp 18) (by rfl) w4.heap.size 0 cs (by rfl) (by rfl) (there_blk (Blk.new w4 39 #[.int .i64 0, .string ⟨#[]⟩, .string ⟨#[]⟩, .string ⟨#[]⟩, .string ⟨#[]⟩, .int .i64 0, .int .i64 0, .string ⟨#[]⟩, .string ⟨#[]⟩, .int .i64 0, .slice none 0 0, .slice none 0 0, .string ⟨#[]⟩, .string ⟨#[]⟩, .int .i64 0, .int .i64 0, .string ⟨#[]⟩, .string ⟨#[]⟩, .string ⟨#[]⟩, .string ⟨#[]⟩, .int .i64 0, .slice none 0 0, .slice none 0 0, .string ⟨#[]⟩, .string ⟨#[]⟩, .int .i64 0, .slice none 0 0, .slice none 0 0, .int .i64 0, .int .i64 0]) _ (by have := HCS.out; simp; omega)) HCI.out HCO.out ?_; have hV := stored_new w4 39 #[.int .i64 0, .string ⟨#[]⟩, .string ⟨#[]⟩, .string ⟨#[]⟩, .string ⟨#[]⟩, .int .i64 0, .int .i64 0, .string ⟨#[]⟩, .string ⟨#[]⟩, .int .i64 0, .slice none 0 0, .slice none 0 0, .string ⟨#[]⟩, .string ⟨#[]⟩, .int .i64 0, .int .i64 0, .string ⟨#[]⟩, .string ⟨#[]⟩, .string ⟨#[]⟩, .string ⟨#[]⟩, .int .i64 0, .slice none 0 0, .slice none 0 0, .string ⟨#[]⟩, .string ⟨#[]⟩, .int .i64 0, .slice none 0 0, .slice none 0 0, .int .i64 0, .int .i64 0] cs (by have := HCS.out; simp; omega); generalize ((w4.alloc (.cells #[.int .i64 0, .string ⟨#[]⟩, .string ⟨#[]⟩, .string ⟨#[]⟩, .string ⟨#[]⟩, .int .i64 0, .int .i64 0, .string ⟨#[]⟩, .string ⟨#[]⟩, .int .i64 0, .slice none 0 0, .slice none 0 0, .string ⟨#[]⟩, .string ⟨#[]⟩, .int .i64 0, .int .i64 0, .string ⟨#[]⟩, .string ⟨#[]⟩, .string ⟨#[]⟩, .string ⟨#[]⟩, .int .i64 0, .slice none 0 0, .slice none 0 0, .string ⟨#[]⟩, .string ⟨#[]⟩, .int .i64 0, .slice none 0 0, .slice none 0 0, .int .i64 0, .int .i64 0] 39)).setCells w4.heap.size 0 cs.toList) = V at hV ⊢; have HX := Lib.hid hV.1; replace HV := Lib.hid (HV.out.below hV.2); replace HZ := Lib.hid (HZ.out.below hV.2); replace HR := Lib.hid (HR.out.below hV.2); replace HG := Lib.hid (HG.out.trans (hV.2.mono HG.out.size)); clear hV)
        | (refine load_cells (by rfl) 39 (.tmp 9) (by rfl) w4.heap.size 0 (by rfl) cs _ (range_blk HX.out) Tryz.underlying39 (by rfl) HCI.out ?_)
        | (go_at_call 9; refine Calls.mono (EN.out _ _ HV.out.toV) ?_; rintro e we ⟨⟨v, i, rfl, hn, hsm⟩, hb⟩; obtain ⟨rfl, rfl⟩ := hn rfl; clear EN; replace HV := Lib.hid (HV.out.below hb); replace HX := Lib.hid (HX.out.below hb); replace HZ := Lib.hid (HZ.out.below hb); replace HR := Lib.hid (HR.out.below hb); replace HG := Lib.hid (HG.out.trans (hb.mono HG.out.size)); clear hb hn hsm)
        | fail)
      have hE := blk_cells (ds := zz) HR.out (by rfl)
      have hp := put_cells we w.heap.size zz.toList
      have hq := load_blk (P := Tryz.prog) hE Tryz.underlying39 rfl HIZ.out
      refine bodyPost_ret (v := .tuple #[.agg zz, .int .i64 2]) ?_ ?_ ?_
      · exact results_pair (v := .agg zz) 6 7 39 ⟨w.heap.size, 0, none⟩ Tryz.results43 rfl hq rfl
      · rfl
      refine ⟨_, by rw [IE.out], ?_, below_g HG.out hp (by have := HR.out.lt; omega) (Nat.le_refl _)⟩
      rw [GE.out]
      exact HZM.out _ _
    | some l =>
      rw [ho] at EN
      by_cases hlb : l = b
      · have BF := Lib.hid (decide_eq_true hlb)
        have hD : mgD b = some (mgQ b) := by rw [ED.out, ho, if_pos (by rw [hlb])]
        have GE := Lib.hid (show mgG b = mgQ b by rw [mgG, hD]; rfl)
        have IE := Lib.hid (show mgI b = 0 by rw [mgI, hD]; rfl)
        clear ED ho hlb hD
        go_enter Tryz.func43, Tryz.ntmps43
        go_upto_region 2 with fail
        rw [← ezz, ← eW]
        clear ezz eW
        go_wp2_with (first
          | (refine load_cells (by rfl) 39 (.tmp 8) (by rfl) (w.heap.size + 1) 0 (by rfl) zz _ (range_blk HZ.out) Tryz.underlying39 (by rfl) HIZ.out ?_)
          | (refine wpList_store_mid (by rfl) 39 (.tmp 6) (.tmp 34) (by rfl) w.heap.size 0 cs (by rfl) (by rfl) (there_blk HR.out _ (by have := HZS.out; have := HCS.out; omega)) HCI.out HCO.out ?_)
          | (go_at_call 44; refine Calls.mono (T1.out _ (HRD.out _ HG.out)) ?_; rintro e w4 ⟨cs, rfl, hv, hb⟩; clear T1; have HV := Lib.hid (hv.less (show w.heap.size + 1 ≤ _ by have := HR.out.lt; omega)); have HCI := Lib.hid (show (Tryz.prog.info? 39).map (·.size) = some cs.size by rw [hv.size]; exact mg_info); have HCO := Lib.hid (show cs.all (·.oneCell') = true from hv.one); have HCS := Lib.hid hv.size; clear hv; replace HZ := Lib.hid (HZ.out.below hb); replace HR := Lib.hid (HR.out.below hb); replace HG := Lib.hid (HG.out.trans (hb.mono HG.out.size)); clear hb)
          | (refine wpList_store_mid (by rfl) 39 (.tmp 9) (.tmp 18) (by rfl) w4.heap.size 0 cs (by rfl) (by rfl) (there_blk (Blk.new w4 39 #[.int .i64 0, .string ⟨#[]⟩, .string ⟨#[]⟩, .string ⟨#[]⟩, .string ⟨#[]⟩, .int .i64 0, .int .i64 0, .string ⟨#[]⟩, .string ⟨#[]⟩, .int .i64 0, .slice none 0 0, .slice none 0 0, .string ⟨#[]⟩, .string ⟨#[]⟩, .int .i64 0, .int .i64 0, .string ⟨#[]⟩, .string ⟨#[]⟩, .string ⟨#[]⟩, .string ⟨#[]⟩, .int .i64 0, .slice none 0 0, .slice none 0 0, .string ⟨#[]⟩, .string ⟨#[]⟩, .int .i64 0, .slice none 0 0, .slice none 0 0, .int .i64 0, .int .i64 0]) _ (by have := HCS.out; simp; omega)) HCI.out HCO.out ?_; have hV := stored_new w4 39 #[.int .i64 0, .string ⟨#[]⟩, .string ⟨#[]⟩, .string ⟨#[]⟩, .string ⟨#[]⟩, .int .i64 0, .int .i64 0, .string ⟨#[]⟩, .string ⟨#[]⟩, .int .i64 0, .slice none 0 0, .slice none 0 0, .string ⟨#[]⟩, .string ⟨#[]⟩, .int .i64 0, .int .i64 0, .string ⟨#[]⟩, .string ⟨#[]⟩, .string ⟨#[]⟩, .string ⟨#[]⟩, .int .i64 0, .slice none 0 0, .slice none 0 0, .string ⟨#[]⟩, .string ⟨#[]⟩, .int .i64 0, .slice none 0 0, .slice none 0 0, .int .i64 0, .int .i64 0] cs (by have := HCS.out; simp; omega); generalize ((w4.alloc (.cells #[.int .i64 0, .string ⟨#[]⟩, .string ⟨#[]⟩, .string ⟨#[]⟩, .string ⟨#[]⟩, .int .i64 0, .int .i64 0, .string ⟨#[]⟩, .string ⟨#[]⟩, .int .i64 0, .slice none 0 0, .slice none 0 0, .string ⟨#[]⟩, .string ⟨#[]⟩, .int .i64 0, .int .i64 0, .string ⟨#[]⟩, .string ⟨#[]⟩, .string ⟨#[]⟩, .string ⟨#[]⟩, .int .i64 0, .slice none 0 0, .slice none 0 0, .string ⟨#[]⟩, .string ⟨#[]⟩, .int .i64 0, .slice none 0 0, .slice none 0 0, .int .i64 0, .int .i64 0] 39)).setCells w4.heap.size 0 cs.toList) = V at hV ⊢; have HX := Lib.hid hV.1; replace HV := Lib.hid (HV.out.below hV.2); replace HZ := Lib.hid (HZ.out.below hV.2); replace HR := Lib.hid (HR.out.below hV.2); replace HG := Lib.hid (HG.out.trans (hV.2.mono HG.out.size)); clear hV)
          | (refine load_cells (by rfl) 39 (.tmp 9) (by rfl) w4.heap.size 0 (by rfl) cs _ (range_blk HX.out) Tryz.underlying39 (by rfl) HCI.out ?_)
          | (go_at_call 9; refine Calls.mono (EN.out _ _ HV.out.toV) ?_; rintro e we ⟨⟨v, i, rfl, hn, hsm⟩, hb⟩; obtain ⟨rfl, gx, cx, rfl, hgx, hcx, hrx⟩ := hsm l rfl; have HRX := Lib.hid hrx; clear hgx hcx hrx; clear EN; replace HV := Lib.hid (HV.out.below hb); replace HX := Lib.hid (HX.out.below hb); replace HZ := Lib.hid (HZ.out.below hb); replace HR := Lib.hid (HR.out.below hb); replace HG := Lib.hid (HG.out.trans (hb.mono HG.out.size)); clear hb hn hsm)
          | (go_at_call 87; refine Calls.mono (BE.out l gx cx _ HRX.out HG.out) ?_; rw [BF.out]; rintro e wb ⟨rfl, hw⟩; subst hw; clear BE)
          | fail)
        have hE := blk_cells (ds := cs) HR.out (by have := HZS.out; have := HCS.out; omega)
        have hp := put_cells we w.heap.size cs.toList
        have hq := load_blk (P := Tryz.prog) hE Tryz.underlying39 rfl HCI.out
        refine bodyPost_ret (v := .tuple #[.agg cs, .int .i64 0]) ?_ ?_ ?_
        · exact results_pair (v := .agg cs) 6 7 39 ⟨w.heap.size, 0, none⟩ Tryz.results43 rfl hq rfl
        · rfl
        refine ⟨_, by rw [IE.out], ?_, below_g HG.out hp (by have := HR.out.lt; omega) (Nat.le_refl _)⟩
        rw [GE.out]
        exact (HV.out.keep hp (by omega)).less (by omega)
      · have BF := Lib.hid (decide_eq_false hlb)
        have hD : mgD b = none := by rw [ED.out, ho, if_neg (fun h => hlb (Option.some.inj h))]
        have GE := Lib.hid (show mgG b = mg0 by rw [mgG, hD]; rfl)
        have IE := Lib.hid (show mgI b = 2 by rw [mgI, hD]; rfl)
        clear ED ho hlb hD
        go_enter Tryz.func43, Tryz.ntmps43
        go_upto_region 2 with fail
        rw [← ezz, ← eW]
        clear ezz eW
        go_wp2_with (first
          | (refine load_cells (by rfl) 39 (.tmp 8) (by rfl) (w.heap.size + 1) 0 (by rfl) zz _ (range_blk HZ.out) Tryz.underlying39 (by rfl) HIZ.out ?_)
          | (refine wpList_store_mid (by rfl) 39 (.tmp 6) (.tmp 33) (by rfl) w.heap.size 0 zz (by rfl) (by rfl) (there_blk HR.out _ (Nat.le_refl _)) HIZ.out HZO.out ?_)
          | (go_at_call 44; refine Calls.mono (T1.out _ (HRD.out _ HG.out)) ?_; rintro e w4 ⟨cs, rfl, hv, hb⟩; clear T1; have HV := Lib.hid (hv.less (show w.heap.size + 1 ≤ _ by have := HR.out.lt; omega)); have HCI := Lib.hid (show (Tryz.prog.info? 39).map (·.size) = some cs.size by rw [hv.size]; exact mg_info); have HCO := Lib.hid (show cs.all (·.oneCell') = true from hv.one); have HCS := Lib.hid hv.size; clear hv; replace HZ := Lib.hid (HZ.out.below hb); replace HR := Lib.hid (HR.out.below hb); replace HG := Lib.hid (HG.out.trans (hb.mono HG.out.size)); clear hb)
          | (refine wpList_store_mid (by rfl) 39 (.tmp 9) (.tmp 18) (by rfl) w4.heap.size 0 cs (by rfl) (by rfl) (there_blk (Blk.new w4 39 #[.int .i64 0, .string ⟨#[]⟩, .string ⟨#[]⟩, .string ⟨#[]⟩, .string ⟨#[]⟩, .int .i64 0, .int .i64 0, .string ⟨#[]⟩, .string ⟨#[]⟩, .int .i64 0, .slice none 0 0, .slice none 0 0, .string ⟨#[]⟩, .string ⟨#[]⟩, .int .i64 0, .int .i64 0, .string ⟨#[]⟩, .string ⟨#[]⟩, .string ⟨#[]⟩, .string ⟨#[]⟩, .int .i64 0, .slice none 0 0, .slice none 0 0, .string ⟨#[]⟩, .string ⟨#[]⟩, .int .i64 0, .slice none 0 0, .slice none 0 0, .int .i64 0, .int .i64 0]) _ (by have := HCS.out; simp; omega)) HCI.out HCO.out ?_; have hV := stored_new w4 39 #[.int .i64 0, .string ⟨#[]⟩, .string ⟨#[]⟩, .string ⟨#[]⟩, .string ⟨#[]⟩, .int .i64 0, .int .i64 0, .string ⟨#[]⟩, .string ⟨#[]⟩, .int .i64 0, .slice none 0 0, .slice none 0 0, .string ⟨#[]⟩, .string ⟨#[]⟩, .int .i64 0, .int .i64 0, .string ⟨#[]⟩, .string ⟨#[]⟩, .string ⟨#[]⟩, .string ⟨#[]⟩, .int .i64 0, .slice none 0 0, .slice none 0 0, .string ⟨#[]⟩, .string ⟨#[]⟩, .int .i64 0, .slice none 0 0, .slice none 0 0, .int .i64 0, .int .i64 0] cs (by have := HCS.out; simp; omega); generalize ((w4.alloc (.cells #[.int .i64 0, .string ⟨#[]⟩, .string ⟨#[]⟩, .string ⟨#[]⟩, .string ⟨#[]⟩, .int .i64 0, .int .i64 0, .string ⟨#[]⟩, .string ⟨#[]⟩, .int .i64 0, .slice none 0 0, .slice none 0 0, .string ⟨#[]⟩, .string ⟨#[]⟩, .int .i64 0, .int .i64 0, .string ⟨#[]⟩, .string ⟨#[]⟩, .string ⟨#[]⟩, .string ⟨#[]⟩, .int .i64 0, .slice none 0 0, .slice none 0 0, .string ⟨#[]⟩, .string ⟨#[]⟩, .int .i64 0, .slice none 0 0, .slice none 0 0, .int .i64 0, .int .i64 0] 39)).setCells w4.heap.size 0 cs.toList) = V at hV ⊢; have HX := Lib.hid hV.1; replace HV := Lib.hid (HV.out.below hV.2); replace HZ := Lib.hid (HZ.out.below hV.2); replace HR := Lib.hid (HR.out.below hV.2); replace HG := Lib.hid (HG.out.trans (hV.2.mono HG.out.size)); clear hV)
          | (refine load_cells (by rfl) 39 (.tmp 9) (by rfl) w4.heap.size 0 (by rfl) cs _ (range_blk HX.out) Tryz.underlying39 (by rfl) HCI.out ?_)
          | (go_at_call 9; refine Calls.mono (EN.out _ _ HV.out.toV) ?_; rintro e we ⟨⟨v, i, rfl, hn, hsm⟩, hb⟩; obtain ⟨rfl, gx, cx, rfl, hgx, hcx, hrx⟩ := hsm l rfl; have HRX := Lib.hid hrx; clear hgx hcx hrx; clear EN; replace HV := Lib.hid (HV.out.below hb); replace HX := Lib.hid (HX.out.below hb); replace HZ := Lib.hid (HZ.out.below hb); replace HR := Lib.hid (HR.out.below hb); replace HG := Lib.hid (HG.out.trans (hb.mono HG.out.size)); clear hb hn hsm)
          | (go_at_call 87; refine Calls.mono (BE.out l gx cx _ HRX.out HG.out) ?_; rw [BF.out]; rintro e wb ⟨rfl, hw⟩; subst hw; clear BE)
          | fail)
        have hE := blk_cells (ds := zz) HR.out (by rfl)
        have hp := put_cells we w.heap.size zz.toList
        have hq := load_blk (P := Tryz.prog) hE Tryz.underlying39 rfl HIZ.out
        refine bodyPost_ret (v := .tuple #[.agg zz, .int .i64 2]) ?_ ?_ ?_
        · exact results_pair (v := .agg zz) 6 7 39 ⟨w.heap.size, 0, none⟩ Tryz.results43 rfl hq rfl
        · rfl
        refine ⟨_, by rw [IE.out], ?_, below_g HG.out hp (by have := HR.out.lt; omega) (Nat.le_refl _)⟩
        rw [GE.out]
        exact HZM.out _ _
  · have t1 : decide ((2000 : Int) < (b.length : Int)) = true := decide_eq_true (by omega)
    have hD : mgD b = none := by
      rw [ED.out, if_neg]
      intro h; have h2 := lim_iff.1 h; exact hl (by rw [← h2.2.2]; exact h2.2.1)
    have GE := Lib.hid (show mgG b = mg0 by rw [mgG, hD]; rfl)
    have IE := Lib.hid (show mgI b = 2 by rw [mgI, hD]; rfl)
    clear ED hD hl hr HRD
    go_enter Tryz.func43, Tryz.ntmps43
    go_upto_region 2 with fail
    rw [← ezz, ← eW]
    clear ezz eW
    go_wp2_with (first
      | (refine load_cells (by rfl) 39 (.tmp 8) (by rfl) (w.heap.size + 1) 0 (by rfl) zz _ (range_blk HZ.out) Tryz.underlying39 (by rfl) HIZ.out ?_)
      | (refine wpList_store_mid (by rfl) 39 (.tmp 6) (.tmp 15) (by rfl) w.heap.size 0 zz (by rfl) (by rfl) (there_blk HR.out _ (Nat.le_refl _)) HIZ.out HZO.out ?_)
      | fail)
    have hE := blk_cells (ds := zz) HR.out (by rfl)
    have hp := put_cells W w.heap.size zz.toList
    have hq := load_blk (P := Tryz.prog) hE Tryz.underlying39 rfl HIZ.out
    refine bodyPost_ret (v := .tuple #[.agg zz, .int .i64 2]) ?_ ?_ ?_
    · exact results_pair (v := .agg zz) 6 7 39 ⟨w.heap.size, 0, none⟩ Tryz.results43 rfl hq rfl
    · rfl
    refine ⟨_, by rw [IE.out], ?_, below_g HG.out hp (by have := HR.out.lt; omega) (Nat.le_refl _)⟩
    rw [GE.out]
    exact HZM.out _ _
set_option maxHeartbeats 3200000 in
set_option maxRecDepth 10000 in
theorem dec_any (A : Option Addr) (b : L) (c : Nat) (w : World) (hr : Rd w w.heap.size A (bvs b)) : Calls Tryz.prog 11 #[.slice A b.length c] w fun e w' => ∃ ds, e = .returned (.tuple #[.agg ds, .int .i64 (mgI b)]) ∧ MgO w' w.heap.size ds (mgG b) ∧ Below w.heap.size w w' := by
  obtain ⟨zz, ezz⟩ : ∃ z : Array Value, z = #[.int .i64 0, .string ⟨#[]⟩, .string ⟨#[]⟩, .string ⟨#[]⟩, .string ⟨#[]⟩, .int .i64 0, .int .i64 0, .string ⟨#[]⟩, .string ⟨#[]⟩, .int .i64 0, .slice none 0 0, .slice none 0 0, .string ⟨#[]⟩, .string ⟨#[]⟩, .int .i64 0, .int .i64 0, .string ⟨#[]⟩, .string ⟨#[]⟩, .string ⟨#[]⟩, .string ⟨#[]⟩, .int .i64 0, .slice none 0 0, .slice none 0 0, .string ⟨#[]⟩, .string ⟨#[]⟩, .int .i64 0, .slice none 0 0, .slice none 0 0, .int .i64 0, .int .i64 0] := ⟨_, rfl⟩
  have HZS := Lib.hid (show zz.size = 30 by rw [ezz]; simp)
  have c1 := decode_mg A b c (w.alloc (.cells zz 39)) ((hr.alloc (Nat.le_refl _) _).more (by simp))
  have HR := Lib.hid (Blk.new w 39 zz)
  have HG := Lib.hid ((Below.refl w.heap.size w).alloc (Nat.le_refl _) (.cells zz 39))
  have HWS := Lib.hid (show (w.alloc (.cells zz 39)).heap.size = w.heap.size + 1 by simp)
  clear hr
  go_enter Tryz.func11, Tryz.ntmps11
  go_upto_region 1 with fail
  rw [← ezz]
  clear ezz
  go_wp2_with (first
    | (go_at_call 43; refine Calls.mono c1 ?_; rintro e w1 ⟨cs, rfl, hv, hb⟩; clear c1; have HV := Lib.hid (hv.less (show w.heap.size + 1 ≤ _ by have := HWS.out; omega)); have HI := Lib.hid (show (Tryz.prog.info? 39).map (·.size) = some cs.size by rw [hv.size]; exact mg_info); have HO := Lib.hid (show cs.all (·.oneCell') = true from hv.one); have HCS := Lib.hid hv.size; clear hv; replace HR := Lib.hid (HR.out.below hb); replace HG := Lib.hid (HG.out.trans (hb.mono HG.out.size)); clear hb)
    | (refine wpList_store_mid (by rfl) 39 (.tmp 2) (.tmp 6) (by rfl) w.heap.size 0 cs (by rfl) (by rfl) (there_blk HR.out _ (by have := HZS.out; have := HCS.out; omega)) HI.out HO.out ?_)
    | fail)
  have hE := blk_cells (ds := cs) HR.out (by have := HZS.out; have := HCS.out; omega)
  have hp := put_cells w1 w.heap.size cs.toList
  have hq := load_blk (P := Tryz.prog) hE Tryz.underlying39 rfl HI.out
  refine bodyPost_ret (v := .tuple #[.agg cs, .int .i64 (mgI b)]) ?_ ?_ ?_
  · exact results_pair (v := .agg cs) 2 3 39 ⟨w.heap.size, 0, none⟩ Tryz.results11 rfl hq rfl
  · rfl
  exact ⟨_, rfl, (HV.out.keep hp (by omega)).less (by omega), below_g HG.out hp (by have := HR.out.lt; omega) (Nat.le_refl _)⟩
end Go.Proofs.YteeabfplnaknfaaGreat.Mc
end
