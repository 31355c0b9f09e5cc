import Derived.BigFrame
import Derived.Deep.LoopGhost
import Derived.Test.YteeabfplnaknfaaGreatZB1
import Derived.Test.YteeabfplnaknfaaGreatZB2
import Derived.Test.YteeabfplnaknfaaGreatZB3
import Derived.Test.YteeabfplnaknfaaGreatZB4
import Derived.Test.YteeabfplnaknfaaGreatZB5
import Derived.Test.YteeabfplnaknfaaGreatZB6
import Derived.Test.YteeabfplnaknfaaGreatZB7
import Derived.Test.YteeabfplnaknfaaGreatZB9
import Derived.Test.YteeabfplnaknfaaGreatZB10
import Derived.Test.YteeabfplnaknfaaGreatZB11
import Derived.Test.YteeabfplnaknfaaGreatZB12
import Derived.Test.YteeabfplnaknfaaGreatZB13
import Derived.Test.YteeabfplnaknfaaGreatZB14
import Derived.Test.YteeabfplnaknfaaGreatZB15
import Derived.Test.YteeabfplnaknfaaGreatZB16
import Derived.Test.YteeabfplnaknfaaGreatZB17
import Derived.Test.YteeabfplnaknfaaGreatZB18
section
set_option linter.unusedVariables false
set_option linter.unusedSimpArgs false
namespace Go.Proofs.YteeabfplnaknfaaGreat.Mc
open Go.RowKit Go.Proofs.YteeabfplnaknfaaGreat.Mem Go.Proofs.YteeabfplnaknfaaGreat.DerP Go.Proofs.YteeabfplnaknfaaGreat.DerC Go.Proofs.YteeabfplnaknfaaGreat.Ms

def AsV (cs : Array Value) (q : As) : Prop := cs = (asC q).toArray
def FaV (cs : Array Value) (q : Fa) : Prop := cs = (faC q).toArray
def TgV (w : World) (B : Nat) (cs : Array Value) (q : Tg) : Prop := ∃ b a, cs = (tgC q b a).toArray ∧ SlB w B b q.t.b ∧ SlB w B a q.a
def ReV (w : World) (B : Nat) (cs : Array Value) (q : Re) : Prop := ∃ b a, cs = (reC q b a).toArray ∧ SlB w B b q.t.b ∧ SlB w B a q.b
def ApV (w : World) (B : Nat) (cs : Array Value) (q : Ap) : Prop := ∃ b a, cs = (apC q b a).toArray ∧ SlB w B b q.t.b ∧ SlB w B a q.a
section
variable {w w' : World} {B B' : Nat} {cs : Array Value}
theorem TgV.keep {q : Tg} (h : TgV w B cs q) (hb : Below B w w') : TgV w' B cs q := by obtain ⟨b, a, h1, h2, h3⟩ := h; exact ⟨b, a, h1, h2.keep hb, h3.keep hb⟩
theorem ReV.keep {q : Re} (h : ReV w B cs q) (hb : Below B w w') : ReV w' B cs q := by obtain ⟨b, a, h1, h2, h3⟩ := h; exact ⟨b, a, h1, h2.keep hb, h3.keep hb⟩
theorem ApV.keep {q : Ap} (h : ApV w B cs q) (hb : Below B w w') : ApV w' B cs q := by obtain ⟨b, a, h1, h2, h3⟩ := h; exact ⟨b, a, h1, h2.keep hb, h3.keep hb⟩
theorem TgV.more {q : Tg} (h : TgV w B cs q) (hB : B ≤ B') : TgV w B' cs q := by obtain ⟨b, a, h1, h2, h3⟩ := h; exact ⟨b, a, h1, h2.more hB, h3.more hB⟩
theorem ReV.more {q : Re} (h : ReV w B cs q) (hB : B ≤ B') : ReV w B' cs q := by obtain ⟨b, a, h1, h2, h3⟩ := h; exact ⟨b, a, h1, h2.more hB, h3.more hB⟩
theorem ApV.more {q : Ap} (h : ApV w B cs q) (hB : B ≤ B') : ApV w B' cs q := by obtain ⟨b, a, h1, h2, h3⟩ := h; exact ⟨b, a, h1, h2.more hB, h3.more hB⟩
theorem slb_one {v : Value} {l : L} (h : SlB w B v l) : v.oneCell' = true := by obtain ⟨A, c, rfl, _⟩ := h; rfl
theorem AsV.size {q : As} (h : AsV cs q) : cs.size = 6 := by rw [h]; rfl
theorem FaV.size {q : Fa} (h : FaV cs q) : cs.size = 2 := by rw [h]; rfl
theorem TgV.size {q : Tg} (h : TgV w B cs q) : cs.size = 9 := by obtain ⟨b, a, h1, _⟩ := h; rw [h1]; rfl
theorem ReV.size {q : Re} (h : ReV w B cs q) : cs.size = 7 := by obtain ⟨b, a, h1, _⟩ := h; rw [h1]; rfl
theorem ApV.size {q : Ap} (h : ApV w B cs q) : cs.size = 5 := by obtain ⟨b, a, h1, _⟩ := h; rw [h1]; rfl
def One (cs : Array Value) : Prop := cs.all (·.oneCell') = true
theorem AsV.one {q : As} (h : AsV cs q) : One cs := by
  rw [h]; refine all_oneCell_toArray fun v hv => ?_
  simp only [asC, List.mem_cons, List.not_mem_nil, or_false] at hv
  rcases hv with rfl | rfl | rfl | rfl | rfl | rfl <;> rfl
theorem FaV.one {q : Fa} (h : FaV cs q) : One cs := by
  rw [h]; refine all_oneCell_toArray fun v hv => ?_
  simp only [faC, List.mem_cons, List.not_mem_nil, or_false] at hv
  rcases hv with rfl | rfl <;> rfl
theorem TgV.one {q : Tg} (h : TgV w B cs q) : One cs := by
  obtain ⟨b, a, h1, h2, h3⟩ := h
  rw [h1]; refine all_oneCell_toArray fun v hv => ?_
  simp only [tgC, tkC, List.mem_append, List.mem_cons, List.not_mem_nil, or_false] at hv
  rcases hv with (rfl | rfl | rfl | rfl) | rfl | rfl | rfl | rfl | rfl
  all_goals first | rfl | exact slb_one h2 | exact slb_one h3
theorem ReV.one {q : Re} (h : ReV w B cs q) : One cs := by
  obtain ⟨b, a, h1, h2, h3⟩ := h
  rw [h1]; refine all_oneCell_toArray fun v hv => ?_
  simp only [reC, prC, tkC, List.mem_append, List.mem_cons, List.not_mem_nil, or_false] at hv
  rcases hv with (rfl | rfl) | (rfl | rfl | rfl | rfl) | rfl
  all_goals first | rfl | exact slb_one h2 | exact slb_one h3
theorem ApV.one {q : Ap} (h : ApV w B cs q) : One cs := by
  obtain ⟨b, a, h1, h2, h3⟩ := h
  rw [h1]; refine all_oneCell_toArray fun v hv => ?_
  simp only [apC, tkC, List.mem_append, List.mem_cons, List.not_mem_nil, or_false] at hv
  rcases hv with (rfl | rfl | rfl | rfl) | rfl
  all_goals first | rfl | exact slb_one h2 | exact slb_one h3
end

def mgA (k : Int) (pa pt pr pp pf : Array Value) : Array Value := (Value.int .i64 k :: (pa.toList ++ (pt.toList ++ (pr.toList ++ (pp.toList ++ pf.toList))))).toArray
structure MgP (w : World) (B : Nat) (pa pt pr pp pf : Array Value) (m : Mg) : Prop where
  a : AsV pa m.aq
  t : TgV w B pt m.tg
  r : ReV w B pr m.re
  p : ApV w B pp m.ap
  f : FaV pf m.fa
def MgV (w : World) (B : Nat) (cs : Array Value) (m : Mg) : Prop := ∃ pa pt pr pp pf, cs = mgA m.k pa pt pr pp pf ∧ MgP w B pa pt pr pp pf m
section
variable {w w' : World} {B B' : Nat} {cs pa pt pr pp pf : Array Value} {m : Mg}
theorem MgP.keep (h : MgP w B pa pt pr pp pf m) (hb : Below B w w') : MgP w' B pa pt pr pp pf m := ⟨h.a, h.t.keep hb, h.r.keep hb, h.p.keep hb, h.f⟩
theorem MgP.more (h : MgP w B pa pt pr pp pf m) (hB : B ≤ B') : MgP w B' pa pt pr pp pf m := ⟨h.a, h.t.more hB, h.r.more hB, h.p.more hB, h.f⟩
theorem MgV.keep (h : MgV w B cs m) (hb : Below B w w') : MgV w' B cs m := by obtain ⟨pa, pt, pr, pp, pf, h1, h2⟩ := h; exact ⟨pa, pt, pr, pp, pf, h1, h2.keep hb⟩
theorem MgV.more (h : MgV w B cs m) (hB : B ≤ B') : MgV w B' cs m := by obtain ⟨pa, pt, pr, pp, pf, h1, h2⟩ := h; exact ⟨pa, pt, pr, pp, pf, h1, h2.more hB⟩
theorem MgP.sizes (h : MgP w B pa pt pr pp pf m) : pa.size = 6 ∧ pt.size = 9 ∧ pr.size = 7 ∧ pp.size = 5 ∧ pf.size = 2 := ⟨h.a.size, h.t.size, h.r.size, h.p.size, h.f.size⟩
theorem MgP.size (h : MgP w B pa pt pr pp pf m) (k : Int) : (mgA k pa pt pr pp pf).size = 30 := by
  obtain ⟨h1, h2, h3, h4, h5⟩ := h.sizes
  simp [mgA, h1, h2, h3, h4, h5]
theorem MgP.one (h : MgP w B pa pt pr pp pf m) (k : Int) : One (mgA k pa pt pr pp pf) := by
  refine all_oneCell_toArray fun v hv => ?_
  simp only [List.mem_cons, List.mem_append] at hv
  have key : ∀ {cs : Array Value}, One cs → v ∈ cs.toList → v.oneCell' = true := fun h1 h2 => Array.all_eq_true_iff_forall_mem.1 h1 v (by simpa using h2)
  rcases hv with rfl | hv | hv | hv | hv | hv
  · rfl
  · exact key h.a.one hv
  · exact key h.t.one hv
  · exact key h.r.one hv
  · exact key h.p.one hv
  · exact key h.f.one hv
theorem range_at {g : Nat} {t : TypeId} {pre mid post : List Value} (h : Blk w g t cs) (hc : cs.toList = pre ++ (mid ++ post)) (o : Nat) (ho : o = pre.length) : w.rangeAt g o mid := fun j v hv => by
  subst ho
  have hj : j < mid.length := (List.getElem?_eq_some_iff.1 hv).1
  rw [h.cell, ← Array.getElem?_toList, hc, List.getElem?_append_right (by omega), Nat.add_sub_cancel_left, List.getElem?_append_left hj]
  exact hv
structure At (w : World) (g : Nat) (k : Int) (pa pt pr pp pf : Array Value) : Prop where
  k : w.cell? ⟨g, 0, none⟩ = some (.int .i64 k)
  a : w.rangeAt g 1 pa.toList
  t : w.rangeAt g 7 pt.toList
  r : w.rangeAt g 16 pr.toList
  p : w.rangeAt g 23 pp.toList
  f : w.rangeAt g 28 pf.toList
theorem MgP.at_ (h : MgP w' B pa pt pr pp pf m) {g : Nat} {k : Int} {t : TypeId} (hb : Blk w g t (mgA k pa pt pr pp pf)) : At w g k pa pt pr pp pf := by
  obtain ⟨h1, h2, h3, h4, h5⟩ := h.sizes
  refine ⟨by rw [hb.cell]; rfl, ?_, ?_, ?_, ?_, ?_⟩
  · exact range_at (pre := [.int .i64 k]) (post := pt.toList ++ (pr.toList ++ (pp.toList ++ pf.toList))) hb (by simp [mgA]) 1 rfl
  · exact range_at (pre := .int .i64 k :: pa.toList) (post := pr.toList ++ (pp.toList ++ pf.toList)) hb (by simp [mgA]) 7 (by simp [h1])
  · exact range_at (pre := .int .i64 k :: (pa.toList ++ pt.toList)) (post := pp.toList ++ pf.toList) hb (by simp [mgA]) 16 (by simp [h1, h2])
  · exact range_at (pre := .int .i64 k :: (pa.toList ++ (pt.toList ++ pr.toList))) (post := pf.toList) hb (by simp [mgA]) 23 (by simp [h1, h2, h3])
  · exact range_at (pre := .int .i64 k :: (pa.toList ++ (pt.toList ++ (pr.toList ++ pp.toList)))) (post := []) hb (by simp [mgA]) 28 (by simp [h1, h2, h3, h4])
end
theorem as_info : (Tryz.prog.info? 25).map (·.size) = some 6 := by kernel_rfl
theorem tg_info : (Tryz.prog.info? 30).map (·.size) = some 9 := by kernel_rfl
theorem re_info : (Tryz.prog.info? 32).map (·.size) = some 7 := by kernel_rfl
theorem ap_info : (Tryz.prog.info? 34).map (·.size) = some 5 := by kernel_rfl
theorem fa_info : (Tryz.prog.info? 37).map (·.size) = some 2 := by kernel_rfl
theorem mg_info : (Tryz.prog.info? 39).map (·.size) = some 30 := by kernel_rfl
theorem load_g {P : Program} {ops : Array Oper} {rest : List Oper} {op : Oper} {a : Act} {w : World} {Q : Exit → Act → World → Prop} (hw : Region.wanted op (yielded ops a.tmps) = true) (ty : TypeId) (x : Operand) (ho : op.op = .load ty x)
    (g o : Nat) (hx : a.eval x = .pointer (some ⟨g, o, none⟩)) (cs : Array Value) (d : TypeDesc) (hc : w.rangeAt g o cs.toList)
    (hu : P.underlying ty = some d) (hd : d.isRow = true) (hi : (P.info? ty).map (·.size) = some cs.size)
    (h : wpList P ops Q rest (a.put op.dst (.agg cs)) w) : wpList P ops Q (op :: rest) a w :=
  BigFrame.wpList_want hw fun _ hK => wp_load_mid ty x ho g o hx cs.toList d hc hu hd (by rw [Array.length_toList]; exact hi) (by simpa using hK _ _ h)
theorem blk_mid {w : World} {g o : Nat} {t : TypeId} {cs ps ds : Array Value} {pre mid post : List Value} (h : Blk w g t cs) (hc : cs.toList = pre ++ (mid ++ post)) (ho : o = pre.length) (hm : mid.length = ps.size) (hd : ds = (pre ++ (ps.toList ++ post)).toArray) : Blk (w.setCells g o ps.toList) g t ds := by
  subst ho
  have hs : cs.size = pre.length + (mid.length + post.length) := by rw [← Array.length_toList, hc]; simp
  obtain ⟨es, h1, h2, h3, h4⟩ := blk_cells_aux ps.toList pre.length w cs h (by simp; omega)
  have e : es = ds := by
    apply Array.ext_getElem?
    intro i
    rw [hd, show (pre ++ (ps.toList ++ post)).toArray[i]? = (pre ++ (ps.toList ++ post))[i]? by simp]
    have hci : ∀ i, cs[i]? = (pre ++ (mid ++ post))[i]? := fun i => by rw [← hc, Array.getElem?_toList]
    by_cases hi : i < pre.length
    · rw [h4 i (.inl hi), hci, List.getElem?_append_left hi, List.getElem?_append_left hi]
    · by_cases hj : i < pre.length + ps.size
      · rw [h3 i (by omega) (by simpa using hj), List.getElem?_append_right (by omega), List.getElem?_append_left (by simp; omega)]
      · rw [h4 i (.inr (by simp; omega)), hci, List.getElem?_append_right (by omega), List.getElem?_append_right (by omega), List.getElem?_append_right (by omega), List.getElem?_append_right (by simp; omega), hm]
        simp
  rw [← e]; exact h1
theorem there_mid {w : World} {g : Nat} {t : TypeId} {cs : Array Value} (h : Blk w g t cs) (o n : Nat) (hn : o + n ≤ cs.size) : w.there g o n := fun j hj => by
  rw [h.cell, Array.getElem?_eq_getElem (by omega)]
  exact ⟨rfl, h.frozen _⟩
theorem put_mid (w : World) (g o : Nat) (vs : List Value) : w.grownBy (w.setCells g o vs) (some g) := g_cells (.inl rfl) vs o w (World.grownBy.refl _ _)
end Go.Proofs.YteeabfplnaknfaaGreat.Mc
end

section
set_option linter.unusedVariables false
set_option linter.unusedSimpArgs false
namespace Go.Proofs.YteeabfplnaknfaaGreat.Mc
open Go.RowKit Go.Proofs.YteeabfplnaknfaaGreat.Mem Go.Proofs.YteeabfplnaknfaaGreat.DerP Go.Proofs.YteeabfplnaknfaaGreat.DerC Go.Proofs.YteeabfplnaknfaaGreat.Ms

def zA : Array Value := (asC as0).toArray
def zT : Array Value := (tgC tg0 (.slice none 0 0) (.slice none 0 0)).toArray
def zR : Array Value := (reC re0 (.slice none 0 0) (.slice none 0 0)).toArray
def zP : Array Value := (apC ap0 (.slice none 0 0) (.slice none 0 0)).toArray
def zF : Array Value := (faC fa0).toArray
theorem zA_v : AsV zA as0 := rfl
theorem zF_v : FaV zF fa0 := rfl
theorem zT_v (w : World) (B : Nat) : TgV w B zT tg0 := ⟨_, _, rfl, SlB.nil w B, SlB.nil w B⟩
theorem zR_v (w : World) (B : Nat) : ReV w B zR re0 := ⟨_, _, rfl, SlB.nil w B, SlB.nil w B⟩
theorem zP_v (w : World) (B : Nat) : ApV w B zP ap0 := ⟨_, _, rfl, SlB.nil w B, SlB.nil w B⟩
theorem zM_v (w : World) (B : Nat) (k : Int) : MgP w B zA zT zR zP zF ⟨k, as0, tg0, re0, ap0, fa0⟩ := ⟨zA_v, zT_v w B, zR_v w B, zP_v w B, zF_v⟩
def nm (m : Mg) : Mg := if m.k = 1 then ⟨1, m.aq, tg0, re0, ap0, fa0⟩ else if m.k = 2 then ⟨2, as0, m.tg, re0, ap0, fa0⟩ else if m.k = 3 then ⟨3, as0, tg0, m.re, ap0, fa0⟩ else if m.k = 4 then ⟨4, as0, tg0, re0, m.ap, fa0⟩ else if m.k = 5 then ⟨5, as0, tg0, re0, ap0, m.fa⟩ else ⟨m.k, as0, tg0, re0, ap0, fa0⟩
theorem built_mg (k : Int) : Tryz.prog.built 39 [(0, .int .i64 k)] = some (mgA k zA zT zR zP zF) := by kernel_rfl
set_option maxHeartbeats 12800000 in
set_option maxRecDepth 10000 in
theorem named_any (cs : Array Value) (m : Mg) (w : World) (h : MgV w w.heap.size cs m) : Calls Tryz.prog 53 #[.agg cs] w fun e w' => ∃ ds, e = .returned (.agg ds) ∧ MgV w' w'.heap.size ds (nm m) ∧ Below w.heap.size w w' := by
  obtain ⟨pa, pt, pr, pp, pf, hc, hp⟩ := h
  obtain ⟨zz, ezz⟩ : ∃ z : Array Value, z = #[.int .i64 0, .string ⟨#[]⟩, .string ⟨#[]⟩, .string ⟨#[]⟩, .string ⟨#[]⟩, .int .i64 0, .int .i64 0, .string ⟨#[]⟩, .string ⟨#[]⟩, .int .i64 0, .slice none 0 0, .slice none 0 0, .string ⟨#[]⟩, .string ⟨#[]⟩, .int .i64 0, .int .i64 0, .string ⟨#[]⟩, .string ⟨#[]⟩, .string ⟨#[]⟩, .string ⟨#[]⟩, .int .i64 0, .slice none 0 0, .slice none 0 0, .string ⟨#[]⟩, .string ⟨#[]⟩, .int .i64 0, .slice none 0 0, .slice none 0 0, .int .i64 0, .int .i64 0] := ⟨_, rfl⟩
  have ez0 : zz = mgA 0 zA zT zR zP zF := by rw [ezz]; rfl
  have hzs : zz.size = 30 := by rw [ez0]; exact (zM_v w 0 0).size 0
  have HZS := Lib.hid hzs
  obtain ⟨W, eW⟩ : ∃ W, W = (w.alloc (.cells cs 39)).alloc (.cells zz 39) := ⟨_, rfl⟩
  have hWs : W.heap.size = w.heap.size + 1 + 1 := by rw [eW]; simp
  have HK := Lib.hid (show Blk W w.heap.size 39 (mgA m.k pa pt pr pp pf) by rw [eW, ← hc]; exact (Blk.new _ _ _).alloc _)
  have hq := Blk.new (w.alloc (.cells cs 39)) 39 zz
  rw [show (w.alloc (.cells cs 39)).heap.size = w.heap.size + 1 by simp, ← eW] at hq
  have HR := Lib.hid hq
  clear hq
  have HG := Lib.hid (show Below w.heap.size w W by rw [eW]; exact ((Below.refl _ _).alloc (Nat.le_refl _) _).alloc (by simp) _)
  have HA := Lib.hid (hp.at_ HK.out)
  have k0 := HA.out.k
  have HP := Lib.hid hp
  have HWS := Lib.hid hWs
  have HBT := Lib.hid (built_mg m.k)
  obtain ⟨c0, ec0⟩ : ∃ c, c = mgA m.k zA zT zR zP zF := ⟨_, rfl⟩
  have hc0 : c0.size = 30 := by rw [ec0]; exact (zM_v w 0 m.k).size m.k
  have HO := Lib.hid (show c0.all (·.oneCell') = true by rw [ec0]; exact (zM_v w 0 m.k).one m.k)
  have HI := Lib.hid (show (Tryz.prog.info? 39).map (·.size) = some c0.size by rw [hc0]; exact mg_info)
  have HCS := Lib.hid hc0
  rw [← ec0] at HBT
  have EC := Lib.hid ec0
  clear hc hp hWs hzs hc0 ec0 ez0
  by_cases m1 : m.k = 1
  · have y1 : (m.k == 1) = true := by simpa using m1
    have y2 : (m.k == 2) = false := by simp; omega
    have y3 : (m.k == 3) = false := by simp; omega
    have y4 : (m.k == 4) = false := by simp; omega
    have y5 : (m.k == 5) = false := by simp; omega
    have EN := Lib.hid (show nm m = ⟨m.k, m.aq, tg0, re0, ap0, fa0⟩ by rw [nm, if_pos m1, m1])
    clear m1
    have HM := Lib.hid (show MgP w w.heap.size pa zT zR zP zF ⟨m.k, m.aq, tg0, re0, ap0, fa0⟩ from ⟨HP.out.a, zT_v w w.heap.size, zR_v w w.heap.size, zP_v w w.heap.size, zF_v⟩)
    have HDI := Lib.hid (show (Tryz.prog.info? 39).map (·.size) = some (mgA m.k pa zT zR zP zF).size by rw [HM.out.size]; exact mg_info)
    go_enter Tryz.func53, Tryz.ntmps53
    go_upto_region 1 with fail
    rw [← ezz, ← eW]
    clear ezz eW
    go_wp2_with (first
      | (refine wpList_built (by rfl) 39 #[(0, .tmp 5)] (by rfl) c0 (by simp only [List.map_toArray, List.map_cons, List.map_nil]; exact HBT.out) ?_)
      | (refine wpList_store_mid (by rfl) 39 (.tmp 3) (.tmp 6) (by rfl) W.heap.size 0 c0 (by rfl) (by rfl) (there_blk (Blk.new W 39 #[.int .i64 0, .string ⟨#[]⟩, .string ⟨#[]⟩, .string ⟨#[]⟩, .string ⟨#[]⟩, .int .i64 0, .int .i64 0, .string ⟨#[]⟩, .string ⟨#[]⟩, .int .i64 0, .slice none 0 0, .slice none 0 0, .string ⟨#[]⟩, .string ⟨#[]⟩, .int .i64 0, .int .i64 0, .string ⟨#[]⟩, .string ⟨#[]⟩, .string ⟨#[]⟩, .string ⟨#[]⟩, .int .i64 0, .slice none 0 0, .slice none 0 0, .string ⟨#[]⟩, .string ⟨#[]⟩, .int .i64 0, .slice none 0 0, .slice none 0 0, .int .i64 0, .int .i64 0]) _ (by have := HCS.out; simp; omega)) HI.out HO.out ?_; have hV := stored_new W 39 #[.int .i64 0, .string ⟨#[]⟩, .string ⟨#[]⟩, .string ⟨#[]⟩, .string ⟨#[]⟩, .int .i64 0, .int .i64 0, .string ⟨#[]⟩, .string ⟨#[]⟩, .int .i64 0, .slice none 0 0, .slice none 0 0, .string ⟨#[]⟩, .string ⟨#[]⟩, .int .i64 0, .int .i64 0, .string ⟨#[]⟩, .string ⟨#[]⟩, .string ⟨#[]⟩, .string ⟨#[]⟩, .int .i64 0, .slice none 0 0, .slice none 0 0, .string ⟨#[]⟩, .string ⟨#[]⟩, .int .i64 0, .slice none 0 0, .slice none 0 0, .int .i64 0, .int .i64 0] c0 (by have := HCS.out; simp; omega); generalize ((W.alloc (.cells #[.int .i64 0, .string ⟨#[]⟩, .string ⟨#[]⟩, .string ⟨#[]⟩, .string ⟨#[]⟩, .int .i64 0, .int .i64 0, .string ⟨#[]⟩, .string ⟨#[]⟩, .int .i64 0, .slice none 0 0, .slice none 0 0, .string ⟨#[]⟩, .string ⟨#[]⟩, .int .i64 0, .int .i64 0, .string ⟨#[]⟩, .string ⟨#[]⟩, .string ⟨#[]⟩, .string ⟨#[]⟩, .int .i64 0, .slice none 0 0, .slice none 0 0, .string ⟨#[]⟩, .string ⟨#[]⟩, .int .i64 0, .slice none 0 0, .slice none 0 0, .int .i64 0, .int .i64 0] 39)).setCells W.heap.size 0 c0.toList) = V at hV ⊢; have HX := Lib.hid (show Blk V W.heap.size 39 (mgA m.k zA zT zR zP zF) from EC.out ▸ hV.1); replace HK := Lib.hid (HK.out.below hV.2); replace HR := Lib.hid (HR.out.below hV.2); replace HG := Lib.hid (HG.out.trans (hV.2.mono HG.out.size)); clear hV HA k0; have HA := Lib.hid (HP.out.at_ HK.out); have k0 := HA.out.k)
      | (refine load_cells (by rfl) 25 (.tmp 11) (by rfl) w.heap.size 1 (by rfl) pa _ HA.out.a Tryz.underlying25 (by rfl) (by rw [HP.out.a.size]; exact as_info) ?_)
      | (refine wpList_store_mid (by rfl) 25 (.tmp 13) (.tmp 12) (by rfl) W.heap.size 1 pa (by rfl) (by rfl) (there_mid HX.out 1 _ (by rw [(zM_v W 0 m.k).size m.k, HP.out.a.size]; omega)) (by rw [HP.out.a.size]; exact as_info) HP.out.a.one ?_; have hX := blk_mid (ps := pa) (ds := mgA m.k pa zT zR zP zF) (pre := [.int .i64 m.k]) (mid := zA.toList) (post := zT.toList ++ zR.toList ++ zP.toList ++ zF.toList) (o := 1) HX.out (by simp [mgA]) (by rfl) (by rw [HP.out.a.size]; rfl) (by simp [mgA]); have hpm := put_mid V W.heap.size 1 pa.toList; generalize V.setCells W.heap.size 1 pa.toList = V2 at hX hpm ⊢; replace HX := Lib.hid hX; replace HR := Lib.hid (HR.out.grown hpm (by intro e; injection e with e; have := HWS.out; omega)); replace HG := Lib.hid (below_g HG.out hpm HG.out.size (by have := HWS.out; omega)); clear hX hpm HA HK k0)
      | (refine load_cells (by rfl) 39 (.tmp 3) (by rfl) W.heap.size 0 (by rfl) (mgA m.k pa zT zR zP zF) _ (range_blk HX.out) Tryz.underlying39 (by rfl) HDI.out ?_)
      | (refine wpList_store_mid (by rfl) 39 (.tmp 2) (.tmp 34) (by rfl) (w.heap.size + 1) 0 (mgA m.k pa zT zR zP zF) (by rfl) (by rfl) (there_blk HR.out _ (by rw [HM.out.size]; have := HZS.out; omega)) HDI.out (HM.out.one _) ?_)
      | fail)
    have hE := blk_cells (ds := mgA m.k pa zT zR zP zF) HR.out (by rw [HM.out.size]; have := HZS.out; omega)
    have hp := put_cells V2 (w.heap.size + 1) (mgA m.k pa zT zR zP zF).toList
    have hq := load_blk (P := Tryz.prog) hE Tryz.underlying39 rfl HDI.out
    refine bodyPost_ret (v := .agg (mgA m.k pa zT zR zP zF)) ?_ ?_ ?_
    · exact results_cell 2 39 ⟨w.heap.size + 1, 0, none⟩ Tryz.results53 rfl hq
    · rfl
    have hB := below_g HG.out hp HG.out.size (by omega)
    refine ⟨_, rfl, ?_, hB⟩
    rw [EN.out]
    exact ⟨pa, zT, zR, zP, zF, rfl, (HM.out.keep hB).more hB.size⟩
  · have nm1 := m1
    by_cases m2 : m.k = 2
    · have y1 : (m.k == 1) = false := by simp; omega
      have y2 : (m.k == 2) = true := by simpa using m2
      have y3 : (m.k == 3) = false := by simp; omega
      have y4 : (m.k == 4) = false := by simp; omega
      have y5 : (m.k == 5) = false := by simp; omega
      have EN := Lib.hid (show nm m = ⟨m.k, as0, m.tg, re0, ap0, fa0⟩ by rw [nm, if_neg m1, if_pos m2, m2])
      clear m1 m2
      have HM := Lib.hid (show MgP w w.heap.size zA pt zR zP zF ⟨m.k, as0, m.tg, re0, ap0, fa0⟩ from ⟨zA_v, HP.out.t, zR_v w w.heap.size, zP_v w w.heap.size, zF_v⟩)
      have HDI := Lib.hid (show (Tryz.prog.info? 39).map (·.size) = some (mgA m.k zA pt zR zP zF).size by rw [HM.out.size]; exact mg_info)
      go_enter Tryz.func53, Tryz.ntmps53
      go_upto_region 1 with fail
      rw [← ezz, ← eW]
      clear ezz eW
      go_wp2_with (first
        | (refine wpList_built (by rfl) 39 #[(0, .tmp 5)] (by rfl) c0 (by simp only [List.map_toArray, List.map_cons, List.map_nil]; exact HBT.out) ?_)
        | (refine wpList_store_mid (by rfl) 39 (.tmp 3) (.tmp 6) (by rfl) W.heap.size 0 c0 (by rfl) (by rfl) (there_blk (Blk.new W 39 #[.int .i64 0, .string ⟨#[]⟩, .string ⟨#[]⟩, .string ⟨#[]⟩, .string ⟨#[]⟩, .int .i64 0, .int .i64 0, .string ⟨#[]⟩, .string ⟨#[]⟩, .int .i64 0, .slice none 0 0, .slice none 0 0, .string ⟨#[]⟩, .string ⟨#[]⟩, .int .i64 0, .int .i64 0, .string ⟨#[]⟩, .string ⟨#[]⟩, .string ⟨#[]⟩, .string ⟨#[]⟩, .int .i64 0, .slice none 0 0, .slice none 0 0, .string ⟨#[]⟩, .string ⟨#[]⟩, .int .i64 0, .slice none 0 0, .slice none 0 0, .int .i64 0, .int .i64 0]) _ (by have := HCS.out; simp; omega)) HI.out HO.out ?_; have hV := stored_new W 39 #[.int .i64 0, .string ⟨#[]⟩, .string ⟨#[]⟩, .string ⟨#[]⟩, .string ⟨#[]⟩, .int .i64 0, .int .i64 0, .string ⟨#[]⟩, .string ⟨#[]⟩, .int .i64 0, .slice none 0 0, .slice none 0 0, .string ⟨#[]⟩, .string ⟨#[]⟩, .int .i64 0, .int .i64 0, .string ⟨#[]⟩, .string ⟨#[]⟩, .string ⟨#[]⟩, .string ⟨#[]⟩, .int .i64 0, .slice none 0 0, .slice none 0 0, .string ⟨#[]⟩, .string ⟨#[]⟩, .int .i64 0, .slice none 0 0, .slice none 0 0, .int .i64 0, .int .i64 0] c0 (by have := HCS.out; simp; omega); generalize ((W.alloc (.cells #[.int .i64 0, .string ⟨#[]⟩, .string ⟨#[]⟩, .string ⟨#[]⟩, .string ⟨#[]⟩, .int .i64 0, .int .i64 0, .string ⟨#[]⟩, .string ⟨#[]⟩, .int .i64 0, .slice none 0 0, .slice none 0 0, .string ⟨#[]⟩, .string ⟨#[]⟩, .int .i64 0, .int .i64 0, .string ⟨#[]⟩, .string ⟨#[]⟩, .string ⟨#[]⟩, .string ⟨#[]⟩, .int .i64 0, .slice none 0 0, .slice none 0 0, .string ⟨#[]⟩, .string ⟨#[]⟩, .int .i64 0, .slice none 0 0, .slice none 0 0, .int .i64 0, .int .i64 0] 39)).setCells W.heap.size 0 c0.toList) = V at hV ⊢; have HX := Lib.hid (show Blk V W.heap.size 39 (mgA m.k zA zT zR zP zF) from EC.out ▸ hV.1); replace HK := Lib.hid (HK.out.below hV.2); replace HR := Lib.hid (HR.out.below hV.2); replace HG := Lib.hid (HG.out.trans (hV.2.mono HG.out.size)); clear hV HA k0; have HA := Lib.hid (HP.out.at_ HK.out); have k0 := HA.out.k)
        | (refine load_cells (by rfl) 30 (.tmp 16) (by rfl) w.heap.size 7 (by rfl) pt _ HA.out.t Tryz.underlying30 (by rfl) (by rw [HP.out.t.size]; exact tg_info) ?_)
        | (refine wpList_store_mid (by rfl) 30 (.tmp 18) (.tmp 17) (by rfl) W.heap.size 7 pt (by rfl) (by rfl) (there_mid HX.out 7 _ (by rw [(zM_v W 0 m.k).size m.k, HP.out.t.size]; omega)) (by rw [HP.out.t.size]; exact tg_info) HP.out.t.one ?_; have hX := blk_mid (ps := pt) (ds := mgA m.k zA pt zR zP zF) (pre := [.int .i64 m.k] ++ zA.toList) (mid := zT.toList) (post := zR.toList ++ zP.toList ++ zF.toList) (o := 7) HX.out (by simp [mgA]) (by rfl) (by rw [HP.out.t.size]; rfl) (by simp [mgA]); have hpm := put_mid V W.heap.size 7 pt.toList; generalize V.setCells W.heap.size 7 pt.toList = V2 at hX hpm ⊢; replace HX := Lib.hid hX; replace HR := Lib.hid (HR.out.grown hpm (by intro e; injection e with e; have := HWS.out; omega)); replace HG := Lib.hid (below_g HG.out hpm HG.out.size (by have := HWS.out; omega)); clear hX hpm HA HK k0)
        | (refine load_cells (by rfl) 39 (.tmp 3) (by rfl) W.heap.size 0 (by rfl) (mgA m.k zA pt zR zP zF) _ (range_blk HX.out) Tryz.underlying39 (by rfl) HDI.out ?_)
        | (refine wpList_store_mid (by rfl) 39 (.tmp 2) (.tmp 34) (by rfl) (w.heap.size + 1) 0 (mgA m.k zA pt zR zP zF) (by rfl) (by rfl) (there_blk HR.out _ (by rw [HM.out.size]; have := HZS.out; omega)) HDI.out (HM.out.one _) ?_)
        | fail)
      have hE := blk_cells (ds := mgA m.k zA pt zR zP zF) HR.out (by rw [HM.out.size]; have := HZS.out; omega)
      have hp := put_cells V2 (w.heap.size + 1) (mgA m.k zA pt zR zP zF).toList
      have hq := load_blk (P := Tryz.prog) hE Tryz.underlying39 rfl HDI.out
      refine bodyPost_ret (v := .agg (mgA m.k zA pt zR zP zF)) ?_ ?_ ?_
      · exact results_cell 2 39 ⟨w.heap.size + 1, 0, none⟩ Tryz.results53 rfl hq
      · rfl
      have hB := below_g HG.out hp HG.out.size (by omega)
      refine ⟨_, rfl, ?_, hB⟩
      rw [EN.out]
      exact ⟨zA, pt, zR, zP, zF, rfl, (HM.out.keep hB).more hB.size⟩
    · have nm2 := m2
      by_cases m3 : m.k = 3
      · have y1 : (m.k == 1) = false := by simp; omega
        have y2 : (m.k == 2) = false := by simp; omega
        have y3 : (m.k == 3) = true := by simpa using m3
        have y4 : (m.k == 4) = false := by simp; omega
        have y5 : (m.k == 5) = false := by simp; omega
        have EN := Lib.hid (show nm m = ⟨m.k, as0, tg0, m.re, ap0, fa0⟩ by rw [nm, if_neg m1, if_neg m2, if_pos m3, m3])
        clear m1 m2 m3
        have HM := Lib.hid (show MgP w w.heap.size zA zT pr zP zF ⟨m.k, as0, tg0, m.re, ap0, fa0⟩ from ⟨zA_v, zT_v w w.heap.size, HP.out.r, zP_v w w.heap.size, zF_v⟩)
        have HDI := Lib.hid (show (Tryz.prog.info? 39).map (·.size) = some (mgA m.k zA zT pr zP zF).size by rw [HM.out.size]; exact mg_info)
        go_enter Tryz.func53, Tryz.ntmps53
        go_upto_region 1 with fail
        rw [← ezz, ← eW]
        clear ezz eW
        go_wp2_with (first
          | (refine wpList_built (by rfl) 39 #[(0, .tmp 5)] (by rfl) c0 (by simp only [List.map_toArray, List.map_cons, List.map_nil]; exact HBT.out) ?_)
          | (refine wpList_store_mid (by rfl) 39 (.tmp 3) (.tmp 6) (by rfl) W.heap.size 0 c0 (by rfl) (by rfl) (there_blk (Blk.new W 39 #[.int .i64 0, .string ⟨#[]⟩, .string ⟨#[]⟩, .string ⟨#[]⟩, .string ⟨#[]⟩, .int .i64 0, .int .i64 0, .string ⟨#[]⟩, .string ⟨#[]⟩, .int .i64 0, .slice none 0 0, .slice none 0 0, .string ⟨#[]⟩, .string ⟨#[]⟩, .int .i64 0, .int .i64 0, .string ⟨#[]⟩, .string ⟨#[]⟩, .string ⟨#[]⟩, .string ⟨#[]⟩, .int .i64 0, .slice none 0 0, .slice none 0 0, .string ⟨#[]⟩, .string ⟨#[]⟩, .int .i64 0, .slice none 0 0, .slice none 0 0, .int .i64 0, .int .i64 0]) _ (by have := HCS.out; simp; omega)) HI.out HO.out ?_; have hV := stored_new W 39 #[.int .i64 0, .string ⟨#[]⟩, .string ⟨#[]⟩, .string ⟨#[]⟩, .string ⟨#[]⟩, .int .i64 0, .int .i64 0, .string ⟨#[]⟩, .string ⟨#[]⟩, .int .i64 0, .slice none 0 0, .slice none 0 0, .string ⟨#[]⟩, .string ⟨#[]⟩, .int .i64 0, .int .i64 0, .string ⟨#[]⟩, .string ⟨#[]⟩, .string ⟨#[]⟩, .string ⟨#[]⟩, .int .i64 0, .slice none 0 0, .slice none 0 0, .string ⟨#[]⟩, .string ⟨#[]⟩, .int .i64 0, .slice none 0 0, .slice none 0 0, .int .i64 0, .int .i64 0] c0 (by have := HCS.out; simp; omega); generalize ((W.alloc (.cells #[.int .i64 0, .string ⟨#[]⟩, .string ⟨#[]⟩, .string ⟨#[]⟩, .string ⟨#[]⟩, .int .i64 0, .int .i64 0, .string ⟨#[]⟩, .string ⟨#[]⟩, .int .i64 0, .slice none 0 0, .slice none 0 0, .string ⟨#[]⟩, .string ⟨#[]⟩, .int .i64 0, .int .i64 0, .string ⟨#[]⟩, .string ⟨#[]⟩, .string ⟨#[]⟩, .string ⟨#[]⟩, .int .i64 0, .slice none 0 0, .slice none 0 0, .string ⟨#[]⟩, .string ⟨#[]⟩, .int .i64 0, .slice none 0 0, .slice none 0 0, .int .i64 0, .int .i64 0] 39)).setCells W.heap.size 0 c0.toList) = V at hV ⊢; have HX := Lib.hid (show Blk V W.heap.size 39 (mgA m.k zA zT zR zP zF) from EC.out ▸ hV.1); replace HK := Lib.hid (HK.out.below hV.2); replace HR := Lib.hid (HR.out.below hV.2); replace HG := Lib.hid (HG.out.trans (hV.2.mono HG.out.size)); clear hV HA k0; have HA := Lib.hid (HP.out.at_ HK.out); have k0 := HA.out.k)
          | (refine load_cells (by rfl) 32 (.tmp 21) (by rfl) w.heap.size 16 (by rfl) pr _ HA.out.r Tryz.underlying32 (by rfl) (by rw [HP.out.r.size]; exact re_info) ?_)
          | (refine wpList_store_mid (by rfl) 32 (.tmp 23) (.tmp 22) (by rfl) W.heap.size 16 pr (by rfl) (by rfl) (there_mid HX.out 16 _ (by rw [(zM_v W 0 m.k).size m.k, HP.out.r.size]; omega)) (by rw [HP.out.r.size]; exact re_info) HP.out.r.one ?_; have hX := blk_mid (ps := pr) (ds := mgA m.k zA zT pr zP zF) (pre := [.int .i64 m.k] ++ zA.toList ++ zT.toList) (mid := zR.toList) (post := zP.toList ++ zF.toList) (o := 16) HX.out (by simp [mgA]) (by rfl) (by rw [HP.out.r.size]; rfl) (by simp [mgA]); have hpm := put_mid V W.heap.size 16 pr.toList; generalize V.setCells W.heap.size 16 pr.toList = V2 at hX hpm ⊢; replace HX := Lib.hid hX; replace HR := Lib.hid (HR.out.grown hpm (by intro e; injection e with e; have := HWS.out; omega)); replace HG := Lib.hid (below_g HG.out hpm HG.out.size (by have := HWS.out; omega)); clear hX hpm HA HK k0)
          | (refine load_cells (by rfl) 39 (.tmp 3) (by rfl) W.heap.size 0 (by rfl) (mgA m.k zA zT pr zP zF) _ (range_blk HX.out) Tryz.underlying39 (by rfl) HDI.out ?_)
          | (refine wpList_store_mid (by rfl) 39 (.tmp 2) (.tmp 34) (by rfl) (w.heap.size + 1) 0 (mgA m.k zA zT pr zP zF) (by rfl) (by rfl) (there_blk HR.out _ (by rw [HM.out.size]; have := HZS.out; omega)) HDI.out (HM.out.one _) ?_)
          | fail)
        have hE := blk_cells (ds := mgA m.k zA zT pr zP zF) HR.out (by rw [HM.out.size]; have := HZS.out; omega)
        have hp := put_cells V2 (w.heap.size + 1) (mgA m.k zA zT pr zP zF).toList
        have hq := load_blk (P := Tryz.prog) hE Tryz.underlying39 rfl HDI.out
        refine bodyPost_ret (v := .agg (mgA m.k zA zT pr zP zF)) ?_ ?_ ?_
        · exact results_cell 2 39 ⟨w.heap.size + 1, 0, none⟩ Tryz.results53 rfl hq
        · rfl
        have hB := below_g HG.out hp HG.out.size (by omega)
        refine ⟨_, rfl, ?_, hB⟩
        rw [EN.out]
        exact ⟨zA, zT, pr, zP, zF, rfl, (HM.out.keep hB).more hB.size⟩
      · have nm3 := m3
        by_cases m4 : m.k = 4
        · have y1 : (m.k == 1) = false := by simp; omega
          have y2 : (m.k == 2) = false := by simp; omega
          have y3 : (m.k == 3) = false := by simp; omega
          have y4 : (m.k == 4) = true := by simpa using m4
          have y5 : (m.k == 5) = false := by simp; omega
          have EN := Lib.hid (show nm m = ⟨m.k, as0, tg0, re0, m.ap, fa0⟩ by rw [nm, if_neg m1, if_neg m2, if_neg m3, if_pos m4, m4])
          clear m1 m2 m3 m4
          have HM := Lib.hid (show MgP w w.heap.size zA zT zR pp zF ⟨m.k, as0, tg0, re0, m.ap, fa0⟩ from ⟨zA_v, zT_v w w.heap.size, zR_v w w.heap.size, HP.out.p, zF_v⟩)
          have HDI := Lib.hid (show (Tryz.prog.info? 39).map (·.size) = some (mgA m.k zA zT zR pp zF).size by rw [HM.out.size]; exact mg_info)
          go_enter Tryz.func53, Tryz.ntmps53
          go_upto_region 1 with fail
          rw [← ezz, ← eW]
          clear ezz eW
          go_wp2_with (first
            | (refine wpList_built (by rfl) 39 #[(0, .tmp 5)] (by rfl) c0 (by simp only [List.map_toArray, List.map_cons, List.map_nil]; exact HBT.out) ?_)
            | (refine wpList_store_mid (by rfl) 39 (.tmp 3) (.tmp 6) (by rfl) W.heap.size 0 c0 (by rfl) (by rfl) (there_blk (Blk.new W 39 #[.int .i64 0, .string ⟨#[]⟩, .string ⟨#[]⟩, .string ⟨#[]⟩, .string ⟨#[]⟩, .int .i64 0, .int .i64 0, .string ⟨#[]⟩, .string ⟨#[]⟩, .int .i64 0, .slice none 0 0, .slice none 0 0, .string ⟨#[]⟩, .string ⟨#[]⟩, .int .i64 0, .int .i64 0, .string ⟨#[]⟩, .string ⟨#[]⟩, .string ⟨#[]⟩, .string ⟨#[]⟩, .int .i64 0, .slice none 0 0, .slice none 0 0, .string ⟨#[]⟩, .string ⟨#[]⟩, .int .i64 0, .slice none 0 0, .slice none 0 0, .int .i64 0, .int .i64 0]) _ (by have := HCS.out; simp; omega)) HI.out HO.out ?_; have hV := stored_new W 39 #[.int .i64 0, .string ⟨#[]⟩, .string ⟨#[]⟩, .string ⟨#[]⟩, .string ⟨#[]⟩, .int .i64 0, .int .i64 0, .string ⟨#[]⟩, .string ⟨#[]⟩, .int .i64 0, .slice none 0 0, .slice none 0 0, .string ⟨#[]⟩, .string ⟨#[]⟩, .int .i64 0, .int .i64 0, .string ⟨#[]⟩, .string ⟨#[]⟩, .string ⟨#[]⟩, .string ⟨#[]⟩, .int .i64 0, .slice none 0 0, .slice none 0 0, .string ⟨#[]⟩, .string ⟨#[]⟩, .int .i64 0, .slice none 0 0, .slice none 0 0, .int .i64 0, .int .i64 0] c0 (by have := HCS.out; simp; omega); generalize ((W.alloc (.cells #[.int .i64 0, .string ⟨#[]⟩, .string ⟨#[]⟩, .string ⟨#[]⟩, .string ⟨#[]⟩, .int .i64 0, .int .i64 0, .string ⟨#[]⟩, .string ⟨#[]⟩, .int .i64 0, .slice none 0 0, .slice none 0 0, .string ⟨#[]⟩, .string ⟨#[]⟩, .int .i64 0, .int .i64 0, .string ⟨#[]⟩, .string ⟨#[]⟩, .string ⟨#[]⟩, .string ⟨#[]⟩, .int .i64 0, .slice none 0 0, .slice none 0 0, .string ⟨#[]⟩, .string ⟨#[]⟩, .int .i64 0, .slice none 0 0, .slice none 0 0, .int .i64 0, .int .i64 0] 39)).setCells W.heap.size 0 c0.toList) = V at hV ⊢; have HX := Lib.hid (show Blk V W.heap.size 39 (mgA m.k zA zT zR zP zF) from EC.out ▸ hV.1); replace HK := Lib.hid (HK.out.below hV.2); replace HR := Lib.hid (HR.out.below hV.2); replace HG := Lib.hid (HG.out.trans (hV.2.mono HG.out.size)); clear hV HA k0; have HA := Lib.hid (HP.out.at_ HK.out); have k0 := HA.out.k)
            | (refine load_cells (by rfl) 34 (.tmp 26) (by rfl) w.heap.size 23 (by rfl) pp _ HA.out.p Tryz.underlying34 (by rfl) (by rw [HP.out.p.size]; exact ap_info) ?_)
            | (refine wpList_store_mid (by rfl) 34 (.tmp 28) (.tmp 27) (by rfl) W.heap.size 23 pp (by rfl) (by rfl) (there_mid HX.out 23 _ (by rw [(zM_v W 0 m.k).size m.k, HP.out.p.size]; omega)) (by rw [HP.out.p.size]; exact ap_info) HP.out.p.one ?_; have hX := blk_mid (ps := pp) (ds := mgA m.k zA zT zR pp zF) (pre := [.int .i64 m.k] ++ zA.toList ++ zT.toList ++ zR.toList) (mid := zP.toList) (post := zF.toList) (o := 23) HX.out (by simp [mgA]) (by rfl) (by rw [HP.out.p.size]; rfl) (by simp [mgA]); have hpm := put_mid V W.heap.size 23 pp.toList; generalize V.setCells W.heap.size 23 pp.toList = V2 at hX hpm ⊢; replace HX := Lib.hid hX; replace HR := Lib.hid (HR.out.grown hpm (by intro e; injection e with e; have := HWS.out; omega)); replace HG := Lib.hid (below_g HG.out hpm HG.out.size (by have := HWS.out; omega)); clear hX hpm HA HK k0)
            | (refine load_cells (by rfl) 39 (.tmp 3) (by rfl) W.heap.size 0 (by rfl) (mgA m.k zA zT zR pp zF) _ (range_blk HX.out) Tryz.underlying39 (by rfl) HDI.out ?_)
            | (refine wpList_store_mid (by rfl) 39 (.tmp 2) (.tmp 34) (by rfl) (w.heap.size + 1) 0 (mgA m.k zA zT zR pp zF) (by rfl) (by rfl) (there_blk HR.out _ (by rw [HM.out.size]; have := HZS.out; omega)) HDI.out (HM.out.one _) ?_)
            | fail)
          have hE := blk_cells (ds := mgA m.k zA zT zR pp zF) HR.out (by rw [HM.out.size]; have := HZS.out; omega)
          have hp := put_cells V2 (w.heap.size + 1) (mgA m.k zA zT zR pp zF).toList
          have hq := load_blk (P := Tryz.prog) hE Tryz.underlying39 rfl HDI.out
          refine bodyPost_ret (v := .agg (mgA m.k zA zT zR pp zF)) ?_ ?_ ?_
          · exact results_cell 2 39 ⟨w.heap.size + 1, 0, none⟩ Tryz.results53 rfl hq
          · rfl
          have hB := below_g HG.out hp HG.out.size (by omega)
          refine ⟨_, rfl, ?_, hB⟩
          rw [EN.out]
          exact ⟨zA, zT, zR, pp, zF, rfl, (HM.out.keep hB).more hB.size⟩
        · have nm4 := m4
          by_cases m5 : m.k = 5
          · have y1 : (m.k == 1) = false := by simp; omega
            have y2 : (m.k == 2) = false := by simp; omega
            have y3 : (m.k == 3) = false := by simp; omega
            have y4 : (m.k == 4) = false := by simp; omega
            have y5 : (m.k == 5) = true := by simpa using m5
            have EN := Lib.hid (show nm m = ⟨m.k, as0, tg0, re0, ap0, m.fa⟩ by rw [nm, if_neg m1, if_neg m2, if_neg m3, if_neg m4, if_pos m5, m5])
            clear m1 m2 m3 m4 m5
            have HM := Lib.hid (show MgP w w.heap.size zA zT zR zP pf ⟨m.k, as0, tg0, re0, ap0, m.fa⟩ from ⟨zA_v, zT_v w w.heap.size, zR_v w w.heap.size, zP_v w w.heap.size, HP.out.f⟩)
            have HDI := Lib.hid (show (Tryz.prog.info? 39).map (·.size) = some (mgA m.k zA zT zR zP pf).size by rw [HM.out.size]; exact mg_info)
            go_enter Tryz.func53, Tryz.ntmps53
            go_upto_region 1 with fail
            rw [← ezz, ← eW]
            clear ezz eW
            go_wp2_with (first
              | (refine wpList_built (by rfl) 39 #[(0, .tmp 5)] (by rfl) c0 (by simp only [List.map_toArray, List.map_cons, List.map_nil]; exact HBT.out) ?_)
              | (refine wpList_store_mid (by rfl) 39 (.tmp 3) (.tmp 6) (by rfl) W.heap.size 0 c0 (by rfl) (by rfl) (there_blk (Blk.new W 39 #[.int .i64 0, .string ⟨#[]⟩, .string ⟨#[]⟩, .string ⟨#[]⟩, .string ⟨#[]⟩, .int .i64 0, .int .i64 0, .string ⟨#[]⟩, .string ⟨#[]⟩, .int .i64 0, .slice none 0 0, .slice none 0 0, .string ⟨#[]⟩, .string ⟨#[]⟩, .int .i64 0, .int .i64 0, .string ⟨#[]⟩, .string ⟨#[]⟩, .string ⟨#[]⟩, .string ⟨#[]⟩, .int .i64 0, .slice none 0 0, .slice none 0 0, .string ⟨#[]⟩, .string ⟨#[]⟩, .int .i64 0, .slice none 0 0, .slice none 0 0, .int .i64 0, .int .i64 0]) _ (by have := HCS.out; simp; omega)) HI.out HO.out ?_; have hV := stored_new W 39 #[.int .i64 0, .string ⟨#[]⟩, .string ⟨#[]⟩, .string ⟨#[]⟩, .string ⟨#[]⟩, .int .i64 0, .int .i64 0, .string ⟨#[]⟩, .string ⟨#[]⟩, .int .i64 0, .slice none 0 0, .slice none 0 0, .string ⟨#[]⟩, .string ⟨#[]⟩, .int .i64 0, .int .i64 0, .string ⟨#[]⟩, .string ⟨#[]⟩, .string ⟨#[]⟩, .string ⟨#[]⟩, .int .i64 0, .slice none 0 0, .slice none 0 0, .string ⟨#[]⟩, .string ⟨#[]⟩, .int .i64 0, .slice none 0 0, .slice none 0 0, .int .i64 0, .int .i64 0] c0 (by have := HCS.out; simp; omega); generalize ((W.alloc (.cells #[.int .i64 0, .string ⟨#[]⟩, .string ⟨#[]⟩, .string ⟨#[]⟩, .string ⟨#[]⟩, .int .i64 0, .int .i64 0, .string ⟨#[]⟩, .string ⟨#[]⟩, .int .i64 0, .slice none 0 0, .slice none 0 0, .string ⟨#[]⟩, .string ⟨#[]⟩, .int .i64 0, .int .i64 0, .string ⟨#[]⟩, .string ⟨#[]⟩, .string ⟨#[]⟩, .string ⟨#[]⟩, .int .i64 0, .slice none 0 0, .slice none 0 0, .string ⟨#[]⟩, .string ⟨#[]⟩, .int .i64 0, .slice none 0 0, .slice none 0 0, .int .i64 0, .int .i64 0] 39)).setCells W.heap.size 0 c0.toList) = V at hV ⊢; have HX := Lib.hid (show Blk V W.heap.size 39 (mgA m.k zA zT zR zP zF) from EC.out ▸ hV.1); replace HK := Lib.hid (HK.out.below hV.2); replace HR := Lib.hid (HR.out.below hV.2); replace HG := Lib.hid (HG.out.trans (hV.2.mono HG.out.size)); clear hV HA k0; have HA := Lib.hid (HP.out.at_ HK.out); have k0 := HA.out.k)
              | (refine load_cells (by rfl) 37 (.tmp 31) (by rfl) w.heap.size 28 (by rfl) pf _ HA.out.f Tryz.underlying37 (by rfl) (by rw [HP.out.f.size]; exact fa_info) ?_)
              | (refine wpList_store_mid (by rfl) 37 (.tmp 33) (.tmp 32) (by rfl) W.heap.size 28 pf (by rfl) (by rfl) (there_mid HX.out 28 _ (by rw [(zM_v W 0 m.k).size m.k, HP.out.f.size]; omega)) (by rw [HP.out.f.size]; exact fa_info) HP.out.f.one ?_; have hX := blk_mid (ps := pf) (ds := mgA m.k zA zT zR zP pf) (pre := [.int .i64 m.k] ++ zA.toList ++ zT.toList ++ zR.toList ++ zP.toList) (mid := zF.toList) (post := []) (o := 28) HX.out (by simp [mgA]) (by rfl) (by rw [HP.out.f.size]; rfl) (by simp [mgA]); have hpm := put_mid V W.heap.size 28 pf.toList; generalize V.setCells W.heap.size 28 pf.toList = V2 at hX hpm ⊢; replace HX := Lib.hid hX; replace HR := Lib.hid (HR.out.grown hpm (by intro e; injection e with e; have := HWS.out; omega)); replace HG := Lib.hid (below_g HG.out hpm HG.out.size (by have := HWS.out; omega)); clear hX hpm HA HK k0)
              | (refine load_cells (by rfl) 39 (.tmp 3) (by rfl) W.heap.size 0 (by rfl) (mgA m.k zA zT zR zP pf) _ (range_blk HX.out) Tryz.underlying39 (by rfl) HDI.out ?_)
              | (refine wpList_store_mid (by rfl) 39 (.tmp 2) (.tmp 34) (by rfl) (w.heap.size + 1) 0 (mgA m.k zA zT zR zP pf) (by rfl) (by rfl) (there_blk HR.out _ (by rw [HM.out.size]; have := HZS.out; omega)) HDI.out (HM.out.one _) ?_)
              | fail)
            have hE := blk_cells (ds := mgA m.k zA zT zR zP pf) HR.out (by rw [HM.out.size]; have := HZS.out; omega)
            have hp := put_cells V2 (w.heap.size + 1) (mgA m.k zA zT zR zP pf).toList
            have hq := load_blk (P := Tryz.prog) hE Tryz.underlying39 rfl HDI.out
            refine bodyPost_ret (v := .agg (mgA m.k zA zT zR zP pf)) ?_ ?_ ?_
            · exact results_cell 2 39 ⟨w.heap.size + 1, 0, none⟩ Tryz.results53 rfl hq
            · rfl
            have hB := below_g HG.out hp HG.out.size (by omega)
            refine ⟨_, rfl, ?_, hB⟩
            rw [EN.out]
            exact ⟨zA, zT, zR, zP, pf, rfl, (HM.out.keep hB).more hB.size⟩
          · have nm5 := m5
            have y1 : (m.k == 1) = false := by simp; omega
            have y2 : (m.k == 2) = false := by simp; omega
            have y3 : (m.k == 3) = false := by simp; omega
            have y4 : (m.k == 4) = false := by simp; omega
            have y5 : (m.k == 5) = false := by simp; omega
            have EN := Lib.hid (show nm m = ⟨m.k, as0, tg0, re0, ap0, fa0⟩ by rw [nm, if_neg m1, if_neg m2, if_neg m3, if_neg m4, if_neg m5])
            clear m1 m2 m3 m4 m5
            have HM := Lib.hid (show MgP w w.heap.size zA zT zR zP zF ⟨m.k, as0, tg0, re0, ap0, fa0⟩ from ⟨zA_v, zT_v w w.heap.size, zR_v w w.heap.size, zP_v w w.heap.size, zF_v⟩)
            have HDI := Lib.hid (show (Tryz.prog.info? 39).map (·.size) = some (mgA m.k zA zT zR zP zF).size by rw [HM.out.size]; exact mg_info)
            go_enter Tryz.func53, Tryz.ntmps53
            go_upto_region 1 with fail
            rw [← ezz, ← eW]
            clear ezz eW
            go_wp2_with (first
              | (refine wpList_built (by rfl) 39 #[(0, .tmp 5)] (by rfl) c0 (by simp only [List.map_toArray, List.map_cons, List.map_nil]; exact HBT.out) ?_)
              | (refine wpList_store_mid (by rfl) 39 (.tmp 3) (.tmp 6) (by rfl) W.heap.size 0 c0 (by rfl) (by rfl) (there_blk (Blk.new W 39 #[.int .i64 0, .string ⟨#[]⟩, .string ⟨#[]⟩, .string ⟨#[]⟩, .string ⟨#[]⟩, .int .i64 0, .int .i64 0, .string ⟨#[]⟩, .string ⟨#[]⟩, .int .i64 0, .slice none 0 0, .slice none 0 0, .string ⟨#[]⟩, .string ⟨#[]⟩, .int .i64 0, .int .i64 0, .string ⟨#[]⟩, .string ⟨#[]⟩, .string ⟨#[]⟩, .string ⟨#[]⟩, .int .i64 0, .slice none 0 0, .slice none 0 0, .string ⟨#[]⟩, .string ⟨#[]⟩, .int .i64 0, .slice none 0 0, .slice none 0 0, .int .i64 0, .int .i64 0]) _ (by have := HCS.out; simp; omega)) HI.out HO.out ?_; have hV := stored_new W 39 #[.int .i64 0, .string ⟨#[]⟩, .string ⟨#[]⟩, .string ⟨#[]⟩, .string ⟨#[]⟩, .int .i64 0, .int .i64 0, .string ⟨#[]⟩, .string ⟨#[]⟩, .int .i64 0, .slice none 0 0, .slice none 0 0, .string ⟨#[]⟩, .string ⟨#[]⟩, .int .i64 0, .int .i64 0, .string ⟨#[]⟩, .string ⟨#[]⟩, .string ⟨#[]⟩, .string ⟨#[]⟩, .int .i64 0, .slice none 0 0, .slice none 0 0, .string ⟨#[]⟩, .string ⟨#[]⟩, .int .i64 0, .slice none 0 0, .slice none 0 0, .int .i64 0, .int .i64 0] c0 (by have := HCS.out; simp; omega); generalize ((W.alloc (.cells #[.int .i64 0, .string ⟨#[]⟩, .string ⟨#[]⟩, .string ⟨#[]⟩, .string ⟨#[]⟩, .int .i64 0, .int .i64 0, .string ⟨#[]⟩, .string ⟨#[]⟩, .int .i64 0, .slice none 0 0, .slice none 0 0, .string ⟨#[]⟩, .string ⟨#[]⟩, .int .i64 0, .int .i64 0, .string ⟨#[]⟩, .string ⟨#[]⟩, .string ⟨#[]⟩, .string ⟨#[]⟩, .int .i64 0, .slice none 0 0, .slice none 0 0, .string ⟨#[]⟩, .string ⟨#[]⟩, .int .i64 0, .slice none 0 0, .slice none 0 0, .int .i64 0, .int .i64 0] 39)).setCells W.heap.size 0 c0.toList) = V at hV ⊢; have HX := Lib.hid (show Blk V W.heap.size 39 (mgA m.k zA zT zR zP zF) from EC.out ▸ hV.1); replace HK := Lib.hid (HK.out.below hV.2); replace HR := Lib.hid (HR.out.below hV.2); replace HG := Lib.hid (HG.out.trans (hV.2.mono HG.out.size)); clear hV HA k0; have HA := Lib.hid (HP.out.at_ HK.out); have k0 := HA.out.k)
              | (refine load_cells (by rfl) 39 (.tmp 3) (by rfl) W.heap.size 0 (by rfl) (mgA m.k zA zT zR zP zF) _ (range_blk HX.out) Tryz.underlying39 (by rfl) HDI.out ?_)
              | (refine wpList_store_mid (by rfl) 39 (.tmp 2) (.tmp 34) (by rfl) (w.heap.size + 1) 0 (mgA m.k zA zT zR zP zF) (by rfl) (by rfl) (there_blk HR.out _ (by rw [HM.out.size]; have := HZS.out; omega)) HDI.out (HM.out.one _) ?_)
              | fail)
            have hE := blk_cells (ds := mgA m.k zA zT zR zP zF) HR.out (by rw [HM.out.size]; have := HZS.out; omega)
            have hp := put_cells V (w.heap.size + 1) (mgA m.k zA zT zR zP zF).toList
            have hq := load_blk (P := Tryz.prog) hE Tryz.underlying39 rfl HDI.out
            refine bodyPost_ret (v := .agg (mgA m.k zA zT zR zP zF)) ?_ ?_ ?_
            · exact results_cell 2 39 ⟨w.heap.size + 1, 0, none⟩ Tryz.results53 rfl hq
            · rfl
            have hB := below_g HG.out hp HG.out.size (by omega)
            refine ⟨_, rfl, ?_, hB⟩
            rw [EN.out]
            exact ⟨zA, zT, zR, zP, zF, rfl, (HM.out.keep hB).more hB.size⟩
end Go.Proofs.YteeabfplnaknfaaGreat.Mc
end
