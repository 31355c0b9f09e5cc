import Derived.Deep.CutRange
import Derived.Deep.LoopGhost
import Derived.Test.YteeabfplnaknfaaGreatZB1
import Derived.Test.YteeabfplnaknfaaGreatZB2
import Derived.Test.YteeabfplnaknfaaGreatZB3
import Derived.Test.YteeabfplnaknfaaGreatZB4
import Derived.Test.YteeabfplnaknfaaGreatZB5
import Derived.Test.YteeabfplnaknfaaGreatZB6
import Derived.Test.YteeabfplnaknfaaGreatZB7
import Derived.Test.YteeabfplnaknfaaGreatZB9
import Derived.Test.YteeabfplnaknfaaGreatZB10
import Derived.Test.YteeabfplnaknfaaGreatZB11
import Derived.Test.YteeabfplnaknfaaGreatZB12
import Derived.Test.YteeabfplnaknfaaGreatZB13
import Derived.Test.YteeabfplnaknfaaGreatZB14
import Derived.Test.YteeabfplnaknfaaGreatZB15
import Derived.Test.YteeabfplnaknfaaGreatZB16
import Derived.Test.YteeabfplnaknfaaGreatZB17
import Derived.Test.YteeabfplnaknfaaGreatZB18
import Derived.Test.YteeabfplnaknfaaGreatZB19
import Derived.Test.YteeabfplnaknfaaGreatZB20
import Derived.Test.YteeabfplnaknfaaGreatZB25
section
set_option linter.unusedVariables false
set_option linter.unusedSimpArgs false
namespace Go.Proofs.YteeabfplnaknfaaGreat.Mc
open Go.RowKit Go.Proofs.YteeabfplnaknfaaGreat.Mem Go.Proofs.YteeabfplnaknfaaGreat.DerP Go.Proofs.YteeabfplnaknfaaGreat.Ms

theorem blk_at4 (w : World) (g : Nat) (t : TypeId) (cs : Array Value) (hg : w.heap.size = g) : Blk (w.alloc (.cells cs t)) g t cs := hg ▸ Blk.new w t cs
theorem blk_drew4 {w : World} {g : Nat} {t : TypeId} {cs : Array Value} (h : Blk w g t cs) : Blk w.drew g t cs := h
set_option maxHeartbeats 6400000 in
set_option maxRecDepth 10000 in
theorem rsame_no (k k2 : Int) (x1 y1 x2 y2 x3 y3 x4 y4 x5 y5 x6 y6 x7 y7 x8 y8 x9 y9 x10 y10 x11 y11 x12 y12 x13 y13 x14 y14 x15 y15 x16 y16 x17 y17 x18 y18 x19 y19 x20 y20 x21 y21 x22 y22 x23 y23 x24 y24 x25 y25 x26 y26 x27 y27 x28 y28 x29 y29 : Value) (w : World) (hk : k ≠ k2) :
    Calls Tryz.prog 13 #[.agg #[.int .i64 k, x1, x2, x3, x4, x5, x6, x7, x8, x9, x10, x11, x12, x13, x14, x15, x16, x17, x18, x19, x20, x21, x22, x23, x24, x25, x26, x27, x28, x29], .agg #[.int .i64 k2, y1, y2, y3, y4, y5, y6, y7, y8, y9, y10, y11, y12, y13, y14, y15, y16, y17, y18, y19, y20, y21, y22, y23, y24, y25, y26, y27, y28, y29]] w fun e w' => e = .returned (.bool (false)) ∧ Below w.heap.size w w' := by
  have HB := Lib.hid (((Below.refl w.heap.size w).alloc (Nat.le_refl _) (.cells #[.int .i64 k, x1, x2, x3, x4, x5, x6, x7, x8, x9, x10, x11, x12, x13, x14, x15, x16, x17, x18, x19, x20, x21, x22, x23, x24, x25, x26, x27, x28, x29] 39)).alloc (by simp) (.cells #[.int .i64 k2, y1, y2, y3, y4, y5, y6, y7, y8, y9, y10, y11, y12, y13, y14, y15, y16, y17, y18, y19, y20, y21, y22, y23, y24, y25, y26, y27, y28, y29] 39))
  have t0 : (k != k2) = true := by simpa using hk
  clear hk
  go_enter Tryz.func13, Tryz.ntmps13
  go_wp2
  go_ret
  exact ⟨rfl, HB.out⟩
set_option maxHeartbeats 6400000 in
set_option maxRecDepth 10000 in
theorem rsame_other (k : Int) (x1 y1 x2 y2 x3 y3 x4 y4 x5 y5 x6 y6 x7 y7 x8 y8 x9 y9 x10 y10 x11 y11 x12 y12 x13 y13 x14 y14 x15 y15 x16 y16 x17 y17 x18 y18 x19 y19 x20 y20 x21 y21 x22 y22 x23 y23 x24 y24 x25 y25 x26 y26 x27 y27 x28 y28 x29 y29 : Value) (w : World) (h1 : k ≠ 1) (h2 : k ≠ 2) (h3 : k ≠ 3) (h4 : k ≠ 4) (h5 : k ≠ 5) :
    Calls Tryz.prog 13 #[.agg #[.int .i64 k, x1, x2, x3, x4, x5, x6, x7, x8, x9, x10, x11, x12, x13, x14, x15, x16, x17, x18, x19, x20, x21, x22, x23, x24, x25, x26, x27, x28, x29], .agg #[.int .i64 k, y1, y2, y3, y4, y5, y6, y7, y8, y9, y10, y11, y12, y13, y14, y15, y16, y17, y18, y19, y20, y21, y22, y23, y24, y25, y26, y27, y28, y29]] w fun e w' => e = .returned (.bool (true)) ∧ Below w.heap.size w w' := by
  have HB := Lib.hid (((Below.refl w.heap.size w).alloc (Nat.le_refl _) (.cells #[.int .i64 k, x1, x2, x3, x4, x5, x6, x7, x8, x9, x10, x11, x12, x13, x14, x15, x16, x17, x18, x19, x20, x21, x22, x23, x24, x25, x26, x27, x28, x29] 39)).alloc (by simp) (.cells #[.int .i64 k, y1, y2, y3, y4, y5, y6, y7, y8, y9, y10, y11, y12, y13, y14, y15, y16, y17, y18, y19, y20, y21, y22, y23, y24, y25, y26, y27, y28, y29] 39))
  have t1 : (k == 1) = false := by simpa using h1
  have t2 : (k == 2) = false := by simpa using h2
  have t3 : (k == 3) = false := by simpa using h3
  have t4 : (k == 4) = false := by simpa using h4
  have t5 : (k == 5) = false := by simpa using h5
  clear h1 h2 h3 h4 h5
  go_enter Tryz.func13, Tryz.ntmps13
  go_wp2
  go_ret
  exact ⟨rfl, HB.out⟩
set_option maxHeartbeats 6400000 in
set_option maxRecDepth 10000 in
theorem rsame_as (x y : As) (x7 y7 x8 y8 x9 y9 x10 y10 x11 y11 x12 y12 x13 y13 x14 y14 x15 y15 x16 y16 x17 y17 x18 y18 x19 y19 x20 y20 x21 y21 x22 y22 x23 y23 x24 y24 x25 y25 x26 y26 x27 y27 x28 y28 x29 y29 : Value) (w : World)  :
    Calls Tryz.prog 13 #[.agg #[.int .i64 1, .string ⟨x.c.1.toArray⟩, .string ⟨x.c.2.toArray⟩, .string ⟨x.s.1.toArray⟩, .string ⟨x.s.2.toArray⟩, .int .i64 x.t, .int .i64 x.no, x7, x8, x9, x10, x11, x12, x13, x14, x15, x16, x17, x18, x19, x20, x21, x22, x23, x24, x25, x26, x27, x28, x29], .agg #[.int .i64 1, .string ⟨y.c.1.toArray⟩, .string ⟨y.c.2.toArray⟩, .string ⟨y.s.1.toArray⟩, .string ⟨y.s.2.toArray⟩, .int .i64 y.t, .int .i64 y.no, y7, y8, y9, y10, y11, y12, y13, y14, y15, y16, y17, y18, y19, y20, y21, y22, y23, y24, y25, y26, y27, y28, y29]] w fun e w' => e = .returned (.bool (decide (x = y))) ∧ Below w.heap.size w w' := by
  have HB := Lib.hid (((Below.refl w.heap.size w).alloc (Nat.le_refl _) (.cells #[.int .i64 1, .string ⟨x.c.1.toArray⟩, .string ⟨x.c.2.toArray⟩, .string ⟨x.s.1.toArray⟩, .string ⟨x.s.2.toArray⟩, .int .i64 x.t, .int .i64 x.no, x7, x8, x9, x10, x11, x12, x13, x14, x15, x16, x17, x18, x19, x20, x21, x22, x23, x24, x25, x26, x27, x28, x29] 39)).alloc (by simp) (.cells #[.int .i64 1, .string ⟨y.c.1.toArray⟩, .string ⟨y.c.2.toArray⟩, .string ⟨y.s.1.toArray⟩, .string ⟨y.s.2.toArray⟩, .int .i64 y.t, .int .i64 y.no, y7, y8, y9, y10, y11, y12, y13, y14, y15, y16, y17, y18, y19, y20, y21, y22, y23, y24, y25, y26, y27, y28, y29] 39))
  have hq := fun w1 => eql_as x y w1
  go_enter Tryz.func13, Tryz.ntmps13
  go_wp2
  go_ret
  exact ⟨rfl, HB.out⟩
set_option maxHeartbeats 6400000 in
set_option maxRecDepth 10000 in
theorem rsame_fa (x y : Fa) (x1 y1 x2 y2 x3 y3 x4 y4 x5 y5 x6 y6 x7 y7 x8 y8 x9 y9 x10 y10 x11 y11 x12 y12 x13 y13 x14 y14 x15 y15 x16 y16 x17 y17 x18 y18 x19 y19 x20 y20 x21 y21 x22 y22 x23 y23 x24 y24 x25 y25 x26 y26 x27 y27 : Value) (w : World)  :
    Calls Tryz.prog 13 #[.agg #[.int .i64 5, x1, x2, x3, x4, x5, x6, x7, x8, x9, x10, x11, x12, x13, x14, x15, x16, x17, x18, x19, x20, x21, x22, x23, x24, x25, x26, x27, .int .i64 x.e, .int .i64 x.no], .agg #[.int .i64 5, y1, y2, y3, y4, y5, y6, y7, y8, y9, y10, y11, y12, y13, y14, y15, y16, y17, y18, y19, y20, y21, y22, y23, y24, y25, y26, y27, .int .i64 y.e, .int .i64 y.no]] w fun e w' => e = .returned (.bool (decide (x = y))) ∧ Below w.heap.size w w' := by
  have HB := Lib.hid (((Below.refl w.heap.size w).alloc (Nat.le_refl _) (.cells #[.int .i64 5, x1, x2, x3, x4, x5, x6, x7, x8, x9, x10, x11, x12, x13, x14, x15, x16, x17, x18, x19, x20, x21, x22, x23, x24, x25, x26, x27, .int .i64 x.e, .int .i64 x.no] 39)).alloc (by simp) (.cells #[.int .i64 5, y1, y2, y3, y4, y5, y6, y7, y8, y9, y10, y11, y12, y13, y14, y15, y16, y17, y18, y19, y20, y21, y22, y23, y24, y25, y26, y27, .int .i64 y.e, .int .i64 y.no] 39))
  have hq := fun w1 => eql_fa x y w1
  go_enter Tryz.func13, Tryz.ntmps13
  go_wp2
  go_ret
  exact ⟨rfl, HB.out⟩
set_option maxHeartbeats 6400000 in
set_option maxRecDepth 10000 in
theorem rsame_re (x y : Re) (A A2 D D2 : Option Addr) (c c2 e e2 : Nat) (x1 y1 x2 y2 x3 y3 x4 y4 x5 y5 x6 y6 x7 y7 x8 y8 x9 y9 x10 y10 x11 y11 x12 y12 x13 y13 x14 y14 x15 y15 x23 y23 x24 y24 x25 y25 x26 y26 x27 y27 x28 y28 x29 y29 : Value) (w : World) (h1 : Rd w w.heap.size A (bvs x.t.b)) (h2 : Rd w w.heap.size A2 (bvs y.t.b)) (h3 : Rd w w.heap.size D (bvs x.b)) (h4 : Rd w w.heap.size D2 (bvs y.b)) :
    Calls Tryz.prog 13 #[.agg #[.int .i64 3, x1, x2, x3, x4, x5, x6, x7, x8, x9, x10, x11, x12, x13, x14, x15, .string ⟨x.c.1.toArray⟩, .string ⟨x.c.2.toArray⟩, .string ⟨x.t.s.1.toArray⟩, .string ⟨x.t.s.2.toArray⟩, .int .i64 x.t.k, .slice A x.t.b.length c, .slice D x.b.length e, x23, x24, x25, x26, x27, x28, x29], .agg #[.int .i64 3, y1, y2, y3, y4, y5, y6, y7, y8, y9, y10, y11, y12, y13, y14, y15, .string ⟨y.c.1.toArray⟩, .string ⟨y.c.2.toArray⟩, .string ⟨y.t.s.1.toArray⟩, .string ⟨y.t.s.2.toArray⟩, .int .i64 y.t.k, .slice A2 y.t.b.length c2, .slice D2 y.b.length e2, y23, y24, y25, y26, y27, y28, y29]] w fun e w' => e = .returned (.bool (decide (x = y))) ∧ Below w.heap.size w w' := by
  have HB := Lib.hid (((Below.refl w.heap.size w).alloc (Nat.le_refl _) (.cells #[.int .i64 3, x1, x2, x3, x4, x5, x6, x7, x8, x9, x10, x11, x12, x13, x14, x15, .string ⟨x.c.1.toArray⟩, .string ⟨x.c.2.toArray⟩, .string ⟨x.t.s.1.toArray⟩, .string ⟨x.t.s.2.toArray⟩, .int .i64 x.t.k, .slice A x.t.b.length c, .slice D x.b.length e, x23, x24, x25, x26, x27, x28, x29] 39)).alloc (by simp) (.cells #[.int .i64 3, y1, y2, y3, y4, y5, y6, y7, y8, y9, y10, y11, y12, y13, y14, y15, .string ⟨y.c.1.toArray⟩, .string ⟨y.c.2.toArray⟩, .string ⟨y.t.s.1.toArray⟩, .string ⟨y.t.s.2.toArray⟩, .int .i64 y.t.k, .slice A2 y.t.b.length c2, .slice D2 y.b.length e2, y23, y24, y25, y26, y27, y28, y29] 39))
  have T1 := Lib.hid (fun w1 (h : Below w.heap.size w w1) => rsamer_any x y A A2 D D2 c c2 e e2 w1 ((h1.below h).more h.size) ((h2.below h).more h.size) ((h3.below h).more h.size) ((h4.below h).more h.size))
  clear h1 h2 h3 h4
  go_enter Tryz.func13, Tryz.ntmps13
  go_wp2_with (go_at_call 51; refine Calls.mono (T1.out _ HB.out) ?_; rintro e9 w1 ⟨rfl, hb⟩; replace HB := Lib.hid (HB.out.trans (hb.mono HB.out.size)); clear hb T1)
  go_ret
  exact ⟨rfl, HB.out⟩
set_option maxHeartbeats 6400000 in
set_option maxRecDepth 10000 in
theorem rsame_ap (t t2 : Tk) (a a2 : L) (A A2 D D2 : Option Addr) (c c2 e e2 : Nat) (x1 y1 x2 y2 x3 y3 x4 y4 x5 y5 x6 y6 x7 y7 x8 y8 x9 y9 x10 y10 x11 y11 x12 y12 x13 y13 x14 y14 x15 y15 x16 y16 x17 y17 x18 y18 x19 y19 x20 y20 x21 y21 x22 y22 x28 y28 x29 y29 : Value) (w : World) (h1 : Rd w w.heap.size A (bvs t.b)) (h2 : Rd w w.heap.size A2 (bvs t2.b)) (h3 : Rd w w.heap.size D (bvs a)) (h4 : Rd w w.heap.size D2 (bvs a2)) :
    Calls Tryz.prog 13 #[.agg #[.int .i64 4, x1, x2, x3, x4, x5, x6, x7, x8, x9, x10, x11, x12, x13, x14, x15, x16, x17, x18, x19, x20, x21, x22, .string ⟨t.s.1.toArray⟩, .string ⟨t.s.2.toArray⟩, .int .i64 t.k, .slice A t.b.length c, .slice D a.length e, x28, x29], .agg #[.int .i64 4, y1, y2, y3, y4, y5, y6, y7, y8, y9, y10, y11, y12, y13, y14, y15, y16, y17, y18, y19, y20, y21, y22, .string ⟨t2.s.1.toArray⟩, .string ⟨t2.s.2.toArray⟩, .int .i64 t2.k, .slice A2 t2.b.length c2, .slice D2 a2.length e2, y28, y29]] w fun e w' => e = .returned (.bool (decide ((⟨t, a⟩ : Ap) = ⟨t2, a2⟩))) ∧ Below w.heap.size w w' := by
  have HB := Lib.hid (((Below.refl w.heap.size w).alloc (Nat.le_refl _) (.cells #[.int .i64 4, x1, x2, x3, x4, x5, x6, x7, x8, x9, x10, x11, x12, x13, x14, x15, x16, x17, x18, x19, x20, x21, x22, .string ⟨t.s.1.toArray⟩, .string ⟨t.s.2.toArray⟩, .int .i64 t.k, .slice A t.b.length c, .slice D a.length e, x28, x29] 39)).alloc (by simp) (.cells #[.int .i64 4, y1, y2, y3, y4, y5, y6, y7, y8, y9, y10, y11, y12, y13, y14, y15, y16, y17, y18, y19, y20, y21, y22, .string ⟨t2.s.1.toArray⟩, .string ⟨t2.s.2.toArray⟩, .int .i64 t2.k, .slice A2 t2.b.length c2, .slice D2 a2.length e2, y28, y29] 39))
  have HX := Lib.hid ((Blk.new w 39 #[.int .i64 4, x1, x2, x3, x4, x5, x6, x7, x8, x9, x10, x11, x12, x13, x14, x15, x16, x17, x18, x19, x20, x21, x22, .string ⟨t.s.1.toArray⟩, .string ⟨t.s.2.toArray⟩, .int .i64 t.k, .slice A t.b.length c, .slice D a.length e, x28, x29]).alloc (.cells #[.int .i64 4, y1, y2, y3, y4, y5, y6, y7, y8, y9, y10, y11, y12, y13, y14, y15, y16, y17, y18, y19, y20, y21, y22, .string ⟨t2.s.1.toArray⟩, .string ⟨t2.s.2.toArray⟩, .int .i64 t2.k, .slice A2 t2.b.length c2, .slice D2 a2.length e2, y28, y29] 39))
  have HY := Lib.hid (blk_at4 (w.alloc (.cells #[.int .i64 4, x1, x2, x3, x4, x5, x6, x7, x8, x9, x10, x11, x12, x13, x14, x15, x16, x17, x18, x19, x20, x21, x22, .string ⟨t.s.1.toArray⟩, .string ⟨t.s.2.toArray⟩, .int .i64 t.k, .slice A t.b.length c, .slice D a.length e, x28, x29] 39)) (w.heap.size + 1) 39 #[.int .i64 4, y1, y2, y3, y4, y5, y6, y7, y8, y9, y10, y11, y12, y13, y14, y15, y16, y17, y18, y19, y20, y21, y22, .string ⟨t2.s.1.toArray⟩, .string ⟨t2.s.2.toArray⟩, .int .i64 t2.k, .slice A2 t2.b.length c2, .slice D2 a2.length e2, y28, y29] (by simp))
  have T1 := Lib.hid (fun w1 (h : Below w.heap.size w w1) => rsamet_any t t2 A A2 c c2 w1.heap.size w1 ((h1.below h).more h.size) ((h2.below h).more h.size) (Nat.le_refl _))
  have RD1 := Lib.hid (fun w1 (h : Below w.heap.size w w1) => h3.below h)
  have RD2 := Lib.hid (fun w1 (h : Below w.heap.size w w1) => h4.below h)
  clear h1 h2 h3 h4
  cases e0 : decide (t = t2) with
  | false =>
    rw [e0] at T1
    have E := Lib.hid (show decide ((⟨t, a⟩ : Ap) = ⟨t2, a2⟩) = false from decide_eq_false (fun h => of_decide_eq_false e0 (congrArg Ap.t h)))
    clear e0
    go_enter Tryz.func13, Tryz.ntmps13
    go_wp2_with (go_at_call 50; refine Calls.mono (T1.out _ HB.out) ?_; rintro e3 w1 ⟨rfl, hb⟩; replace HX := Lib.hid (HX.out.below hb); replace HY := Lib.hid (HY.out.below hb); replace HB := Lib.hid (HB.out.trans (hb.mono HB.out.size)); clear hb T1; have kx : w1.cell? ⟨w.heap.size, 27, none⟩ = some (.slice D a.length e) := HX.out.cell 27; have ky : w1.cell? ⟨w.heap.size + 1, 27, none⟩ = some (.slice D2 a2.length e2) := HY.out.cell 27; have hcv1 := run_bytes_str (P := Tryz.prog) w1 26 5 Tryz.underlying26 Tryz.underlying5 (RD1.out w1 HB.out) a.length e rfl 9 Tryz.underlying9; have hcv2 := run_bytes_str (P := Tryz.prog) w1 26 5 Tryz.underlying26 Tryz.underlying5 (RD2.out w1 HB.out) a2.length e2 rfl 9 Tryz.underlying9)
    go_ret
    exact ⟨by rw [E.out]; rfl, HB.out⟩
  | true =>
    rw [e0] at T1
    have e5 := of_decide_eq_true e0
    by_cases e4 : a = a2
    · have t4 : (a == a2) = true := by simpa using e4
      have E := Lib.hid (show decide ((⟨t, a⟩ : Ap) = ⟨t2, a2⟩) = true from decide_eq_true (by rw [e4, e5]))
      clear e0 e4 e5
      go_enter Tryz.func13, Tryz.ntmps13
      go_wp2_with (go_at_call 50; refine Calls.mono (T1.out _ HB.out) ?_; rintro e3 w1 ⟨rfl, hb⟩; replace HX := Lib.hid (HX.out.below hb); replace HY := Lib.hid (HY.out.below hb); replace HB := Lib.hid (HB.out.trans (hb.mono HB.out.size)); clear hb T1; have kx : w1.cell? ⟨w.heap.size, 27, none⟩ = some (.slice D a.length e) := HX.out.cell 27; have ky : w1.cell? ⟨w.heap.size + 1, 27, none⟩ = some (.slice D2 a2.length e2) := HY.out.cell 27; have hcv1 := run_bytes_str (P := Tryz.prog) w1 26 5 Tryz.underlying26 Tryz.underlying5 (RD1.out w1 HB.out) a.length e rfl 9 Tryz.underlying9; have hcv2 := run_bytes_str (P := Tryz.prog) w1 26 5 Tryz.underlying26 Tryz.underlying5 (RD2.out w1 HB.out) a2.length e2 rfl 9 Tryz.underlying9)
      go_ret
      exact ⟨by rw [E.out]; rfl, HB.out⟩
    · have t4 : (a == a2) = false := by simpa using e4
      have E := Lib.hid (show decide ((⟨t, a⟩ : Ap) = ⟨t2, a2⟩) = false from decide_eq_false (fun h => e4 (congrArg Ap.a h)))
      clear e0 e4 e5
      go_enter Tryz.func13, Tryz.ntmps13
      go_wp2_with (go_at_call 50; refine Calls.mono (T1.out _ HB.out) ?_; rintro e3 w1 ⟨rfl, hb⟩; replace HX := Lib.hid (HX.out.below hb); replace HY := Lib.hid (HY.out.below hb); replace HB := Lib.hid (HB.out.trans (hb.mono HB.out.size)); clear hb T1; have kx : w1.cell? ⟨w.heap.size, 27, none⟩ = some (.slice D a.length e) := HX.out.cell 27; have ky : w1.cell? ⟨w.heap.size + 1, 27, none⟩ = some (.slice D2 a2.length e2) := HY.out.cell 27; have hcv1 := run_bytes_str (P := Tryz.prog) w1 26 5 Tryz.underlying26 Tryz.underlying5 (RD1.out w1 HB.out) a.length e rfl 9 Tryz.underlying9; have hcv2 := run_bytes_str (P := Tryz.prog) w1 26 5 Tryz.underlying26 Tryz.underlying5 (RD2.out w1 HB.out) a2.length e2 rfl 9 Tryz.underlying9)
      go_ret
      exact ⟨by rw [E.out]; rfl, HB.out⟩
set_option maxHeartbeats 25600000 in
set_option maxRecDepth 10000 in
theorem rsame_tg (t t2 : Tk) (a a2 r r2 n n2 : L) (u u2 no no2 : Int) (A A2 D D2 : Option Addr) (c c2 e e2 : Nat) (x1 y1 x2 y2 x3 y3 x4 y4 x5 y5 x6 y6 x16 y16 x17 y17 x18 y18 x19 y19 x20 y20 x21 y21 x22 y22 x23 y23 x24 y24 x25 y25 x26 y26 x27 y27 x28 y28 x29 y29 : Value) (w : World) (h1 : Rd w w.heap.size A (bvs t.b)) (h2 : Rd w w.heap.size A2 (bvs t2.b)) (h3 : Rd w w.heap.size D (bvs a)) (h4 : Rd w w.heap.size D2 (bvs a2)) :
    Calls Tryz.prog 13 #[.agg #[.int .i64 2, x1, x2, x3, x4, x5, x6, .string ⟨t.s.1.toArray⟩, .string ⟨t.s.2.toArray⟩, .int .i64 t.k, .slice A t.b.length c, .slice D a.length e, .string ⟨List.toArray r⟩, .string ⟨List.toArray n⟩, .int .i64 u, .int .i64 no, x16, x17, x18, x19, x20, x21, x22, x23, x24, x25, x26, x27, x28, x29], .agg #[.int .i64 2, y1, y2, y3, y4, y5, y6, .string ⟨t2.s.1.toArray⟩, .string ⟨t2.s.2.toArray⟩, .int .i64 t2.k, .slice A2 t2.b.length c2, .slice D2 a2.length e2, .string ⟨List.toArray r2⟩, .string ⟨List.toArray n2⟩, .int .i64 u2, .int .i64 no2, y16, y17, y18, y19, y20, y21, y22, y23, y24, y25, y26, y27, y28, y29]] w fun e w' => e = .returned (.bool (decide ((⟨t, a, (r, n), u, no⟩ : Tg) = ⟨t2, a2, (r2, n2), u2, no2⟩))) ∧ Below w.heap.size w w' := by
  have T1 := Lib.hid (fun w1 (h : Below w.heap.size w w1) => rsamet_any t t2 A A2 c c2 w1.heap.size w1 ((h1.below h).more h.size) ((h2.below h).more h.size) (Nat.le_refl _))
  have RD1 := Lib.hid (fun w1 (h : Below w.heap.size w w1) => h3.below h)
  have RD2 := Lib.hid (fun w1 (h : Below w.heap.size w w1) => h4.below h)
  clear h1 h2 h3 h4
  go_enter Tryz.func13, Tryz.ntmps13
  go_upto_region 7 with fail
  go_cut [5, 6] from 23 to 26 (fun v5 v6 wx => ∃ g5 g6, v5 = .pointer (some ⟨g5, 0, none⟩) ∧ v6 = .pointer (some ⟨g6, 0, none⟩) ∧ Blk wx g5 30 #[.string ⟨t.s.1.toArray⟩, .string ⟨t.s.2.toArray⟩, .int .i64 t.k, .slice A t.b.length c, .slice D a.length e, .string ⟨List.toArray r⟩, .string ⟨List.toArray n⟩, .int .i64 u, .int .i64 no] ∧ Blk wx g6 30 #[.string ⟨t2.s.1.toArray⟩, .string ⟨t2.s.2.toArray⟩, .int .i64 t2.k, .slice A2 t2.b.length c2, .slice D2 a2.length e2, .string ⟨List.toArray r2⟩, .string ⟨List.toArray n2⟩, .int .i64 u2, .int .i64 no2] ∧ Below w.heap.size w wx)
  case first =>
    go_region
    all_goals go_wp2_with fail
    all_goals go_meet
    all_goals exact ⟨_, _, rfl, rfl, (by first | exact blk_drew4 (blk_at4 _ _ _ _ (by simp)) | exact blk_drew4 ((blk_at4 _ _ _ _ (by simp)).alloc _)), (by first | exact blk_drew4 (blk_at4 _ _ _ _ (by simp)) | exact blk_drew4 ((blk_at4 _ _ _ _ (by simp)).alloc _)), below_drewN (((((Below.refl w.heap.size w).alloc (Nat.le_refl _) _).alloc (by simp <;> omega) _).alloc (by simp <;> omega) _).alloc (by simp <;> omega) _) 1⟩
  case rest =>
    obtain ⟨g5, g6, rfl, rfl, hx, hy, hb⟩ := hcut
    have HX := Lib.hid hx; have HY := Lib.hid hy; have HB := Lib.hid hb; clear hx hy hb
    have kx0 : wc.cell? ⟨g5, 0, none⟩ = some (.string ⟨t.s.1.toArray⟩) := HX.out.cell 0
    have ky0 : wc.cell? ⟨g6, 0, none⟩ = some (.string ⟨t2.s.1.toArray⟩) := HY.out.cell 0
    have kx1 : wc.cell? ⟨g5, 1, none⟩ = some (.string ⟨t.s.2.toArray⟩) := HX.out.cell 1
    have ky1 : wc.cell? ⟨g6, 1, none⟩ = some (.string ⟨t2.s.2.toArray⟩) := HY.out.cell 1
    have kx2 : wc.cell? ⟨g5, 2, none⟩ = some (.int .i64 t.k) := HX.out.cell 2
    have ky2 : wc.cell? ⟨g6, 2, none⟩ = some (.int .i64 t2.k) := HY.out.cell 2
    have kx3 : wc.cell? ⟨g5, 3, none⟩ = some (.slice A t.b.length c) := HX.out.cell 3
    have ky3 : wc.cell? ⟨g6, 3, none⟩ = some (.slice A2 t2.b.length c2) := HY.out.cell 3
    have kx4 : wc.cell? ⟨g5, 4, none⟩ = some (.slice D a.length e) := HX.out.cell 4
    have ky4 : wc.cell? ⟨g6, 4, none⟩ = some (.slice D2 a2.length e2) := HY.out.cell 4
    have kx5 : wc.cell? ⟨g5, 5, none⟩ = some (.string ⟨List.toArray r⟩) := HX.out.cell 5
    have ky5 : wc.cell? ⟨g6, 5, none⟩ = some (.string ⟨List.toArray r2⟩) := HY.out.cell 5
    have kx6 : wc.cell? ⟨g5, 6, none⟩ = some (.string ⟨List.toArray n⟩) := HX.out.cell 6
    have ky6 : wc.cell? ⟨g6, 6, none⟩ = some (.string ⟨List.toArray n2⟩) := HY.out.cell 6
    have kx7 : wc.cell? ⟨g5, 7, none⟩ = some (.int .i64 u) := HX.out.cell 7
    have ky7 : wc.cell? ⟨g6, 7, none⟩ = some (.int .i64 u2) := HY.out.cell 7
    have kx8 : wc.cell? ⟨g5, 8, none⟩ = some (.int .i64 no) := HX.out.cell 8
    have ky8 : wc.cell? ⟨g6, 8, none⟩ = some (.int .i64 no2) := HY.out.cell 8
    cases e0 : decide (t = t2) with
    | false =>
      rw [e0] at T1
      have E := Lib.hid (show decide ((⟨t, a, (r, n), u, no⟩ : Tg) = ⟨t2, a2, (r2, n2), u2, no2⟩) = false from decide_eq_false (fun h => of_decide_eq_false e0 (congrArg Tg.t h)))
      clear e0
      go_wp2_with (go_at_call 50; refine Calls.mono (T1.out _ HB.out) ?_; rintro e3 w1 ⟨rfl, hb⟩; replace HX := Lib.hid (HX.out.below hb); replace HY := Lib.hid (HY.out.below hb); replace HB := Lib.hid (HB.out.trans (hb.mono HB.out.size)); clear hb T1; clear kx0 ky0 kx1 ky1 kx2 ky2 kx3 ky3 kx4 ky4 kx5 ky5 kx6 ky6 kx7 ky7 kx8 ky8; have kx4 : w1.cell? ⟨g5, 4, none⟩ = some (.slice D a.length e) := HX.out.cell 4; have ky4 : w1.cell? ⟨g6, 4, none⟩ = some (.slice D2 a2.length e2) := HY.out.cell 4; have kx5 : w1.cell? ⟨g5, 5, none⟩ = some (.string ⟨List.toArray r⟩) := HX.out.cell 5; have ky5 : w1.cell? ⟨g6, 5, none⟩ = some (.string ⟨List.toArray r2⟩) := HY.out.cell 5; have kx6 : w1.cell? ⟨g5, 6, none⟩ = some (.string ⟨List.toArray n⟩) := HX.out.cell 6; have ky6 : w1.cell? ⟨g6, 6, none⟩ = some (.string ⟨List.toArray n2⟩) := HY.out.cell 6; have kx7 : w1.cell? ⟨g5, 7, none⟩ = some (.int .i64 u) := HX.out.cell 7; have ky7 : w1.cell? ⟨g6, 7, none⟩ = some (.int .i64 u2) := HY.out.cell 7; have kx8 : w1.cell? ⟨g5, 8, none⟩ = some (.int .i64 no) := HX.out.cell 8; have ky8 : w1.cell? ⟨g6, 8, none⟩ = some (.int .i64 no2) := HY.out.cell 8; have hcv1 := run_bytes_str (P := Tryz.prog) w1 26 5 Tryz.underlying26 Tryz.underlying5 (RD1.out w1 HB.out) a.length e rfl 9 Tryz.underlying9; have hcv2 := run_bytes_str (P := Tryz.prog) w1 26 5 Tryz.underlying26 Tryz.underlying5 (RD2.out w1 HB.out) a2.length e2 rfl 9 Tryz.underlying9)
      go_ret
      exact ⟨by rw [E.out]; rfl, HB.out⟩
    | true =>
      rw [e0] at T1
      have e5 := Lib.hid (of_decide_eq_true e0)
      clear e0
      by_cases qa : a = a2
      · subst qa
        have ba : (a == a) = true := by simp
        by_cases qr : r = r2
        · subst qr
          have br : (r == r) = true := by simp
          by_cases qn : n = n2
          · subst qn
            have bn : (n == n) = true := by simp
            by_cases qu : u = u2
            · subst qu
              have bu : (u == u) = true := by simp
              by_cases qno : no = no2
              · subst qno
                have bno : (no == no) = true := by simp
                have E := Lib.hid (show decide ((⟨t, a, (r, n), u, no⟩ : Tg) = ⟨t2, a, (r, n), u, no⟩) = true from decide_eq_true (by rw [e5.out]))
                go_wp2_with (go_at_call 50; refine Calls.mono (T1.out _ HB.out) ?_; rintro e3 w1 ⟨rfl, hb⟩; replace HX := Lib.hid (HX.out.below hb); replace HY := Lib.hid (HY.out.below hb); replace HB := Lib.hid (HB.out.trans (hb.mono HB.out.size)); clear hb T1; clear kx0 ky0 kx1 ky1 kx2 ky2 kx3 ky3 kx4 ky4 kx5 ky5 kx6 ky6 kx7 ky7 kx8 ky8; have kx4 : w1.cell? ⟨g5, 4, none⟩ = some (.slice D a.length e) := HX.out.cell 4; have ky4 : w1.cell? ⟨g6, 4, none⟩ = some (.slice D2 a.length e2) := HY.out.cell 4; have kx5 : w1.cell? ⟨g5, 5, none⟩ = some (.string ⟨List.toArray r⟩) := HX.out.cell 5; have ky5 : w1.cell? ⟨g6, 5, none⟩ = some (.string ⟨List.toArray r⟩) := HY.out.cell 5; have kx6 : w1.cell? ⟨g5, 6, none⟩ = some (.string ⟨List.toArray n⟩) := HX.out.cell 6; have ky6 : w1.cell? ⟨g6, 6, none⟩ = some (.string ⟨List.toArray n⟩) := HY.out.cell 6; have kx7 : w1.cell? ⟨g5, 7, none⟩ = some (.int .i64 u) := HX.out.cell 7; have ky7 : w1.cell? ⟨g6, 7, none⟩ = some (.int .i64 u) := HY.out.cell 7; have kx8 : w1.cell? ⟨g5, 8, none⟩ = some (.int .i64 no) := HX.out.cell 8; have ky8 : w1.cell? ⟨g6, 8, none⟩ = some (.int .i64 no) := HY.out.cell 8; have hcv1 := run_bytes_str (P := Tryz.prog) w1 26 5 Tryz.underlying26 Tryz.underlying5 (RD1.out w1 HB.out) a.length e rfl 9 Tryz.underlying9; have hcv2 := run_bytes_str (P := Tryz.prog) w1 26 5 Tryz.underlying26 Tryz.underlying5 (RD2.out w1 HB.out) a.length e2 rfl 9 Tryz.underlying9)
                go_ret
                exact ⟨by rw [E.out]; rfl, HB.out⟩
              · have bno : (no == no2) = false := by simpa using qno
                have E := Lib.hid (show decide ((⟨t, a, (r, n), u, no⟩ : Tg) = ⟨t2, a, (r, n), u, no2⟩) = false from decide_eq_false (fun h => qno (congrArg Tg.no h)))
                go_wp2_with (go_at_call 50; refine Calls.mono (T1.out _ HB.out) ?_; rintro e3 w1 ⟨rfl, hb⟩; replace HX := Lib.hid (HX.out.below hb); replace HY := Lib.hid (HY.out.below hb); replace HB := Lib.hid (HB.out.trans (hb.mono HB.out.size)); clear hb T1; clear kx0 ky0 kx1 ky1 kx2 ky2 kx3 ky3 kx4 ky4 kx5 ky5 kx6 ky6 kx7 ky7 kx8 ky8; have kx4 : w1.cell? ⟨g5, 4, none⟩ = some (.slice D a.length e) := HX.out.cell 4; have ky4 : w1.cell? ⟨g6, 4, none⟩ = some (.slice D2 a.length e2) := HY.out.cell 4; have kx5 : w1.cell? ⟨g5, 5, none⟩ = some (.string ⟨List.toArray r⟩) := HX.out.cell 5; have ky5 : w1.cell? ⟨g6, 5, none⟩ = some (.string ⟨List.toArray r⟩) := HY.out.cell 5; have kx6 : w1.cell? ⟨g5, 6, none⟩ = some (.string ⟨List.toArray n⟩) := HX.out.cell 6; have ky6 : w1.cell? ⟨g6, 6, none⟩ = some (.string ⟨List.toArray n⟩) := HY.out.cell 6; have kx7 : w1.cell? ⟨g5, 7, none⟩ = some (.int .i64 u) := HX.out.cell 7; have ky7 : w1.cell? ⟨g6, 7, none⟩ = some (.int .i64 u) := HY.out.cell 7; have kx8 : w1.cell? ⟨g5, 8, none⟩ = some (.int .i64 no) := HX.out.cell 8; have ky8 : w1.cell? ⟨g6, 8, none⟩ = some (.int .i64 no2) := HY.out.cell 8; have hcv1 := run_bytes_str (P := Tryz.prog) w1 26 5 Tryz.underlying26 Tryz.underlying5 (RD1.out w1 HB.out) a.length e rfl 9 Tryz.underlying9; have hcv2 := run_bytes_str (P := Tryz.prog) w1 26 5 Tryz.underlying26 Tryz.underlying5 (RD2.out w1 HB.out) a.length e2 rfl 9 Tryz.underlying9)
                go_ret
                exact ⟨by rw [E.out]; rfl, HB.out⟩
            · have bu : (u == u2) = false := by simpa using qu
              have E := Lib.hid (show decide ((⟨t, a, (r, n), u, no⟩ : Tg) = ⟨t2, a, (r, n), u2, no2⟩) = false from decide_eq_false (fun h => qu (congrArg Tg.u h)))
              go_wp2_with (go_at_call 50; refine Calls.mono (T1.out _ HB.out) ?_; rintro e3 w1 ⟨rfl, hb⟩; replace HX := Lib.hid (HX.out.below hb); replace HY := Lib.hid (HY.out.below hb); replace HB := Lib.hid (HB.out.trans (hb.mono HB.out.size)); clear hb T1; clear kx0 ky0 kx1 ky1 kx2 ky2 kx3 ky3 kx4 ky4 kx5 ky5 kx6 ky6 kx7 ky7 kx8 ky8; have kx4 : w1.cell? ⟨g5, 4, none⟩ = some (.slice D a.length e) := HX.out.cell 4; have ky4 : w1.cell? ⟨g6, 4, none⟩ = some (.slice D2 a.length e2) := HY.out.cell 4; have kx5 : w1.cell? ⟨g5, 5, none⟩ = some (.string ⟨List.toArray r⟩) := HX.out.cell 5; have ky5 : w1.cell? ⟨g6, 5, none⟩ = some (.string ⟨List.toArray r⟩) := HY.out.cell 5; have kx6 : w1.cell? ⟨g5, 6, none⟩ = some (.string ⟨List.toArray n⟩) := HX.out.cell 6; have ky6 : w1.cell? ⟨g6, 6, none⟩ = some (.string ⟨List.toArray n⟩) := HY.out.cell 6; have kx7 : w1.cell? ⟨g5, 7, none⟩ = some (.int .i64 u) := HX.out.cell 7; have ky7 : w1.cell? ⟨g6, 7, none⟩ = some (.int .i64 u2) := HY.out.cell 7; have kx8 : w1.cell? ⟨g5, 8, none⟩ = some (.int .i64 no) := HX.out.cell 8; have ky8 : w1.cell? ⟨g6, 8, none⟩ = some (.int .i64 no2) := HY.out.cell 8; have hcv1 := run_bytes_str (P := Tryz.prog) w1 26 5 Tryz.underlying26 Tryz.underlying5 (RD1.out w1 HB.out) a.length e rfl 9 Tryz.underlying9; have hcv2 := run_bytes_str (P := Tryz.prog) w1 26 5 Tryz.underlying26 Tryz.underlying5 (RD2.out w1 HB.out) a.length e2 rfl 9 Tryz.underlying9)
              go_ret
              exact ⟨by rw [E.out]; rfl, HB.out⟩
          · have bn : (n == n2) = false := by simpa using qn
            have E := Lib.hid (show decide ((⟨t, a, (r, n), u, no⟩ : Tg) = ⟨t2, a, (r, n2), u2, no2⟩) = false from decide_eq_false (fun h => qn (congrArg (fun t => t.s.2) h)))
            go_wp2_with (go_at_call 50; refine Calls.mono (T1.out _ HB.out) ?_; rintro e3 w1 ⟨rfl, hb⟩; replace HX := Lib.hid (HX.out.below hb); replace HY := Lib.hid (HY.out.below hb); replace HB := Lib.hid (HB.out.trans (hb.mono HB.out.size)); clear hb T1; clear kx0 ky0 kx1 ky1 kx2 ky2 kx3 ky3 kx4 ky4 kx5 ky5 kx6 ky6 kx7 ky7 kx8 ky8; have kx4 : w1.cell? ⟨g5, 4, none⟩ = some (.slice D a.length e) := HX.out.cell 4; have ky4 : w1.cell? ⟨g6, 4, none⟩ = some (.slice D2 a.length e2) := HY.out.cell 4; have kx5 : w1.cell? ⟨g5, 5, none⟩ = some (.string ⟨List.toArray r⟩) := HX.out.cell 5; have ky5 : w1.cell? ⟨g6, 5, none⟩ = some (.string ⟨List.toArray r⟩) := HY.out.cell 5; have kx6 : w1.cell? ⟨g5, 6, none⟩ = some (.string ⟨List.toArray n⟩) := HX.out.cell 6; have ky6 : w1.cell? ⟨g6, 6, none⟩ = some (.string ⟨List.toArray n2⟩) := HY.out.cell 6; have kx7 : w1.cell? ⟨g5, 7, none⟩ = some (.int .i64 u) := HX.out.cell 7; have ky7 : w1.cell? ⟨g6, 7, none⟩ = some (.int .i64 u2) := HY.out.cell 7; have kx8 : w1.cell? ⟨g5, 8, none⟩ = some (.int .i64 no) := HX.out.cell 8; have ky8 : w1.cell? ⟨g6, 8, none⟩ = some (.int .i64 no2) := HY.out.cell 8; have hcv1 := run_bytes_str (P := Tryz.prog) w1 26 5 Tryz.underlying26 Tryz.underlying5 (RD1.out w1 HB.out) a.length e rfl 9 Tryz.underlying9; have hcv2 := run_bytes_str (P := Tryz.prog) w1 26 5 Tryz.underlying26 Tryz.underlying5 (RD2.out w1 HB.out) a.length e2 rfl 9 Tryz.underlying9)
            go_ret
            exact ⟨by rw [E.out]; rfl, HB.out⟩
        · have br : (r == r2) = false := by simpa using qr
          have E := Lib.hid (show decide ((⟨t, a, (r, n), u, no⟩ : Tg) = ⟨t2, a, (r2, n2), u2, no2⟩) = false from decide_eq_false (fun h => qr (congrArg (fun t => t.s.1) h)))
          go_wp2_with (go_at_call 50; refine Calls.mono (T1.out _ HB.out) ?_; rintro e3 w1 ⟨rfl, hb⟩; replace HX := Lib.hid (HX.out.below hb); replace HY := Lib.hid (HY.out.below hb); replace HB := Lib.hid (HB.out.trans (hb.mono HB.out.size)); clear hb T1; clear kx0 ky0 kx1 ky1 kx2 ky2 kx3 ky3 kx4 ky4 kx5 ky5 kx6 ky6 kx7 ky7 kx8 ky8; have kx4 : w1.cell? ⟨g5, 4, none⟩ = some (.slice D a.length e) := HX.out.cell 4; have ky4 : w1.cell? ⟨g6, 4, none⟩ = some (.slice D2 a.length e2) := HY.out.cell 4; have kx5 : w1.cell? ⟨g5, 5, none⟩ = some (.string ⟨List.toArray r⟩) := HX.out.cell 5; have ky5 : w1.cell? ⟨g6, 5, none⟩ = some (.string ⟨List.toArray r2⟩) := HY.out.cell 5; have kx6 : w1.cell? ⟨g5, 6, none⟩ = some (.string ⟨List.toArray n⟩) := HX.out.cell 6; have ky6 : w1.cell? ⟨g6, 6, none⟩ = some (.string ⟨List.toArray n2⟩) := HY.out.cell 6; have kx7 : w1.cell? ⟨g5, 7, none⟩ = some (.int .i64 u) := HX.out.cell 7; have ky7 : w1.cell? ⟨g6, 7, none⟩ = some (.int .i64 u2) := HY.out.cell 7; have kx8 : w1.cell? ⟨g5, 8, none⟩ = some (.int .i64 no) := HX.out.cell 8; have ky8 : w1.cell? ⟨g6, 8, none⟩ = some (.int .i64 no2) := HY.out.cell 8; have hcv1 := run_bytes_str (P := Tryz.prog) w1 26 5 Tryz.underlying26 Tryz.underlying5 (RD1.out w1 HB.out) a.length e rfl 9 Tryz.underlying9; have hcv2 := run_bytes_str (P := Tryz.prog) w1 26 5 Tryz.underlying26 Tryz.underlying5 (RD2.out w1 HB.out) a.length e2 rfl 9 Tryz.underlying9)
          go_ret
          exact ⟨by rw [E.out]; rfl, HB.out⟩
      · have ba : (a == a2) = false := by simpa using qa
        have E := Lib.hid (show decide ((⟨t, a, (r, n), u, no⟩ : Tg) = ⟨t2, a2, (r2, n2), u2, no2⟩) = false from decide_eq_false (fun h => qa (congrArg Tg.a h)))
        go_wp2_with (go_at_call 50; refine Calls.mono (T1.out _ HB.out) ?_; rintro e3 w1 ⟨rfl, hb⟩; replace HX := Lib.hid (HX.out.below hb); replace HY := Lib.hid (HY.out.below hb); replace HB := Lib.hid (HB.out.trans (hb.mono HB.out.size)); clear hb T1; clear kx0 ky0 kx1 ky1 kx2 ky2 kx3 ky3 kx4 ky4 kx5 ky5 kx6 ky6 kx7 ky7 kx8 ky8; have kx4 : w1.cell? ⟨g5, 4, none⟩ = some (.slice D a.length e) := HX.out.cell 4; have ky4 : w1.cell? ⟨g6, 4, none⟩ = some (.slice D2 a2.length e2) := HY.out.cell 4; have kx5 : w1.cell? ⟨g5, 5, none⟩ = some (.string ⟨List.toArray r⟩) := HX.out.cell 5; have ky5 : w1.cell? ⟨g6, 5, none⟩ = some (.string ⟨List.toArray r2⟩) := HY.out.cell 5; have kx6 : w1.cell? ⟨g5, 6, none⟩ = some (.string ⟨List.toArray n⟩) := HX.out.cell 6; have ky6 : w1.cell? ⟨g6, 6, none⟩ = some (.string ⟨List.toArray n2⟩) := HY.out.cell 6; have kx7 : w1.cell? ⟨g5, 7, none⟩ = some (.int .i64 u) := HX.out.cell 7; have ky7 : w1.cell? ⟨g6, 7, none⟩ = some (.int .i64 u2) := HY.out.cell 7; have kx8 : w1.cell? ⟨g5, 8, none⟩ = some (.int .i64 no) := HX.out.cell 8; have ky8 : w1.cell? ⟨g6, 8, none⟩ = some (.int .i64 no2) := HY.out.cell 8; have hcv1 := run_bytes_str (P := Tryz.prog) w1 26 5 Tryz.underlying26 Tryz.underlying5 (RD1.out w1 HB.out) a.length e rfl 9 Tryz.underlying9; have hcv2 := run_bytes_str (P := Tryz.prog) w1 26 5 Tryz.underlying26 Tryz.underlying5 (RD2.out w1 HB.out) a2.length e2 rfl 9 Tryz.underlying9)
        go_ret
        exact ⟨by rw [E.out]; rfl, HB.out⟩
theorem nm_k (m : Mg) : (nm m).k = m.k := by
  unfold nm
  split
  · rename_i h; exact h.symm
  · split
    · rename_i h; exact h.symm
    · split
      · rename_i h; exact h.symm
      · split
        · rename_i h; exact h.symm
        · split
          · rename_i h; exact h.symm
          · rfl
end Go.Proofs.YteeabfplnaknfaaGreat.Mc
end

section
set_option linter.unusedVariables false
set_option linter.unusedSimpArgs false
namespace Go.Proofs.YteeabfplnaknfaaGreat.Mc
open Go.RowKit Go.Proofs.YteeabfplnaknfaaGreat.Mem Go.Proofs.YteeabfplnaknfaaGreat.DerP Go.Proofs.YteeabfplnaknfaaGreat.Ms

theorem nm_1 (m : Mg) (h : m.k = 1) : nm m = ⟨1, m.aq, tg0, re0, ap0, fa0⟩ := by
  unfold nm
  rw [if_pos h]
theorem nm_2 (m : Mg) (h : m.k = 2) : nm m = ⟨2, as0, m.tg, re0, ap0, fa0⟩ := by
  unfold nm
  rw [if_neg (show ¬ m.k = 1 by omega)]
  rw [if_pos h]
theorem nm_3 (m : Mg) (h : m.k = 3) : nm m = ⟨3, as0, tg0, m.re, ap0, fa0⟩ := by
  unfold nm
  rw [if_neg (show ¬ m.k = 1 by omega)]
  rw [if_neg (show ¬ m.k = 2 by omega)]
  rw [if_pos h]
theorem nm_4 (m : Mg) (h : m.k = 4) : nm m = ⟨4, as0, tg0, re0, m.ap, fa0⟩ := by
  unfold nm
  rw [if_neg (show ¬ m.k = 1 by omega)]
  rw [if_neg (show ¬ m.k = 2 by omega)]
  rw [if_neg (show ¬ m.k = 3 by omega)]
  rw [if_pos h]
theorem nm_5 (m : Mg) (h : m.k = 5) : nm m = ⟨5, as0, tg0, re0, ap0, m.fa⟩ := by
  unfold nm
  rw [if_neg (show ¬ m.k = 1 by omega)]
  rw [if_neg (show ¬ m.k = 2 by omega)]
  rw [if_neg (show ¬ m.k = 3 by omega)]
  rw [if_neg (show ¬ m.k = 4 by omega)]
  rw [if_pos h]
theorem nm_6 (m : Mg) (h1 : m.k ≠ 1) (h2 : m.k ≠ 2) (h3 : m.k ≠ 3) (h4 : m.k ≠ 4) (h5 : m.k ≠ 5) : nm m = ⟨m.k, as0, tg0, re0, ap0, fa0⟩ := by
  unfold nm
  rw [if_neg h1, if_neg h2, if_neg h3, if_neg h4, if_neg h5]
theorem dec_iff {p q : Prop} [Decidable p] [Decidable q] (h : p ↔ q) : decide p = decide q := by
  by_cases hp : p
  · rw [decide_eq_true hp, decide_eq_true (h.1 hp)]
  · rw [decide_eq_false hp, decide_eq_false (fun hq => hp (h.2 hq))]
set_option maxHeartbeats 3200000 in
set_option maxRecDepth 10000 in
theorem rsame8_any (cs ds : Array Value) (m o : Mg) (w : World) (h : MgV w w.heap.size cs m) (g : MgV w w.heap.size ds o) : Calls Tryz.prog 13 #[.agg cs, .agg ds] w fun e w' => e = .returned (.bool (decide (nm m = nm o))) ∧ Below w.heap.size w w' := by
  obtain ⟨pa, pt, pr, pp, pf, rfl, ha, ⟨b1, a1, rfl, ⟨A1, c1, rfl, _, r1⟩, ⟨A2, c2, rfl, _, r2⟩⟩, ⟨b3, a3, rfl, ⟨A3, c3, rfl, _, r3⟩, ⟨A4, c4, rfl, _, r4⟩⟩, ⟨b5, a5, rfl, ⟨A5, c5, rfl, _, r5⟩, ⟨A6, c6, rfl, _, r6⟩⟩, hf⟩ := h
  obtain ⟨qa, qt, qr, qp, qf, rfl, ga, ⟨e1, f1, rfl, ⟨B1, d1, rfl, _, s1⟩, ⟨B2, d2, rfl, _, s2⟩⟩, ⟨e3, f3, rfl, ⟨B3, d3, rfl, _, s3⟩, ⟨B4, d4, rfl, _, s4⟩⟩, ⟨e5, f5, rfl, ⟨B5, d5, rfl, _, s5⟩, ⟨B6, d6, rfl, _, s6⟩⟩, gf⟩ := g
  obtain rfl := ha; obtain rfl := hf; obtain rfl := ga; obtain rfl := gf
  by_cases hk : m.k = o.k
  · by_cases h1 : m.k = 1
    · have h1' : o.k = 1 := by omega
      rw [nm_1 m h1, nm_1 o h1', dec_iff (p := (⟨1, m.aq, tg0, re0, ap0, fa0⟩ : Mg) = ⟨1, o.aq, tg0, re0, ap0, fa0⟩) (q := m.aq = o.aq) ⟨fun h => by injection h, fun h => by rw [h]⟩, h1, h1']
      exact rsame_as m.aq o.aq _ _ _ _ _ _ _ _ _ _ _ _ _ _ _ _ _ _ _ _ _ _ _ _ _ _ _ _ _ _ _ _ _ _ _ _ _ _ _ _ _ _ _ _ _ _ w
    by_cases h2 : m.k = 2
    · have h2' : o.k = 2 := by omega
      rw [nm_2 m h2, nm_2 o h2', dec_iff (p := (⟨2, as0, m.tg, re0, ap0, fa0⟩ : Mg) = ⟨2, as0, o.tg, re0, ap0, fa0⟩) (q := m.tg = o.tg) ⟨fun h => by injection h, fun h => by rw [h]⟩, h2, h2']
      exact rsame_tg m.tg.t o.tg.t m.tg.a o.tg.a m.tg.s.1 o.tg.s.1 m.tg.s.2 o.tg.s.2 m.tg.u o.tg.u m.tg.no o.tg.no A1 B1 A2 B2 c1 d1 c2 d2 _ _ _ _ _ _ _ _ _ _ _ _ _ _ _ _ _ _ _ _ _ _ _ _ _ _ _ _ _ _ _ _ _ _ _ _ _ _ _ _ w r1 s1 r2 s2
    by_cases h3 : m.k = 3
    · have h3' : o.k = 3 := by omega
      rw [nm_3 m h3, nm_3 o h3', dec_iff (p := (⟨3, as0, tg0, m.re, ap0, fa0⟩ : Mg) = ⟨3, as0, tg0, o.re, ap0, fa0⟩) (q := m.re = o.re) ⟨fun h => by injection h, fun h => by rw [h]⟩, h3, h3']
      exact rsame_re m.re o.re A3 B3 A4 B4 c3 d3 c4 d4 _ _ _ _ _ _ _ _ _ _ _ _ _ _ _ _ _ _ _ _ _ _ _ _ _ _ _ _ _ _ _ _ _ _ _ _ _ _ _ _ _ _ _ _ w r3 s3 r4 s4
    by_cases h4 : m.k = 4
    · have h4' : o.k = 4 := by omega
      rw [nm_4 m h4, nm_4 o h4', dec_iff (p := (⟨4, as0, tg0, re0, m.ap, fa0⟩ : Mg) = ⟨4, as0, tg0, re0, o.ap, fa0⟩) (q := m.ap = o.ap) ⟨fun h => by injection h, fun h => by rw [h]⟩, h4, h4']
      exact rsame_ap m.ap.t o.ap.t m.ap.a o.ap.a A5 B5 A6 B6 c5 d5 c6 d6 _ _ _ _ _ _ _ _ _ _ _ _ _ _ _ _ _ _ _ _ _ _ _ _ _ _ _ _ _ _ _ _ _ _ _ _ _ _ _ _ _ _ _ _ _ _ _ _ w r5 s5 r6 s6
    by_cases h5 : m.k = 5
    · have h5' : o.k = 5 := by omega
      rw [nm_5 m h5, nm_5 o h5', dec_iff (p := (⟨5, as0, tg0, re0, ap0, m.fa⟩ : Mg) = ⟨5, as0, tg0, re0, ap0, o.fa⟩) (q := m.fa = o.fa) ⟨fun h => by injection h, fun h => by rw [h]⟩, h5, h5']
      exact rsame_fa m.fa o.fa _ _ _ _ _ _ _ _ _ _ _ _ _ _ _ _ _ _ _ _ _ _ _ _ _ _ _ _ _ _ _ _ _ _ _ _ _ _ _ _ _ _ _ _ _ _ _ _ _ _ _ _ _ _ w
    rw [nm_6 m h1 h2 h3 h4 h5, nm_6 o (by omega) (by omega) (by omega) (by omega) (by omega), ← hk, decide_eq_true rfl]
    exact rsame_other m.k _ _ _ _ _ _ _ _ _ _ _ _ _ _ _ _ _ _ _ _ _ _ _ _ _ _ _ _ _ _ _ _ _ _ _ _ _ _ _ _ _ _ _ _ _ _ _ _ _ _ _ _ _ _ _ _ _ _ w h1 h2 h3 h4 h5
  · rw [show decide (nm m = nm o) = false from decide_eq_false (fun e => hk (by rw [← nm_k m, e, nm_k o]))]
    exact rsame_no m.k o.k _ _ _ _ _ _ _ _ _ _ _ _ _ _ _ _ _ _ _ _ _ _ _ _ _ _ _ _ _ _ _ _ _ _ _ _ _ _ _ _ _ _ _ _ _ _ _ _ _ _ _ _ _ _ _ _ _ _ w hk
end Go.Proofs.YteeabfplnaknfaaGreat.Mc
end
