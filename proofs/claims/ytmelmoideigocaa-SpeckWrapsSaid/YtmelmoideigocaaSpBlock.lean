/-
  A Key is made; a block is turned and turned back.
-/
import Derived.Test.YtmelmoideigocaaSpOnce
set_option linter.unusedVariables false
namespace Go.Proofs.Ytmelmoideigocaa.Sp
open Go.RowKit Go.Proofs.Ytmelmoideigocaa.Mem

theorem block_any (b : Nat) (ks : Nat → UInt8) (m : Bool) (x y : Wd) (w : World) (hK : Key w b ks m) :
    Calls Try.prog 14 #[.pointer (some ⟨b, 0, none⟩), wv x, wv y] w fun e w' => e = .returned (.tuple #[wv (blockK (kw ks) (x, y)).1, wv (blockK (kw ks) (x, y)).2]) ∧ Key w' b ks true ∧ w.grownBy w' (some b) ∧ (m = true → w' = w) := by
  have cn := need_any b ks m w hK
  clear hK
  go_enter Try.func14, Try.ntmps14
  go_wp2_with (first | (go_at_call 24; refine Calls.mono cn ?_; rintro e w2 ⟨rfl, hK2, hg2, he2⟩; have ct := turn_any b ks x y w2 hK2; have HK2 := Lib.hid hK2; clear hK2; have HG2 := Lib.hid hg2; clear hg2; have HE2 := Lib.hid he2; clear he2) | (go_at_call 25; refine Calls.mono ct ?_; rintro e w' ⟨rfl, rfl⟩))
  go_ret2
  exact ⟨rfl, HK2.out, HG2.out, HE2.out⟩
theorem block_nil (x y : Wd) (w : World) :
    Calls Try.prog 14 #[.pointer none, wv x, wv y] w fun e w' => e = .returned (.tuple #[.int .u32 0, .int .u32 0]) ∧ w' = w := by
  go_enter Try.func14, Try.ntmps14
  go_wp2
  go_ret2
  exact ⟨rfl, rfl⟩
theorem back_nil (x y : Wd) (w : World) :
    Calls Try.prog 16 #[.pointer none, wv x, wv y] w fun e w' => e = .returned (.tuple #[.int .u32 0, .int .u32 0]) ∧ w' = w := by
  go_enter Try.func16, Try.ntmps16
  go_wp2
  go_ret2
  exact ⟨rfl, rfl⟩
set_option maxRecDepth 100000 in
set_option maxHeartbeats 1600000 in
theorem back_any (b : Nat) (ks : Nat → UInt8) (m : Bool) (x y : Wd) (w : World) (hK : Key w b ks m) :
    Calls Try.prog 16 #[.pointer (some ⟨b, 0, none⟩), wv x, wv y] w fun e w' => e = .returned (.tuple #[wv (backK (kw ks) (x, y)).1, wv (backK (kw ks) (x, y)).2]) ∧ Key w' b ks true ∧ w.grownBy w' (some b) ∧ (m = true → w' = w) := by
  have cn := need_any b ks m w hK
  clear hK
  go_enter Try.func16, Try.ntmps16
  go_wp2_with (first | (go_at_call 24; refine Calls.mono cn ?_; rintro e w2 ⟨rfl, hK2, hg2, he2⟩; have HW := Lib.hid (fun i hi => Key.word hK2 i hi); have HK2 := Lib.hid hK2; clear hK2; have HG2 := Lib.hid hg2; clear hg2; have HE2 := Lib.hid he2; clear he2))
  go_loop [1, 2, 8] (fun xv yv iv => ∃ (i : Nat) (x1 y1 : Wd), i ≤ 27 ∧ iv = .int .i64 ((i : Int) - 1) ∧ xv = wv x1 ∧ yv = wv y1 ∧ unN (kw ks) i (x1, y1) = backK (kw ks) (x, y)) (fun _ _ iv => (intOf iv + 1).toNat)
  case atStart => exact ⟨27, x, y, by decide, rfl, rfl, rfl, rfl⟩
  case round =>
    obtain ⟨i, x0, y0, hi, rfl, rfl, rfl, hu⟩ := hrel
    cases i with
    | zero =>
      have hu' : Hid ((x0, y0) = backK (kw ks) (x, y)) := hu
      clear hu
      go_wp2_with fail
      go_ret2
      exact ⟨by rw [← hu'.out]; rfl, HK2.out, HG2.out, HE2.out⟩
    | succ i =>
      have hc : ((i + 1 : Nat) : Int) - 1 = (i : Int) := by omega
      rw [hc]
      have hi0 : (0 : Int) ≤ (i : Int) := by omega
      have hi1 : (i : Int) < 27 := by omega
      have hi2 : i < 27 := by omega
      obtain ⟨k0, ek⟩ : ∃ k0, k0 = kw ks i := ⟨_, rfl⟩
      obtain ⟨s0, es⟩ : ∃ s0, s0 = y0 ^^^ x0 := ⟨_, rfl⟩
      obtain ⟨y1, ey1⟩ : ∃ y1, y1 = rot s0 29 := ⟨_, rfl⟩
      obtain ⟨q0, eq0⟩ : ∃ q0, q0 = x0 ^^^ k0 := ⟨_, rfl⟩
      obtain ⟨q1, eq1⟩ : ∃ q1, q1 = q0 - y1 := ⟨_, rfl⟩
      obtain ⟨x1, ex1⟩ : ∃ x1, x1 = rot q1 8 := ⟨_, rfl⟩
      have ck : w2.cell? ⟨b, 20 + i, none⟩ = some (wv k0) := by rw [ek]; exact HW.out i hi2
      have hx0 : bits .xor .u32 (y0.toNat : Int) (x0.toNat : Int) = (s0.toNat : Int) := by rw [es]; exact xor_w _ _
      have hx1 : bits .xor .u32 (x0.toNat : Int) (k0.toNat : Int) = (q0.toNat : Int) := by rw [eq0]; exact xor_w _ _
      have hx2 : ((q0.toNat : Int) - (y1.toNat : Int)) % 4294967296 = (q1.toNat : Int) := by rw [eq1]; exact sub_w _ _
      have cr3 := right3 s0
      rw [← ey1] at cr3
      have cl8 := left8 q1
      rw [← ex1] at cl8
      have hn : unN (kw ks) i (x1, y1) = backK (kw ks) (x, y) := by rw [← hu, unN, unstep, ← es, ← ek, ← ey1, ← eq0, ← eq1, ← ex1]
      have hn' := Lib.hid hn; clear hn
      have hh := Lib.hid hi2
      clear ek es ey1 eq0 eq1 ex1 hi hu
      go_wp2_with (first | (go_at_call 26; refine Calls.mono (cr3 _) ?_; rintro e w' ⟨rfl, rfl⟩) | (go_at_call 27; refine Calls.mono (cl8 _) ?_; rintro e w' ⟨rfl, rfl⟩))
      go_round
      case rel => exact ⟨i, x1, y1, by have := hh.out; omega, by go_num, rfl, rfl, hn'.out⟩
      case measure => simp [intOf]

theorem Blk.new_of (w : World) (g : Nat) (t : TypeId) (cs cs' : Array Value) (e : cs = cs') (hg : w.heap.size = g) : Blk (w.alloc (.cells cs t)) g t cs' := hg ▸ e ▸ Blk.new w t cs
theorem below_set {B : Nat} {a w : World} (h : Below B a w) {p : Addr} (hp : B ≤ p.block) (u : Value) : Below B a (w.setCell p u) :=
  ⟨h.os, h.tape, h.output, by simpa [World.setCell] using h.size, fun i hi => (Below.heap_setCell w p u i (by omega)).trans (h.block i hi)⟩
theorem results_cell {P : Program} {fn : Func} {tmps : Array Value} {w : World} {v : Value} (t : Nat) (ty : TypeId) (a : Addr) (hres : fn.results = #[.cell t ty]) (ht : tmps.getD t undef = .pointer (some a)) (hl : (loadVar ty a).run P w = .ok v w) :
    (results fn tmps).run P w = .ok v w := by
  have ht' : tmps[t]?.getD undef = .pointer (some a) := by simpa using ht
  simp [results, hres, ht', asAddr, hl]
theorem load_blk {P : Program} {w : World} {g : Nat} {t ty : TypeId} {cs : Array Value} {d : TypeDesc} (h : Blk w g t cs) (hu : P.underlying ty = some d) (hd : d.isRow = true) (hi : (P.info? ty).map (·.size) = some cs.size) :
    (loadVar ty ⟨g, 0, none⟩).run P w = .ok (.agg cs) w := by
  have hc : w.rangeAt g 0 cs.toList := fun j v hv => by rw [Nat.zero_add, h.cell]; simpa using hv
  have := run_loadVar_mid (P := P) w g 0 ty cs.toList d hc hu hd (by simpa using hi)
  simpa using this
/-- a Key's bytes as a value -/
def key16 (ks : Nat → UInt8) : Array Value := ((List.range 16).map (fun i => bv (ks i))).toArray
set_option maxRecDepth 100000 in
set_option maxHeartbeats 1600000 in
theorem new_any (ks : Nat → UInt8) (w : World) : Calls Try.prog 11 #[.agg (key16 ks)] w fun e w' => ∃ b, e = .returned (.pointer (some ⟨b, 0, none⟩)) ∧ w.heap.size ≤ b ∧ Key w' b ks false ∧ Below w.heap.size w w' := by
  have hk : key16 ks = #[bv (ks 0), bv (ks 1), bv (ks 2), bv (ks 3), bv (ks 4), bv (ks 5), bv (ks 6), bv (ks 7), bv (ks 8), bv (ks 9), bv (ks 10), bv (ks 11), bv (ks 12), bv (ks 13), bv (ks 14), bv (ks 15)] := rfl
  rw [hk]
  simp only [bv]
  clear hk
  go_enter Try.func11, Try.ntmps11
  go_wp2
  go_ret
  exact ⟨w.heap.size + 1, rfl, Nat.le_succ _, Blk.new_of (w.alloc _) _ 55 _ (kcells ks 0 0 0 zeroW) (by kernel_rfl) (by simp), ((Below.refl w.heap.size w).alloc (Nat.le_refl _) _).alloc (by simp) _⟩

end Go.Proofs.Ytmelmoideigocaa.Sp
