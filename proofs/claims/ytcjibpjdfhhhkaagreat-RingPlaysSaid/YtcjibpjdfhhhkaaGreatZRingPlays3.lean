import Derived.Deep.RegionHeld3
import Derived.Deep.Cut
import Derived.Deep.CutRange
import Derived.Deep.CutBlock
import Derived.Deep.MidRow
import Derived.StillTailTactics
import Derived.Test.YtcjibpjdfhhhkaaGreatZRingPlays1
import Derived.Test.YtcjibpjdfhhhkaaGreatZRingPlays2
section
set_option linter.unusedVariables false
namespace Go.Proofs.YtcjibpjdfhhhkaaGreat.Sp
open Go.RowKit Go.Proofs.YtcjibpjdfhhhkaaGreat.Mem

def kcells (ks : Nat → UInt8) (d s m : Int) (W : Nat → Wd) : Array Value :=
  ((List.range 16).map (fun i => bv (ks i)) ++ (([.int .u32 d, .int .i32 s, .int .u32 0, .int .u32 m] : List Value) ++ (List.range 27).map (fun j => wv (W j)))).toArray
def KB (w : World) (b : Nat) (ks : Nat → UInt8) (d s m : Int) (W : Nat → Wd) : Prop := Blk w b 151 (kcells ks d s m W)

theorem kcells_key (ks : Nat → UInt8) (d s m : Int) (W : Nat → Wd) (i : Nat) (h : i < 16) : (kcells ks d s m W)[i]? = some (bv (ks i)) := by
  rw [kcells, List.getElem?_toArray, List.getElem?_append_left (by simpa using h)]
  simp [h]
theorem kcells_mid (ks : Nat → UInt8) (d s m : Int) (W : Nat → Wd) (i : Nat) (h : i < 4) : (kcells ks d s m W)[16 + i]? = ([.int .u32 d, .int .i32 s, .int .u32 0, .int .u32 m] : List Value)[i]? := by
  rw [kcells, List.getElem?_toArray, List.getElem?_append_right (by simp), List.getElem?_append_left (by simpa using h)]
  simp
theorem kcells_word (ks : Nat → UInt8) (d s m : Int) (W : Nat → Wd) (i : Nat) (h : i < 27) : (kcells ks d s m W)[20 + i]? = some (wv (W i)) := by
  rw [kcells, List.getElem?_toArray, List.getElem?_append_right (by simp; omega), List.getElem?_append_right (by simp; omega)]
  have : 20 + i - (List.map (fun i => bv (ks i)) (List.range 16)).length - ([.int .u32 d, .int .i32 s, .int .u32 0, .int .u32 m] : List Value).length = i := by simp; omega
  rw [this]
  simp [h]
theorem kcells_set_d (ks : Nat → UInt8) (d s m d' : Int) (W : Nat → Wd) : (kcells ks d s m W).setIfInBounds 16 (.int .u32 d') = kcells ks d' s m W := by
  simp [kcells]
theorem kcells_set_s (ks : Nat → UInt8) (d s m s' : Int) (W : Nat → Wd) : (kcells ks d s m W).setIfInBounds 17 (.int .i32 s') = kcells ks d s' m W := by
  simp [kcells]
theorem kcells_set_m (ks : Nat → UInt8) (d s m m' : Int) (W : Nat → Wd) : (kcells ks d s m W).setIfInBounds 19 (.int .u32 m') = kcells ks d s m' W := by
  simp [kcells]
def upd (W : Nat → Wd) (i : Nat) (v : Wd) (j : Nat) : Wd := if j = i then v else W j
theorem kcells_set_word (ks : Nat → UInt8) (d s m : Int) (W : Nat → Wd) (i : Nat) (v : Wd) : (kcells ks d s m W).setIfInBounds (20 + i) (wv v) = kcells ks d s m (upd W i v) := by
  have e : ((List.range 27).map fun j => wv (W j)).set i (wv v) = (List.range 27).map fun j => wv (upd W i v j) := by
    apply List.ext_getElem?
    intro j
    rw [List.getElem?_set, List.getElem?_map, List.getElem?_map]
    by_cases hj : i = j
    · subst hj
      by_cases h27 : i < 27
      · simp [h27, upd]
      · simp [h27]
    · have hji : ¬ j = i := fun h => hj h.symm
      rw [if_neg hj]
      rcases Nat.lt_or_ge j 27 with h | h
      · simp [h, upd, hji]
      · rw [List.getElem?_eq_none (by simpa using h)]; rfl
  unfold kcells
  rw [List.setIfInBounds_toArray, List.set_append_right _ _ (by simp; omega), List.set_append_right _ _ (by simp; omega)]
  have : 20 + i - (List.map (fun i => bv (ks i)) (List.range 16)).length - ([.int .u32 d, .int .i32 s, .int .u32 0, .int .u32 m] : List Value).length = i := by simp; omega
  rw [this, e]

section
variable {w w' : World} {b : Nat} {ks : Nat → UInt8} {d s m : Int} {W : Nat → Wd}
theorem KB.cell (h : KB w b ks d s m W) (i : Nat) : w.cell? ⟨b, i, none⟩ = (kcells ks d s m W)[i]? := Blk.cell h i
theorem KB.cd (h : KB w b ks d s m W) : w.cell? ⟨b, 16, none⟩ = some (.int .u32 d) := (h.cell 16).trans (kcells_mid ks d s m W 0 (by decide))
theorem KB.cs (h : KB w b ks d s m W) : w.cell? ⟨b, 17, none⟩ = some (.int .i32 s) := (h.cell 17).trans (kcells_mid ks d s m W 1 (by decide))
theorem KB.cm (h : KB w b ks d s m W) : w.cell? ⟨b, 19, none⟩ = some (.int .u32 m) := (h.cell 19).trans (kcells_mid ks d s m W 3 (by decide))
theorem KB.cw (h : KB w b ks d s m W) (i : Nat) (hi : i < 27) : w.cell? ⟨b, 20 + i, none⟩ = some (wv (W i)) := (h.cell _).trans (kcells_word ks d s m W i hi)
theorem KB.ck (h : KB w b ks d s m W) (i : Nat) (hi : i < 16) : w.cell? ⟨b, i, none⟩ = some (bv (ks i)) := (h.cell _).trans (kcells_key ks d s m W i hi)
theorem KB.fz (h : KB w b ks d s m W) (i : Nat) : w.frozen? ⟨b, i, none⟩ = false := Blk.frozen h i
theorem KB.set_d (h : KB w b ks d s m W) (d' : Int) : KB (w.setCell ⟨b, 16, none⟩ (.int .u32 d')) b ks d' s m W := by
  have := Blk.set h 16 (.int .u32 d'); rwa [kcells_set_d] at this
theorem KB.set_s (h : KB w b ks d s m W) (s' : Int) : KB (w.setCell ⟨b, 17, none⟩ (.int .i32 s')) b ks d s' m W := by
  have := Blk.set h 17 (.int .i32 s'); rwa [kcells_set_s] at this
theorem KB.set_m (h : KB w b ks d s m W) (m' : Int) : KB (w.setCell ⟨b, 19, none⟩ (.int .u32 m')) b ks d s m' W := by
  have := Blk.set h 19 (.int .u32 m'); rwa [kcells_set_m] at this
theorem KB.set_word (h : KB w b ks d s m W) (i : Nat) (v : Wd) : KB (w.setCell ⟨b, 20 + i, none⟩ (wv v)) b ks d s m (upd W i v) := by
  have := Blk.set h (20 + i) (wv v); rwa [kcells_set_word] at this
theorem KB.lt (h : KB w b ks d s m W) : b < w.heap.size := Blk.lt h
theorem KB.drewN (h : KB w b ks d s m W) (n : Nat) : KB (w.drewN n) b ks d s m W := h
theorem KB.drew (h : KB w b ks d s m W) : KB w.drew b ks d s m W := h
theorem KB.below (h : KB w b ks d s m W) (hb : Below w.heap.size w w') : KB w' b ks d s m W := Blk.below h hb
theorem KB.grown {row : Option Nat} (h : KB w b ks d s m W) (hb : w.grownBy w' row) (hg : row ≠ some b) : KB w' b ks d s m W := Blk.grown h hb hg
end

theorem disable (w : World) : (callFunc 102 #[]).run Tryz.prog w = .ok (.value (.tuple #[])) w := run_call_mark0 Tryz.func102 (by kernel_rfl) (by kernel_rfl) (by kernel_rfl) .disable (by kernel_rfl) w
theorem enable (w : World) : (callFunc 104 #[]).run Tryz.prog w = .ok (.value (.tuple #[])) w := run_call_mark0 Tryz.func104 (by kernel_rfl) (by kernel_rfl) (by kernel_rfl) .enable (by kernel_rfl) w
theorem acquire (a : Addr) (w : World) : (callFunc 105 #[.pointer (some a)]).run Tryz.prog w = .ok (.value (.tuple #[])) w := run_call_marked Tryz.func105 (by kernel_rfl) (by kernel_rfl) (by kernel_rfl) .acquire (by kernel_rfl) a w
theorem releaseMerge (a : Addr) (w : World) : (callFunc 107 #[.pointer (some a)]).run Tryz.prog w = .ok (.value (.tuple #[])) w := run_call_marked Tryz.func107 (by kernel_rfl) (by kernel_rfl) (by kernel_rfl) .releaseMerge (by kernel_rfl) a w

theorem store_true (a : Addr) (x : Value) (w : World) (hc : w.cell? a = some x) (hz : w.frozen? a = false) :
    Calls Tryz.prog 92 #[.pointer (some a), .bool true] w fun e w' => e = .returned (.tuple #[]) ∧ w' = w.drew.setCell a (.int .u32 1) := by
  have hc' : w.drew.cell? a = some x := by go_simp
  have hz' : w.drew.frozen? a = false := by go_simp
  have hst := run_call_store (P := Tryz.prog) Tryz.func99 (by kernel_rfl) (by kernel_rfl) (by kernel_rfl) (by kernel_rfl) (k := .u32) (y := 1) hc' hz'
  go_enter Tryz.func92, Tryz.ntmps92
  go_wp2
  go_region_calls
  all_goals (go_end0; exact ⟨rfl, rfl⟩)
theorem store_deferred (a : Addr) (x : Value) (u : FrameMode) (w : World) (hc : w.cell? a = some x) (hz : w.frozen? a = false) :
    CallsD Tryz.prog 92 #[.pointer (some a), .bool true] u w fun e u' w' => u' = u ∧ (e = .returned (.tuple #[]) ∧ w' = w.drew.setCell a (.int .u32 1)) := by
  have hc' : w.drew.cell? a = some x := by go_simp
  have hz' : w.drew.frozen? a = false := by go_simp
  have hst := run_call_store (P := Tryz.prog) Tryz.func99 (by kernel_rfl) (by kernel_rfl) (by kernel_rfl) (by kernel_rfl) (k := .u32) (y := 1) hc' hz'
  go_enter_d Tryz.func92, Tryz.ntmps92
  go_wp2
  go_region_calls
  all_goals (go_end0; exact ⟨rfl, rfl⟩)
theorem load_flag (a : Addr) (d : Int) (w : World) (hc : w.cell? a = some (.int .u32 d)) (x : Bool) (hx : (d != 0) = x) :
    Calls Tryz.prog 76 #[.pointer (some a)] w fun e w' => e = .returned (.bool x) ∧ w' = w := by
  have hl := run_call_load (P := Tryz.prog) Tryz.func89 (by kernel_rfl) (by kernel_rfl) (by kernel_rfl) .u32 (by kernel_rfl) hc
  go_enter Tryz.func76, Tryz.ntmps76
  go_wp2
  go_ret
  exact ⟨rfl, rfl⟩
set_option maxRecDepth 100000 in
theorem unlock_deferred (a : Addr) (u : FrameMode) (w : World) (hc : w.cell? a = some (.int .i32 1)) (hz : w.frozen? a = false) :
    CallsD Tryz.prog 91 #[.pointer (some a)] u w fun e u' w' => u' = u ∧ (e = .returned (.tuple #[]) ∧ w' = w.setCell a (.int .i32 0)) := by
  have hd := disable
  have he := enable
  have hr := releaseMerge
  have hadd := run_call_add (P := Tryz.prog) Tryz.func108 (by kernel_rfl) (by kernel_rfl) (by kernel_rfl) .i32 (by kernel_rfl) (y := -1) (s := 0) hc hz (by simp [go_sem]; rfl)
  have hcv := run_convert_to_unsafe (P := Tryz.prog) (src := 172) (dst := 176) Tryz.underlying172 Tryz.underlying176 (by kernel_rfl) hc
  go_enter_d Tryz.func91, Tryz.ntmps91
  go_wp2
  go_end0
  go_wp2
  go_end0
  exact ⟨rfl, rfl⟩
set_option maxRecDepth 100000 in
theorem lock_free (a : Addr) (w : World) (hc : w.cell? a = some (.int .i32 0)) (hz : w.frozen? a = false) :
    Calls Tryz.prog 90 #[.pointer (some a)] w fun e w' => e = .returned (.tuple #[]) ∧ w' = w.setCell a (.int .i32 1) := by
  have hd := disable
  have he := enable
  have ha := acquire
  have hcas := run_call_cas_hit (P := Tryz.prog) Tryz.func103 (by kernel_rfl) (by kernel_rfl) (by kernel_rfl) .i32 (by kernel_rfl) (y := 1) hc hz
  have hc' : (w.setCell a (.int .i32 1)).cell? a = some (.int .i32 1) := World.cell?_setCell_same w a _ hc
  have hcv := run_convert_to_unsafe (P := Tryz.prog) (src := 172) (dst := 176) Tryz.underlying172 Tryz.underlying176 (by kernel_rfl) hc'
  go_enter Tryz.func90, Tryz.ntmps90
  go_wp2
  first | go_end0 | (simp only [Exit.inBlock, Exit.then]; refine bodyPost_ret (results_none rfl _ _ _) rfl ?_) | refine bodyPost_ret (results_none rfl _ _ _) rfl ?_
  go_wp2
  go_end0
  exact ⟨rfl, rfl⟩
end Go.Proofs.YtcjibpjdfhhhkaaGreat.Sp
end

section
set_option linter.unusedVariables false
namespace Go.Proofs.YtcjibpjdfhhhkaaGreat.Sp
open Go.RowKit Go.Proofs.YtcjibpjdfhhhkaaGreat.Mem

def Drawn (w w' : World) : Prop := ∃ n, w' = w.drewN n
theorem Drawn.refl (w : World) : Drawn w w := ⟨0, rfl⟩
theorem word_any (b o : Nat) (n c : Nat) (b0 b1 b2 b3 : UInt8) (w : World) (hn : 4 ≤ n)
    (h0 : w.cell? ⟨b, o, none⟩ = some (bv b0)) (h1 : w.cell? ⟨b, o + 1, none⟩ = some (bv b1)) (h2 : w.cell? ⟨b, o + 2, none⟩ = some (bv b2)) (h3 : w.cell? ⟨b, o + 3, none⟩ = some (bv b3)) :
    Calls Tryz.prog 93 #[.slice (some ⟨b, o, none⟩) n c] w fun e w' => e = .returned (wv (le4 b0 b1 b2 b3)) ∧ w' = w.drew := by
  have k0 : (0 : Int) < n := by omega
  have k1 : (1 : Int) < n := by omega
  have k2 : (2 : Int) < n := by omega
  have k3 : (3 : Int) < n := by omega
  have k4 : 0 < n := by omega
  have k5 : 1 < n := by omega
  have k6 : 2 < n := by omega
  have k7 : 3 < n := by omega
  have hn' := Lib.hid hn; clear hn
  simp only [bv] at h0 h1 h2 h3
  have hle := le4_or b0 b1 b2 b3
  have hwr := IntKind.wrap_u32
  have m0 : (b0.toNat : Int) % 4294967296 = b0.toNat := by have := u8_le b0; omega
  have m1 : (b1.toNat : Int) % 4294967296 = b1.toNat := by have := u8_le b1; omega
  have m2 : (b2.toNat : Int) % 4294967296 = b2.toNat := by have := u8_le b2; omega
  have m3 : (b3.toNat : Int) % 4294967296 = b3.toNat := by have := u8_le b3; omega
  go_enter Tryz.func93, Tryz.ntmps93
  go_wp2_with fail
  go_region_held3 (fun w' => w'.cell? ⟨b, o, none⟩ = some (.int .u8 b0.toNat) ∧ w'.cell? ⟨b, o + 1, none⟩ = some (.int .u8 b1.toNat) ∧ w'.cell? ⟨b, o + 2, none⟩ = some (.int .u8 b2.toNat) ∧ w'.cell? ⟨b, o + 3, none⟩ = some (.int .u8 b3.toNat)) (go_keep) (fail)
  all_goals (go_wp2; go_ret; exact ⟨rfl, rfl⟩)
end Go.Proofs.YtcjibpjdfhhhkaaGreat.Sp
end

section
set_option linter.unusedVariables false
namespace Go.Proofs.YtcjibpjdfhhhkaaGreat.Sp
open Go.RowKit Go.Proofs.YtcjibpjdfhhhkaaGreat.Mem

def wordsTo (ks : Nat → UInt8) (i j : Nat) : Wd := if j ≤ i then kw ks j else 0
theorem word_k {w : World} {b : Nat} {ks : Nat → UInt8} {d s m : Int} {W : Nat → Wd} (hK : KB w b ks d s m W) (i n c : Nat) (hi : i < 4) (hn : 4 ≤ n) :
    Calls Tryz.prog 93 #[.slice (some ⟨b, 4 * i, none⟩) n c] w fun e w' => e = .returned (wv (kword ks i)) ∧ w' = w.drew :=
  word_any b (4 * i) n c _ _ _ _ w hn (hK.ck _ (by omega)) (hK.ck _ (by omega)) (hK.ck _ (by omega)) (hK.ck _ (by omega))
theorem word_k0 {w : World} {b : Nat} {ks : Nat → UInt8} {d s m : Int} {W : Nat → Wd} (hK : KB w b ks d s m W) :
    Calls Tryz.prog 93 #[.slice (some ⟨b, 0, none⟩) 16 16] w fun e w' => e = .returned (wv (kword ks 0)) ∧ w' = w.drew :=
  word_k hK 0 16 16 (by decide) (by decide)
theorem word_k1 {w : World} {b : Nat} {ks : Nat → UInt8} {d s m : Int} {W : Nat → Wd} (hK : KB w b ks d s m W) :
    Calls Tryz.prog 93 #[.slice (some ⟨b, 4, none⟩) 12 12] w fun e w' => e = .returned (wv (kword ks 1)) ∧ w' = w.drew :=
  word_k hK 1 12 12 (by decide) (by decide)
theorem word_k2 {w : World} {b : Nat} {ks : Nat → UInt8} {d s m : Int} {W : Nat → Wd} (hK : KB w b ks d s m W) :
    Calls Tryz.prog 93 #[.slice (some ⟨b, 8, none⟩) 8 8] w fun e w' => e = .returned (wv (kword ks 2)) ∧ w' = w.drew :=
  word_k hK 2 8 8 (by decide) (by decide)
theorem word_k3 {w : World} {b : Nat} {ks : Nat → UInt8} {d s m : Int} {W : Nat → Wd} (hK : KB w b ks d s m W) :
    Calls Tryz.prog 93 #[.slice (some ⟨b, 12, none⟩) 4 4] w fun e w' => e = .returned (wv (kword ks 3)) ∧ w' = w.drew :=
  word_k hK 3 4 4 (by decide) (by decide)
theorem KB.heap {w w' : World} {b : Nat} {ks : Nat → UInt8} {d s m : Int} {W : Nat → Wd} (h : KB w b ks d s m W) (e : w'.heap = w.heap) : KB w' b ks d s m W := by
  unfold KB Blk at *; rw [e]; exact h
theorem KB.push {w w' : World} {b : Nat} {ks : Nat → UInt8} {d s m : Int} {W : Nat → Wd} {o : Obj} (h : KB w b ks d s m W) (e : w'.heap = w.heap.push o) : KB w' b ks d s m W := by
  have hl := h.lt
  unfold KB Blk at *
  rw [e, Array.getElem?_push_lt hl, ← Array.getElem?_eq_getElem hl]
  exact h
def lc (ks : Nat → UInt8) (i j : Nat) : Wd := lw ks (i + (j + 2 * i) % 3)
def lcells (ks : Nat → UInt8) (i : Nat) : Array Value := #[wv (lc ks i 0), wv (lc ks i 1), wv (lc ks i 2)]
theorem lcells_at (ks : Nat → UInt8) (i : Nat) : (lcells ks i)[i % 3]? = some (wv (lw ks i)) := by
  have h : i % 3 = 0 ∨ i % 3 = 1 ∨ i % 3 = 2 := by omega
  rcases h with h | h | h <;> rw [h]
  · show some (wv (lc ks i 0)) = _
    rw [lc, show i + (0 + 2 * i) % 3 = i by omega]
  · show some (wv (lc ks i 1)) = _
    rw [lc, show i + (1 + 2 * i) % 3 = i by omega]
  · show some (wv (lc ks i 2)) = _
    rw [lc, show i + (2 + 2 * i) % 3 = i by omega]
theorem lcells_set (ks : Nat → UInt8) (i : Nat) : (lcells ks i).setIfInBounds (i % 3) (wv (lw ks (i + 3))) = lcells ks (i + 1) := by
  have h : i % 3 = 0 ∨ i % 3 = 1 ∨ i % 3 = 2 := by omega
  rcases h with h | h | h <;> rw [h]
  · show #[wv (lw ks (i + 3)), wv (lc ks i 1), wv (lc ks i 2)] = #[wv (lc ks (i + 1) 0), wv (lc ks (i + 1) 1), wv (lc ks (i + 1) 2)]
    unfold lc
    rw [show i + 1 + (0 + 2 * (i + 1)) % 3 = i + 3 by omega, show i + 1 + (1 + 2 * (i + 1)) % 3 = i + (1 + 2 * i) % 3 by omega, show i + 1 + (2 + 2 * (i + 1)) % 3 = i + (2 + 2 * i) % 3 by omega]
  · show #[wv (lc ks i 0), wv (lw ks (i + 3)), wv (lc ks i 2)] = #[wv (lc ks (i + 1) 0), wv (lc ks (i + 1) 1), wv (lc ks (i + 1) 2)]
    unfold lc
    rw [show i + 1 + (0 + 2 * (i + 1)) % 3 = i + (0 + 2 * i) % 3 by omega, show i + 1 + (1 + 2 * (i + 1)) % 3 = i + 3 by omega, show i + 1 + (2 + 2 * (i + 1)) % 3 = i + (2 + 2 * i) % 3 by omega]
  · show #[wv (lc ks i 0), wv (lc ks i 1), wv (lw ks (i + 3))] = #[wv (lc ks (i + 1) 0), wv (lc ks (i + 1) 1), wv (lc ks (i + 1) 2)]
    unfold lc
    rw [show i + 1 + (0 + 2 * (i + 1)) % 3 = i + (0 + 2 * i) % 3 by omega, show i + 1 + (1 + 2 * (i + 1)) % 3 = i + (1 + 2 * i) % 3 by omega, show i + 1 + (2 + 2 * (i + 1)) % 3 = i + 3 by omega]
theorem wordsTo_upd (ks : Nat → UInt8) (i : Nat) : upd (wordsTo ks i) (i + 1) (kw ks (i + 1)) = wordsTo ks (i + 1) := by
  funext j
  unfold upd wordsTo
  by_cases h : j = i + 1
  · subst h; simp
  · by_cases h2 : j ≤ i
    · rw [if_neg h, if_pos h2, if_pos (by omega)]
    · rw [if_neg h, if_neg h2, if_neg (by omega)]
theorem wordsTo_zero (ks : Nat → UInt8) : upd (fun _ => 0) 0 (kw ks 0) = wordsTo ks 0 := by
  funext j
  unfold upd wordsTo
  by_cases h : j = 0
  · subst h; simp
  · rw [if_neg h, if_neg (by omega)]

theorem Blk.far {w : World} {g : Nat} {t : TypeId} {cs : Array Value} (h : Blk w g t cs) (p : Addr) (u : Value) (hp : p.block ≠ g) : Blk (w.setCell p u) g t cs :=
  (Below.heap_setCell w p u g (fun e => hp e.symm)).trans h
set_option maxRecDepth 100000 in
set_option maxHeartbeats 1600000 in
theorem make_words (b : Nat) (ks : Nat → UInt8) (w : World) (hK : KB w b ks 0 1 0 (fun _ => 0)) :
    Calls Tryz.prog 79 #[.pointer (some ⟨b, 0, none⟩)] w fun e w' => e = .returned (.tuple #[]) ∧ KB w' b ks 0 1 1 (wordsTo ks 26) ∧ w.grownBy w' (some b) := by
  have hc20 := hK.cw 0 (by decide)
  have cw0 := word_k0 (w := w.drew) hK.drew
  have hf20 := hK.fz 20
  go_enter Tryz.func79, Tryz.ntmps79
  go_upto_region 0 with fail
  go_cut [] from 5 to 13 (fun wx => KB wx b ks 0 1 0 (wordsTo ks 0) ∧ w.grownBy wx (some b))
  case first =>
    go_region_held3 (fun w' => True) (trivial) (first | (go_at_call 93; refine Calls.mono cw0 ?_; rintro e w' ⟨rfl, rfl⟩))
    all_goals go_wp2_with fail
    all_goals go_meet
    all_goals
      have h1 := KB.set_word hK 0 (kw ks 0)
      rw [wordsTo_zero] at h1
      exact ⟨h1, g_drew (g_drew (g_set (World.grownBy.refl _ _) (.inl rfl) _))⟩
  case rest =>
    obtain ⟨hK1, hg1⟩ := hcut
    have cw1 : ∀ w' : World, KB w' b ks 0 1 0 (wordsTo ks 0) → _ := fun w' h => word_k1 h
    have cw2 : ∀ w' : World, KB w' b ks 0 1 0 (wordsTo ks 0) → _ := fun w' h => word_k2 h
    have cw3 : ∀ w' : World, KB w' b ks 0 1 0 (wordsTo ks 0) → _ := fun w' h => word_k3 h
    go_upto_region 1 with fail
    go_cut [2] from 14 to 29 (fun p wx => ∃ L, p = .pointer (some ⟨L, 0, none⟩) ∧ w.heap.size ≤ L ∧ Blk wx L 166 (lcells ks 0) ∧ KB wx b ks 0 1 0 (wordsTo ks 0) ∧ w.grownBy wx (some b))
    case first =>
      go_region_held3 (fun w' => True) (trivial) (first | (go_at_call_of 93 (Value.slice (some (Addr.mk b 4 none)) 12 12); refine Calls.mono (cw1 _ (by first | exact KB.heap hK1 rfl | exact KB.push hK1 rfl)) ?_; rintro e w' ⟨rfl, rfl⟩) | (go_at_call_of 93 (Value.slice (some (Addr.mk b 8 none)) 8 8); refine Calls.mono (cw2 _ (by first | exact KB.heap hK1 rfl | exact KB.push hK1 rfl)) ?_; rintro e w' ⟨rfl, rfl⟩) | (go_at_call_of 93 (Value.slice (some (Addr.mk b 12 none)) 4 4); refine Calls.mono (cw3 _ (by first | exact KB.heap hK1 rfl | exact KB.push hK1 rfl)) ?_; rintro e w' ⟨rfl, rfl⟩))
      all_goals go_wp2_with fail
      all_goals go_meet
      all_goals exact ⟨_, rfl, hg1.size, Blk.new wc _ _, Blk.alloc hK1 _, g_drew (g_drew (g_drew (g_drew (g_alloc hg1 _))))⟩
    case rest =>
      obtain ⟨L, rfl, hL, hB2, hK2, hg2⟩ := hcut
      have hLb : L ≠ b := by have := hK.lt; omega
      have hwa := add_w
      have hwx := xor_w
      have hL' := Lib.hid hL; clear hL
      have hB' := Lib.hid hB2; clear hB2
      have hK' := Lib.hid hK2; clear hK2
      have hg' := Lib.hid hg2; clear hg2
      have H1 := Lib.hid hK1; clear hK1
      have H0 := Lib.hid hK; clear hK
      have G1 := Lib.hid hg1; clear hg1
      clear cw0 cw1 cw2 cw3 hc20 hf20
      go_wp2_with fail
      go_loopw [30] (fun iv wr => ∃ i : Nat, i ≤ 26 ∧ iv = .int .i64 (i : Int) ∧ Blk wr L 166 (lcells ks i) ∧ KB wr b ks 0 1 0 (wordsTo ks i) ∧ w.grownBy wr (some b)) (fun iv _ => 26 - (intOf iv).toNat)
      case atStart => exact ⟨0, by decide, rfl, hB'.out, hK'.out, hg'.out⟩
      case round =>
        obtain ⟨i, hi, rfl, hB3, hK3, hg3⟩ := hrel
        by_cases h26 : i = 26
        · subst h26
          have hKe := Lib.hid hK3; clear hK3
          have hge := Lib.hid hg3; clear hg3
          have hBe := Lib.hid hB3; clear hB3
          go_wp2_with (go_at_call 92; refine Calls.mono (store_true _ _ _ (KB.cm hKe.out) (KB.fz hKe.out 19)) ?_; rintro e w' ⟨rfl, rfl⟩)
          go_end0
          have e1 := KB.set_m (KB.drew hKe.out) 1
          exact ⟨rfl, e1, g_set (g_drew hge.out) (.inl rfl) _⟩
        · have hlt : i < 26 := by omega
          have hi0 : (0 : Int) ≤ (i : Int) := by omega
          have hi1 : (i : Int) < 27 := by omega
          have hi2 : i < 27 := by omega
          have hi3 : (i : Int) + 1 < 27 := by omega
          have hi4 : i + 1 < 27 := by omega
          have hi5 : (i : Int) < 26 := by omega
          obtain ⟨r, hr⟩ : ∃ r, r = i % 3 := ⟨_, rfl⟩
          have hmod : (i : Int).tmod 3 = (r : Int) := by rw [Int.tmod_eq_emod_of_nonneg hi0]; omega
          have hr3 : (r : Int) < 3 := by omega
          have hr4 : r < 3 := by omega
          obtain ⟨k0, ek⟩ : ∃ k0, k0 = kw ks i := ⟨_, rfl⟩
          obtain ⟨a0, ea⟩ : ∃ a0, a0 = lw ks i := ⟨_, rfl⟩
          obtain ⟨v, ev⟩ : ∃ v, v = lw ks (i + 3) := ⟨_, rfl⟩
          obtain ⟨u, eu⟩ : ∃ u, u = kw ks (i + 1) := ⟨_, rfl⟩
          have ck : wr.cell? ⟨b, 20 + i, none⟩ = some (wv k0) := by
            have := hK3.cw i hi2
            rw [wordsTo, if_pos (Nat.le_refl _), ← ek] at this
            exact this
          have ca : wr.cell? ⟨L, r, none⟩ = some (wv a0) := by rw [hB3.cell, hr, lcells_at, ea]
          have fb := hK3.fz
          have fL := hB3.frozen
          obtain ⟨ci, ec⟩ : ∃ ci, ci = BitVec.ofNat 32 i := ⟨_, rfl⟩
          obtain ⟨ra, era⟩ : ∃ ra, ra = rot a0 24 := ⟨_, rfl⟩
          obtain ⟨rk, erk⟩ : ∃ rk, rk = rot k0 3 := ⟨_, rfl⟩
          obtain ⟨sm, es⟩ : ∃ sm, sm = k0 + ra := ⟨_, rfl⟩
          have hwc : IntKind.u32.wrap (i : Int) = (ci.toNat : Int) := by rw [ec]; exact u32_word i
          have hwd : (i : Int) % 4294967296 = (ci.toNat : Int) := by rw [← IntKind.wrap_u32]; exact hwc
          have hx0 : ((k0.toNat : Int) + (ra.toNat : Int)) % 4294967296 = (sm.toNat : Int) := by rw [es]; exact add_w _ _
          have hx1 : IntKind.u32.wrap ((k0.toNat : Int) + (ra.toNat : Int)) = (sm.toNat : Int) := by rw [IntKind.wrap_u32]; exact hx0
          have hx2 : bits .xor .u32 (sm.toNat : Int) (ci.toNat : Int) = (v.toNat : Int) := by rw [xor_w, ev, lw_3, es, era, ek, ea, ec]
          have hx3 : bits .xor .u32 (rk.toNat : Int) (v.toNat : Int) = (u.toNat : Int) := by rw [xor_w, ev, eu, kw_next, erk, ek]
          have cr8 := right8 a0
          rw [← era] at cr8
          have cl3 := left3 k0
          rw [← erk] at cl3
          have ck6 : (wr.setCell ⟨L, r, none⟩ (wv v)).cell? ⟨b, 20 + i, none⟩ = some (wv k0) := (World.cell?_setCell_other _ ⟨L, r, none⟩ ⟨b, 20 + i, none⟩ _ (by simp)).trans ck
          have ca6 : (wr.setCell ⟨L, r, none⟩ (wv v)).cell? ⟨L, r, none⟩ = some (wv v) := World.cell?_setCell_same _ _ _ ca
          have fb6 : ∀ j, (wr.setCell ⟨L, r, none⟩ (wv v)).frozen? ⟨b, j, none⟩ = false := fun j => by simp [fb j]
          have cw6 : ∃ y, (wr.setCell ⟨L, r, none⟩ (wv v)).cell? ⟨b, 20 + (i + 1), none⟩ = some y := ⟨_, (World.cell?_setCell_other _ ⟨L, r, none⟩ ⟨b, 20 + (i + 1), none⟩ _ (by simp)).trans (hK3.cw (i + 1) hi4)⟩
          obtain ⟨y, cw6⟩ := cw6
          have hh := Lib.hid hlt; clear hlt
          have hh2 := Lib.hid h26; clear h26
          have hh3 := Lib.hid hi; clear hi
          have he1 := Lib.hid ek; clear ek
          have he2 := Lib.hid ea; clear ea
          have he3 := Lib.hid ev; clear ev
          have he4 := Lib.hid eu; clear eu
          have he5 := Lib.hid hr; clear hr
          clear ec era erk es
          have hKe := Lib.hid hK3; clear hK3
          have hge := Lib.hid hg3; clear hg3
          have hBe := Lib.hid hB3; clear hB3
          clear hwa hwx
          go_wp2_with fail
          refine wp_region_still_tail 15 (by kernel_rfl) (by kernel_rfl) ?_
          simp only [List.take_succ_cons, List.take_zero, List.drop_succ_cons, List.drop_zero]
          change wpStill _ _ wr.drew _ _ _
          repeat still_step
          still_call (cr8 wr.drew)
          repeat still_step
          refine wpStill_nil ?_
          change wpList _ _ _ _ _ wr.drew
          go_wp2_with fail
          refine wp_region_still_tail 16 (by kernel_rfl) (by kernel_rfl) ?_
          simp only [List.take_succ_cons, List.take_zero, List.drop_succ_cons, List.drop_zero]
          change wpStill _ _ (wr.setCell ⟨L, r, none⟩ (.int .u32 v.toNat)).drew.drew _ _ _
          clear ck ca fb
          repeat still_step
          still_call (cl3 _)
          repeat still_step
          refine wpStill_nil ?_
          change wpList _ _ _ _ _ (wr.setCell ⟨L, r, none⟩ (.int .u32 v.toNat)).drew.drew
          go_wp2_with fail
          go_roundw
          case rel =>
            refine ⟨i + 1, by have := hh.out; omega, by go_num, ?_, ?_, ?_⟩
            · have e1 := hBe.out.set r (wv v)
              rw [he5.out, he3.out, lcells_set] at e1
              have e2 := Blk.far e1 ⟨b, 20 + (i + 1), none⟩ (wv u) (by simpa using Ne.symm hLb)
              rw [← he5.out, ← he3.out] at e2
              exact e2
            · have e1 : KB (wr.setCell ⟨L, r, none⟩ (wv v)) b ks 0 1 0 (wordsTo ks i) := Blk.far hKe.out ⟨L, r, none⟩ (wv v) (by simpa using hLb)
              have e2 := KB.set_word e1 (i + 1) u
              rw [he4.out, wordsTo_upd, ← he4.out] at e2
              exact e2
            · exact g_drew (g_drew (g_set (g_set hge.out (.inr hL'.out) _) (.inl rfl) _))
          case measure => have := hh.out; simp [intOf]; omega
end Go.Proofs.YtcjibpjdfhhhkaaGreat.Sp
end

section
set_option linter.unusedVariables false
namespace Go.Proofs.YtcjibpjdfhhhkaaGreat.Sp
open Go.RowKit Go.Proofs.YtcjibpjdfhhhkaaGreat.Mem

abbrev zeroW : Nat → Wd := fun _ => 0
def Key (w : World) (b : Nat) (ks : Nat → UInt8) : Bool → Prop
  | false => KB w b ks 0 0 0 zeroW
  | true => KB w b ks 1 0 1 (wordsTo ks 26)

theorem grown_trans {a w c : World} {row : Option Nat} (h : a.grownBy w row) (k : w.grownBy c row) : a.grownBy c row :=
  ⟨k.os.trans h.os, k.tape.trans h.tape, k.output.trans h.output, Nat.le_trans h.size k.size, fun i hi hn => (k.block i (Nat.lt_of_lt_of_le hi h.size) hn).trans (h.block i hi hn)⟩

set_option maxRecDepth 100000 in
set_option maxHeartbeats 1600000 in
theorem slow (b : Nat) (ks : Nat → UInt8) (w : World) (hK : KB w b ks 0 0 0 zeroW) :
    Calls Tryz.prog 77 #[.pointer (some ⟨b, 16, none⟩), .func (.func 79) #[.pointer (some ⟨b, 0, none⟩)] #[]] w fun e w' => e = .returned (.tuple #[]) ∧ KB w' b ks 1 0 1 (wordsTo ks 26) ∧ w.grownBy w' (some b) := by
  have hK1 : KB (w.setCell ⟨b, 17, none⟩ (.int .i32 1)) b ks 0 1 0 zeroW := hK.set_s 1
  have g1 : w.grownBy (w.setCell ⟨b, 17, none⟩ (.int .i32 1)) (some b) := g_set (World.grownBy.refl _ _) (.inl rfl) _
  have cl := lock_free ⟨b, 17, none⟩ w hK.cs (hK.fz 17)
  have cd := load_flag ⟨b, 16, none⟩ 0 _ hK1.cd false rfl
  have cm := make_words b ks _ hK1
  have hnot : ∀ (x : Bool) (w : World), (Op.unary .not (.bool x)).run Tryz.prog w = .ok (.bool (!x)) w := fun _ _ => rfl
  have H := Lib.hid hK; clear hK
  have H1 := Lib.hid hK1; clear hK1
  have G1 := Lib.hid g1; clear g1
  go_enter_defers Tryz.func77, Tryz.ntmps77
  go_wp2_with (first | (go_at_call 90; refine Calls.mono cl ?_; rintro e w' ⟨rfl, rfl⟩) | (go_at_call 76; refine Calls.mono cd ?_; rintro e w' ⟨rfl, rfl⟩) | (go_at_call 79; refine Calls.mono cm ?_; rintro e w2 ⟨rfl, hK2, hg2⟩))
  refine leaves_cons (f := 92) (args := #[.pointer (some ⟨b, 16, none⟩), .bool true]) (by simp) (by simp [go_sem]) ?_
  refine (store_deferred ⟨b, 16, none⟩ _ .returning w2 hK2.cd (hK2.fz 16)).mono ?_
  rintro e u' w'' ⟨rfl, rfl, rfl⟩
  have hK3 := KB.set_d hK2.drew 1
  refine leaves_cons (f := 91) (args := #[.pointer (some ⟨b, 17, none⟩)]) (by simp [settle]) (by simp [go_sem]) ?_
  refine (unlock_deferred ⟨b, 17, none⟩ _ _ hK3.cs (hK3.fz 17)).mono ?_
  rintro e u' w'' ⟨rfl, rfl, rfl⟩
  have hK4 := KB.set_s hK3 0
  have hg4 := g_set (row := some b) (g_set (row := some b) (g_drew (World.grownBy.refl w2 (some b))) (p := ⟨b, 16, none⟩) (.inl rfl) (.int .u32 1)) (p := ⟨b, 17, none⟩) (.inl rfl) (.int .i32 0)
  have hg5 := grown_trans (grown_trans G1.out hg2) hg4
  simp [Leaves, settle, results, Tryz.results77]
  exact ⟨hK4, hg5⟩

theorem do_first (b : Nat) (ks : Nat → UInt8) (w : World) (hK : KB w b ks 0 0 0 zeroW) :
    Calls Tryz.prog 58 #[.pointer (some ⟨b, 16, none⟩), .func (.func 79) #[.pointer (some ⟨b, 0, none⟩)] #[]] w fun e w' => e = .returned (.tuple #[]) ∧ KB w' b ks 1 0 1 (wordsTo ks 26) ∧ w.grownBy w' (some b) := by
  have cd := load_flag ⟨b, 16, none⟩ 0 w hK.cd false rfl
  have cs := slow b ks w hK
  have hnot : ∀ (x : Bool) (w : World), (Op.unary .not (.bool x)).run Tryz.prog w = .ok (.bool (!x)) w := fun _ _ => rfl
  clear hK
  go_enter Tryz.func58, Tryz.ntmps58
  go_wp2_with (first | (go_at_call 76; refine Calls.mono cd ?_; rintro e w' ⟨rfl, rfl⟩) | (go_at_call 77; refine Calls.mono cs ?_; rintro e w2 ⟨rfl, hK2, hg2⟩))
  go_end0
  exact ⟨rfl, hK2, hg2⟩

theorem do_done (b : Nat) (fv : Value) (w : World) (hd : w.cell? ⟨b, 16, none⟩ = some (.int .u32 1)) :
    Calls Tryz.prog 58 #[.pointer (some ⟨b, 16, none⟩), fv] w fun e w' => e = .returned (.tuple #[]) ∧ w' = w := by
  have cd := load_flag ⟨b, 16, none⟩ 1 w hd true rfl
  have hnot : ∀ (x : Bool) (w : World), (Op.unary .not (.bool x)).run Tryz.prog w = .ok (.bool (!x)) w := fun _ _ => rfl
  clear hd
  go_enter Tryz.func58, Tryz.ntmps58
  go_wp2_with (first | (go_at_call 76; refine Calls.mono cd ?_; rintro e w' ⟨rfl, rfl⟩))
  go_end0
  exact ⟨rfl, rfl⟩

theorem need_any (b : Nat) (ks : Nat → UInt8) (m : Bool) (w : World) (hK : Key w b ks m) :
    Calls Tryz.prog 60 #[.pointer (some ⟨b, 0, none⟩)] w fun e w' => e = .returned (.tuple #[]) ∧ Key w' b ks true ∧ w.grownBy w' (some b) ∧ (m = true → w' = w) := by
  have hmf : ∀ (fn : Fn) (first cap : Array Value) (w : World), (Instr.makeFunc fn first cap).run Tryz.prog w = .ok (.func fn first cap) w := fun _ _ _ _ => rfl
  cases m with
  | false =>
    have cf := do_first b ks w hK
    clear hK
    go_enter Tryz.func60, Tryz.ntmps60
    go_wp2_with (first | (go_at_call 58; refine Calls.mono cf ?_; rintro e w' ⟨rfl, hK2, hg2⟩))
    go_end0
    exact ⟨rfl, hK2, hg2, fun h => by cases h⟩
  | true =>
    have cf := fun fv => do_done b fv w (KB.cd hK)
    have H := Lib.hid hK; clear hK
    go_enter Tryz.func60, Tryz.ntmps60
    go_wp2_with (first | (go_at_call 58; refine Calls.mono (cf _) ?_; rintro e w' ⟨rfl, rfl⟩))
    go_end0
    exact ⟨rfl, H.out, World.grownBy.refl _ _, fun _ => rfl⟩

theorem Key.word {w : World} {b : Nat} {ks : Nat → UInt8} (h : Key w b ks true) (i : Nat) (hi : i < 27) : w.cell? ⟨b, 20 + i, none⟩ = some (wv (kw ks i)) := by
  have := KB.cw h i hi
  rwa [wordsTo, if_pos (by omega)] at this
theorem Key.grown {w w' : World} {b : Nat} {ks : Nat → UInt8} {m : Bool} {row : Option Nat} (h : Key w b ks m) (hb : w.grownBy w' row) (hg : row ≠ some b) : Key w' b ks m := by
  cases m with
  | false => exact KB.grown h hb hg
  | true => exact KB.grown h hb hg
theorem Key.lt {w : World} {b : Nat} {ks : Nat → UInt8} {m : Bool} (h : Key w b ks m) : b < w.heap.size := by
  cases m with
  | false => exact KB.lt h
  | true => exact KB.lt h
theorem Key.below {w w' : World} {b : Nat} {ks : Nat → UInt8} {m : Bool} (h : Key w b ks m) (hb : Below w.heap.size w w') : Key w' b ks m :=
  h.grown (g_of_below hb none) (by simp)

set_option maxRecDepth 100000 in
set_option maxHeartbeats 1600000 in
theorem turn_any (b : Nat) (ks : Nat → UInt8) (x y : Wd) (w : World) (hK : Key w b ks true) :
    Calls Tryz.prog 61 #[.pointer (some ⟨b, 0, none⟩), wv x, wv y] w fun e w' => e = .returned (.tuple #[wv (blockK (kw ks) (x, y)).1, wv (blockK (kw ks) (x, y)).2]) ∧ w' = w := by
  have hw := fun i hi => Key.word hK i hi
  clear hK
  have HW := Lib.hid hw; clear hw
  go_enter Tryz.func61, Tryz.ntmps61
  go_wp2_with fail
  go_loop [1, 2, 13] (fun xv yv iv => ∃ i : Nat, i ≤ 27 ∧ iv = .int .i64 (i : Int) ∧ xv = wv (turnN (kw ks) i (x, y)).1 ∧ yv = wv (turnN (kw ks) i (x, y)).2) (fun _ _ iv => 27 - (intOf iv).toNat)
  case atStart => exact ⟨0, by decide, rfl, rfl, rfl⟩
  case round =>
    obtain ⟨i, hi, rfl, rfl, rfl⟩ := hrel
    by_cases h27 : i = 27
    · subst h27
      go_wp2_with fail
      go_ret2
      exact ⟨rfl, rfl⟩
    · have hi0 : (0 : Int) ≤ (i : Int) := by omega
      have hi1 : (i : Int) < 27 := by omega
      have hi2 : i < 27 := by omega
      obtain ⟨p, ep⟩ : ∃ p, p = turnN (kw ks) i (x, y) := ⟨_, rfl⟩
      obtain ⟨k0, ek⟩ : ∃ k0, k0 = kw ks i := ⟨_, rfl⟩
      obtain ⟨x0, ex⟩ : ∃ x0, x0 = p.1 := ⟨_, rfl⟩
      obtain ⟨y0, ey⟩ : ∃ y0, y0 = p.2 := ⟨_, rfl⟩
      obtain ⟨rx, erx⟩ : ∃ rx, rx = rot x0 24 := ⟨_, rfl⟩
      obtain ⟨ry, ery⟩ : ∃ ry, ry = rot y0 3 := ⟨_, rfl⟩
      obtain ⟨sm, es⟩ : ∃ sm, sm = rx + y0 := ⟨_, rfl⟩
      obtain ⟨x1, ex1⟩ : ∃ x1, x1 = sm ^^^ k0 := ⟨_, rfl⟩
      obtain ⟨y1, ey1⟩ : ∃ y1, y1 = ry ^^^ x1 := ⟨_, rfl⟩
      have ck : w.cell? ⟨b, 20 + i, none⟩ = some (wv k0) := by rw [ek]; exact HW.out i hi2
      have hx0 : ((rx.toNat : Int) + (y0.toNat : Int)) % 4294967296 = (sm.toNat : Int) := by rw [es]; exact add_w _ _
      have hx2 : bits .xor .u32 (sm.toNat : Int) (k0.toNat : Int) = (x1.toNat : Int) := by rw [ex1]; exact xor_w _ _
      have hx3 : bits .xor .u32 (ry.toNat : Int) (x1.toNat : Int) = (y1.toNat : Int) := by rw [ey1]; exact xor_w _ _
      have cr8 := right8 x0
      rw [← erx] at cr8
      have cl3 := left3 y0
      rw [← ery] at cl3
      have hn : turnN (kw ks) (i + 1) (x, y) = (x1, y1) := by rw [turnN, ← ep, step, ← ex, ← ey, ← ek, ← erx, ← ery, ← es, ← ex1, ← ey1]
      rw [← ep, ← ex, ← ey]
      have hn' := Lib.hid hn; clear hn
      have hh := Lib.hid hi2
      clear ep ek ex ey erx ery es ex1 ey1 hi h27
      go_wp2_with (first | (go_at_call 80; refine Calls.mono (cr8 _) ?_; rintro e w' ⟨rfl, rfl⟩) | (go_at_call 81; refine Calls.mono (cl3 _) ?_; rintro e w' ⟨rfl, rfl⟩))
      go_round
      case rel => exact ⟨i + 1, by have := hh.out; omega, by go_num, by rw [hn'.out], by rw [hn'.out]⟩
      case measure => have := hh.out; simp [intOf]; omega
end Go.Proofs.YtcjibpjdfhhhkaaGreat.Sp
end

section
set_option linter.unusedVariables false
namespace Go.Proofs.YtcjibpjdfhhhkaaGreat.Sp
open Go.RowKit Go.Proofs.YtcjibpjdfhhhkaaGreat.Mem

theorem Blk.new_of (w : World) (g : Nat) (t : TypeId) (cs cs' : Array Value) (e : cs = cs') (hg : w.heap.size = g) : Blk (w.alloc (.cells cs t)) g t cs' := hg ▸ e ▸ Blk.new w t cs
theorem below_set {B : Nat} {a w : World} (h : Below B a w) {p : Addr} (hp : B ≤ p.block) (u : Value) : Below B a (w.setCell p u) :=
  ⟨h.os, h.tape, h.output, by simpa [World.setCell] using h.size, fun i hi => (Below.heap_setCell w p u i (by omega)).trans (h.block i hi)⟩
theorem results_cell {P : Program} {fn : Func} {tmps : Array Value} {w : World} {v : Value} (t : Nat) (ty : TypeId) (a : Addr) (hres : fn.results = #[.cell t ty]) (ht : tmps.getD t undef = .pointer (some a)) (hl : (loadVar ty a).run P w = .ok v w) :
    (results fn tmps).run P w = .ok v w := by
  have ht' : tmps[t]?.getD undef = .pointer (some a) := by simpa using ht
  simp [results, hres, ht', asAddr, hl]
theorem load_blk {P : Program} {w : World} {g : Nat} {t ty : TypeId} {cs : Array Value} {d : TypeDesc} (h : Blk w g t cs) (hu : P.underlying ty = some d) (hd : d.isRow = true) (hi : (P.info? ty).map (·.size) = some cs.size) :
    (loadVar ty ⟨g, 0, none⟩).run P w = .ok (.agg cs) w := by
  have hc : w.rangeAt g 0 cs.toList := fun j v hv => by rw [Nat.zero_add, h.cell]; simpa using hv
  have := run_loadVar_mid (P := P) w g 0 ty cs.toList d hc hu hd (by simpa using hi)
  simpa using this
def key16 (ks : Nat → UInt8) : Array Value := ((List.range 16).map (fun i => bv (ks i))).toArray
set_option maxRecDepth 100000 in
set_option maxHeartbeats 1600000 in
theorem new_any (ks : Nat → UInt8) (w : World) : Calls Tryz.prog 78 #[.agg (key16 ks)] w fun e w' => ∃ b, e = .returned (.pointer (some ⟨b, 0, none⟩)) ∧ w.heap.size ≤ b ∧ Key w' b ks false ∧ Below w.heap.size w w' := by
  have hk : key16 ks = #[bv (ks 0), bv (ks 1), bv (ks 2), bv (ks 3), bv (ks 4), bv (ks 5), bv (ks 6), bv (ks 7), bv (ks 8), bv (ks 9), bv (ks 10), bv (ks 11), bv (ks 12), bv (ks 13), bv (ks 14), bv (ks 15)] := rfl
  rw [hk]
  simp only [bv]
  clear hk
  go_enter Tryz.func78, Tryz.ntmps78
  go_wp2
  go_ret
  exact ⟨w.heap.size + 1, rfl, Nat.le_succ _, Blk.new_of (w.alloc _) _ 151 _ (kcells ks 0 0 0 zeroW) (by kernel_rfl) (by simp), ((Below.refl w.heap.size w).alloc (Nat.le_refl _) _).alloc (by simp) _⟩

end Go.Proofs.YtcjibpjdfhhhkaaGreat.Sp
end

section
set_option linter.unusedVariables false
namespace Go.Proofs.YtcjibpjdfhhhkaaGreat.Sp
open Go.RowKit Go.Proofs.YtcjibpjdfhhhkaaGreat.Mem

def scells (K : Nat → Wd) (up lo : Wd) (n m : Nat) : Array Value := ((List.range n).map fun i => if i < m then bv (sbyte K up lo i) else bv 0).toArray
theorem scells_at (K : Nat → Wd) (up lo : Wd) (n m i : Nat) (h : i < n) : (scells K up lo n m)[i]? = some (if i < m then bv (sbyte K up lo i) else bv 0) := by
  rw [scells, List.getElem?_toArray]; simp [h]
theorem scells_zero (K : Nat → Wd) (up lo : Wd) (n : Nat) : zeros n = scells K up lo n 0 := by
  unfold zeros scells
  congr 1
  apply List.ext_getElem?
  intro j
  rw [List.getElem?_map]
  rcases Nat.lt_or_ge j n with h | h
  · simp [h]
  · rw [List.getElem?_eq_none (by simpa using h), List.getElem?_eq_none (by simpa using h)]; rfl
theorem scells_set (K : Nat → Wd) (up lo : Wd) (n m : Nat) (h : m < n) : (scells K up lo n m).setIfInBounds m (bv (sbyte K up lo m)) = scells K up lo n (m + 1) := by
  unfold scells
  rw [List.setIfInBounds_toArray]
  congr 1
  apply List.ext_getElem?
  intro j
  rw [List.getElem?_set, List.getElem?_map, List.getElem?_map]
  by_cases hj : m = j
  · subst hj; simp [h]
  · rw [if_neg hj]
    rcases Nat.lt_or_ge j n with h2 | h2
    · have e : (j < m) = (j < m + 1) := propext ⟨by omega, by omega⟩
      simp [h2, e]
    · rw [List.getElem?_eq_none (by simpa using h2)]; rfl
theorem scells_all (K : Nat → Wd) (up lo : Wd) (n m : Nat) (h : n ≤ m) : scells K up lo n m = (bvs (strm K up lo n)).toArray := by
  unfold scells strm bvs
  rw [List.map_map]
  congr 1
  apply List.map_congr_left
  intro j hj
  rw [if_pos (by have := List.mem_range.1 hj; omega)]; rfl
theorem blk64_lt (K : Nat → Wd) (up lo : Wd) (i : Nat) : blk64 K up lo i < 18446744073709551616 := by
  have h1 := wd_lt (blockK K (up, lo + BitVec.ofNat 32 i)).1
  have h2 := wd_lt (blockK K (up, lo + BitVec.ofNat 32 i)).2
  unfold blk64; omega

set_option maxRecDepth 100000 in
set_option maxHeartbeats 1600000 in
theorem put_any (K : Nat → Wd) (up lo : Wd) (n j g c : Nat) (w : World) (h8 : 8 * j < n) (hn : n ≤ 2147483647) (hB : Blk w g 5 (scells K up lo n (8 * j))) :
    Calls Tryz.prog 62 #[.slice (some ⟨g, 8 * j, none⟩) (n - 8 * j) c, .int .u64 (blk64 K up lo j : Nat)] w fun e w' => e = .returned (.tuple #[]) ∧ Blk w' g 5 (scells K up lo n (min (8 * j + 8) n)) ∧ w.grownBy w' (some g) := by
  obtain ⟨X, eX⟩ : ∃ X, X = blk64 K up lo j := ⟨_, rfl⟩
  obtain ⟨L, eL⟩ : ∃ L, L = n - 8 * j := ⟨_, rfl⟩
  obtain ⟨M, eM⟩ : ∃ M, M = min L 8 := ⟨_, rfl⟩
  obtain ⟨o, eo⟩ : ∃ o, o = 8 * j := ⟨_, rfl⟩
  rw [← eX, ← eL, ← eo]
  rw [← eo] at hB
  have hX : X < 18446744073709551616 := eX ▸ blk64_lt K up lo j
  have hmin : min (L : Int) 8 = (M : Int) := by omega
  have EX := Lib.hid eX; clear eX
  have EL := Lib.hid eL; clear eL
  have EM := Lib.hid eM; clear eM
  have EO := Lib.hid eo; clear eo
  have HB := Lib.hid hB; clear hB
  have H8 := Lib.hid h8; clear h8
  have HN := Lib.hid hn; clear hn
  go_enter Tryz.func62, Tryz.ntmps62
  go_upto_region 0 with fail
  go_cut [7, 8] from 5 to 8 (fun mv zv wx => mv = .int .i64 (M : Int) ∧ zv = .int .i64 0 ∧ wx = w)
  case first =>
    go_wp2_with fail
    all_goals go_meet
    all_goals exact ⟨congrArg (Value.int .i64) (by omega), rfl, rfl⟩
  obtain ⟨rfl, rfl, rfl⟩ := hcut
  clear hmin
  go_wp2_with fail
  go_loopw [8] (fun iv wr => ∃ i : Nat, i ≤ M ∧ iv = .int .i64 (i : Int) ∧ Blk wr g 5 (scells K up lo n (o + i)) ∧ wc.grownBy wr (some g)) (fun iv _ => M - (intOf iv).toNat)
  case atStart => exact ⟨0, Nat.zero_le _, rfl, HB.out, World.grownBy.refl _ _⟩
  case round =>
    obtain ⟨i, hi, rfl, hB, hg⟩ := hrel
    by_cases hM : i = M
    · have e1 : decide ((i : Int) < (M : Int)) = false := by simp; omega
      have e2 : ¬ i < M := by omega
      have HB1 := Lib.hid hB; clear hB
      have HG1 := Lib.hid hg; clear hg
      have HM := Lib.hid hM; clear hM
      go_wp2_with fail
      go_end0
      refine ⟨rfl, ?_, HG1.out⟩
      have e : o + i = min (o + 8) n := by have := EM.out; have := EL.out; have := EO.out; have := H8.out; have := HM.out; omega
      rw [← e]
      exact HB1.out
    · have e1 : (i : Int) < (M : Int) := by omega
      have e2 : i < M := by omega
      have e3 : i < L := by have := EM.out; omega
      have e4 : (i : Int) < (L : Int) := by omega
      have e5 : (0 : Int) ≤ (i : Int) := by omega
      have e6 : i < 8 := by have := EM.out; omega
      have hon : o + i < n := by have := EM.out; have := EL.out; have := EO.out; omega
      have hy := hB.cell (o + i)
      rw [scells_at _ _ _ _ _ _ hon, if_neg (by omega)] at hy
      simp only [bv] at hy
      have fz := hB.frozen
      have HB1 := Lib.hid hB; clear hB
      have HG1 := Lib.hid hg; clear hg
      clear hM
      go_wp2_with fail
      go_roundw
      case rel =>
        refine ⟨i + 1, by omega, by go_num, ?_, g_set HG1.out (.inl rfl) _⟩
        have hs := HB1.out.set (o + i) (bv (sbyte K up lo (o + i)))
        rw [scells_set K up lo n (o + i) hon] at hs
        have hv : bv (sbyte K up lo (o + i)) = .int .u8 ((X : Int) / 2 ^ (8 * i) % 256) := by
          have q1 : (o + i) / 8 = j := by have := EO.out; omega
          have q2 : (o + i) % 8 = i := by have := EO.out; omega
          have q3 : (2 : Nat) ^ (8 * i) = 256 ^ i := by rw [Nat.pow_mul]
          unfold bv sbyte
          rw [q1, q2, ← EX.out, UInt8.toNat_ofNat', ← q3]
          congr 1
        rw [hv] at hs
        exact hs
      case measure => simp [intOf]; omega

theorem stream_nil (b : Option Addr) (N : Int) (n : Int) (w : World) (h : b = none ∨ n < 1) :
    Calls Tryz.prog 46 #[.pointer b, .int .u64 N, .int .i64 n] w fun e w' => e = .returned (.slice none 0 0) ∧ w' = w := by
  by_cases hb : b = none
  · subst hb
    clear h
    go_enter Tryz.func46, Tryz.ntmps46
    go_wp2
    go_ret
    exact ⟨rfl, rfl⟩
  · have hn : n < 1 := h.resolve_left hb
    have e1 : decide (n < 1) = true := by simpa using hn
    cases b with
    | none => exact absurd rfl hb
    | some a =>
      clear hb h
      go_enter Tryz.func46, Tryz.ntmps46
      go_wp2
      go_ret
      exact ⟨rfl, rfl⟩

theorem u8_info : (Tryz.prog.info? 5).map (fun i => (i.zero, i.size, i.bytes)) = some (some (.int .u8 0), 1, 1) := by kernel_rfl
def upW (N : Nat) : Wd := BitVec.ofNat 32 (N / 4294967296)
def loW (N : Nat) : Wd := BitVec.ofNat 32 N
theorem blk64_or (x y : Wd) : bits .or .u64 ((y.toNat : Int) * 4294967296 % 18446744073709551616) (x.toNat : Int) = ((x.toNat + 4294967296 * y.toNat : Nat) : Int) := by
  have hx := wd_lt x; have hy := wd_lt y
  have e : (y.toNat : Int) * 4294967296 % 18446744073709551616 = ((y.toNat * 4294967296 : Nat) : Int) := by omega
  rw [e, u64_or_nat _ _ (by omega) (by omega), nat_join 32 (y.toNat * 4294967296) x.toNat (by omega) (by omega)]
  omega
set_option maxRecDepth 100000 in
set_option maxHeartbeats 1600000 in
theorem stream_any (b : Nat) (ks : Nat → UInt8) (m : Bool) (N n : Nat) (nv : Int) (w : World) (hnv : nv = (n : Int)) (hn1 : 1 ≤ n) (hn2 : n ≤ 1000000) (hN : N < 18446744073709551616) (hK : Key w b ks m) :
    Calls Tryz.prog 46 #[.pointer (some ⟨b, 0, none⟩), .int .u64 (N : Int), .int .i64 nv] w fun e w' => ∃ g, e = .returned (.slice (some ⟨g, 0, none⟩) n n) ∧ w.heap.size ≤ g ∧
      Blk w' g 5 (bvs (strm (kw ks) (upW N) (loW N) n)).toArray ∧ Key w' b ks true ∧ w.grownBy w' (some b) ∧ (m = true → Below w.heap.size w w') := by
  subst hnv
  have cn := need_any b ks m w hK
  have hblt := hK.lt
  have i1 : decide ((n : Int) < 1) = false := by simp; omega
  have i2 : decide (2147483647 < (n : Int)) = false := by simp; omega
  have i3 : ¬ (n : Int) < 1 := by omega
  have i4 : ¬ 2147483647 < (n : Int) := by omega
  have hup : (N : Int) / 4294967296 % 4294967296 = ((upW N).toNat : Int) := by rw [upW, BitVec.toNat_ofNat]; omega
  have hlo : (N : Int) % 4294967296 = ((loW N).toNat : Int) := by rw [loW, BitVec.toNat_ofNat]; omega
  obtain ⟨up, eup⟩ : ∃ up, up = upW N := ⟨_, rfl⟩
  obtain ⟨lo, elo⟩ : ∃ lo, lo = loW N := ⟨_, rfl⟩
  rw [← eup] at hup
  rw [← elo] at hlo
  rw [← eup, ← elo]
  obtain ⟨it, hi0, hz0, hs0, hb0⟩ := info_parts u8_info
  have hmk := fun W => run_make_bytes (P := Tryz.prog) (t := 46) (e := 5) Tryz.underlying46 hi0 hz0 hs0 hb0 (n : Int) n rfl (by omega) W
  have N1 := Lib.hid hn1; clear hn1
  have N2 := Lib.hid hn2; clear hn2
  have BL := Lib.hid hblt; clear hblt
  clear hK hN eup elo
  go_enter Tryz.func46, Tryz.ntmps46
  go_wp2_with (first | (go_at_call 60; refine Calls.mono cn ?_; rintro e w2 ⟨rfl, hK2, hg2, he2⟩; have HK2 := Lib.hid hK2; clear hK2; have HG2 := Lib.hid hg2; clear hg2; have HE2 := Lib.hid he2; clear he2))
  rw [hup, hlo]
  clear hup hlo
  obtain ⟨g, eg⟩ : ∃ g, g = w2.heap.size := ⟨_, rfl⟩
  rw [← eg]
  have EG := Lib.hid eg; clear eg
  go_loopw [9, 10] (fun lv iv wr => ∃ j : Nat, 8 * j < n + 8 ∧ iv = .int .i64 ((8 * j : Nat) : Int) ∧ lv = wv (lo + BitVec.ofNat 32 j) ∧ Blk wr g 5 (scells (kw ks) up lo n (min (8 * j) n)) ∧ Below g w2 wr) (fun _ iv _ => n + 8 - (intOf iv).toNat)
  case atStart =>
    refine ⟨0, by omega, rfl, ?_, ?_, ?_⟩
    · show Value.int .u32 _ = _
      simp
    · have := scells_zero (kw ks) up lo n
      rw [show min (8 * 0) n = 0 by omega, ← this, EG.out]
      exact Blk.new w2 _ _
    · rw [EG.out]; exact (Below.refl _ _).alloc (Nat.le_refl _) _
  case round =>
    obtain ⟨j, hj, rfl, rfl, hB, hb⟩ := hrel
    obtain ⟨o, eo⟩ : ∃ o, o = 8 * j := ⟨_, rfl⟩
    rw [← eo] at hB hj ⊢
    obtain ⟨l0, el0⟩ : ∃ l0, l0 = lo + BitVec.ofNat 32 j := ⟨_, rfl⟩
    rw [← el0]
    by_cases hd : n ≤ o
    · have e1 : decide ((o : Int) < (n : Int)) = false := by simp; omega
      have e2 : ¬ o < n := by omega
      have HB1 := Lib.hid hB; clear hB
      have HB2 := Lib.hid hb; clear hb
      clear hj hd el0
      go_wp2_with fail
      go_ret
      have hKE : Key wr b ks true := HK2.out.below (EG.out ▸ HB2.out)
      have hgE : w.grownBy wr (some b) := g_then HG2.out (EG.out ▸ HB2.out)
      refine ⟨g, rfl, ?_, ?_, hKE, hgE, ?_⟩
      · rw [EG.out]; exact HG2.out.size
      · have := HB1.out
        rw [Nat.min_eq_right (by omega), scells_all _ _ _ _ _ (Nat.le_refl _)] at this
        exact this
      · intro hm
        have h2 := HE2.out hm
        subst h2
        exact EG.out ▸ HB2.out
    · have e1 : (o : Int) < (n : Int) := by omega
      have e2 : o < n := by omega
      have e3 : (0 : Int) ≤ (o : Int) := by omega
      have e4 : (o : Int) ≤ (n : Int) := by omega
      have e5 : o ≤ n := by omega
      obtain ⟨x0, ex⟩ : ∃ x0, x0 = (blockK (kw ks) (up, l0)).1 := ⟨_, rfl⟩
      obtain ⟨y0, ey⟩ : ∃ y0, y0 = (blockK (kw ks) (up, l0)).2 := ⟨_, rfl⟩
      obtain ⟨l1, el1⟩ : ∃ l1, l1 = lo + BitVec.ofNat 32 (j + 1) := ⟨_, rfl⟩
      have hX : blk64 (kw ks) up lo j = x0.toNat + 4294967296 * y0.toNat := by rw [blk64, ← el0, ← ex, ← ey]
      obtain ⟨X, eX⟩ : ∃ X : Nat, X = blk64 (kw ks) up lo j := ⟨_, rfl⟩
      have hKr : Key wr b ks true := HK2.out.below (EG.out ▸ hb)
      have ct := turn_any b ks up l0 wr hKr
      rw [← ex, ← ey] at ct
      have hBo : Blk wr g 5 (scells (kw ks) up lo n (8 * j)) := by rw [Nat.min_eq_left e5, eo] at hB; exact hB
      have cp := put_any (kw ks) up lo n j g (n - 8 * j) wr (eo ▸ e2) (by have := N2.out; omega) hBo
      rw [← eo, ← eX] at cp
      have cy : (y0.toNat : Int) % 18446744073709551616 = (y0.toNat : Int) := by have := wd_lt y0; omega
      have cx : (x0.toNat : Int) % 18446744073709551616 = (x0.toNat : Int) := by have := wd_lt x0; omega
      have cor : bits .or .u64 ((y0.toNat : Int) * 4294967296 % 18446744073709551616) (x0.toNat : Int) = (X : Int) := by rw [eX, hX]; exact blk64_or x0 y0
      have cor2 : bits .or .u64 ((y0.toNat : Int) * 4294967296) (x0.toNat : Int) = (X : Int) := by
        have hm : (y0.toNat : Int) * 4294967296 % 18446744073709551616 = (y0.toNat : Int) * 4294967296 := by have := wd_lt y0; omega
        rw [← hm]; exact cor
      have cl : ((l0.toNat : Int) + 1) % 4294967296 = (l1.toNat : Int) := by
        rw [el1, el0, BitVec.toNat_add, BitVec.toNat_add, BitVec.toNat_ofNat, BitVec.toNat_ofNat]; omega
      have HB1 := Lib.hid hB; clear hB
      have HB2 := Lib.hid hb; clear hb
      have HX := Lib.hid eX; clear eX
      have HL1 := Lib.hid el1; clear el1
      have HO := Lib.hid eo; clear eo
      have HO2 := Lib.hid e5
      clear hX hKr hBo ex ey el0 hj hd
      go_wp2_with (first | (go_at_call 61; refine Calls.mono ct ?_; rintro e w' ⟨rfl, rfl⟩) | (go_at_call 62; refine Calls.mono cp ?_; rintro e w3 ⟨rfl, hb3, hg3⟩; have HB3 := Lib.hid hb3; clear hb3; have HG3 := Lib.hid hg3; clear hg3))
      go_roundw
      case rel =>
        refine ⟨j + 1, by have := HO.out; omega, ?_, by rw [← HL1.out]; exact congrArg (Value.int .u32) cl, ?_, ?_⟩
        · exact congrArg (Value.int .i64) (by have := HO.out; omega)
        · have := HB3.out
          rw [show o + 8 = 8 * (j + 1) by have := HO.out; omega] at this
          exact this
        · exact Below.grown HB2.out HG3.out (by rw [EG.out]; exact HB2.out.size) (fun k hk => by injection hk with hk; omega)
      case measure => have := HO.out; simp [intOf]; omega
end Go.Proofs.YtcjibpjdfhhhkaaGreat.Sp
end
