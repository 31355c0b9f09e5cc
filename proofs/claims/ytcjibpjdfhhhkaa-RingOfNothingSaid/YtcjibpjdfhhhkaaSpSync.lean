/-
  A Key in memory; package sync's Once over it, one goroutine.
-/
import Derived.Test.YtcjibpjdfhhhkaaSpWord
set_option linter.unusedVariables false
namespace Go.Proofs.Ytcjibpjdfhhhkaa.Sp
open Go.RowKit Go.Proofs.Ytcjibpjdfhhhkaa.Mem

/-- a Key's cells: its bytes; done, the lock's two; made; the words -/
def kcells (ks : Nat → UInt8) (d s m : Int) (W : Nat → Wd) : Array Value :=
  ((List.range 16).map (fun i => bv (ks i)) ++ (([.int .u32 d, .int .i32 s, .int .u32 0, .int .u32 m] : List Value) ++ (List.range 27).map (fun j => wv (W j)))).toArray
def KB (w : World) (b : Nat) (ks : Nat → UInt8) (d s m : Int) (W : Nat → Wd) : Prop := Blk w b 125 (kcells ks d s m W)

theorem kcells_key (ks : Nat → UInt8) (d s m : Int) (W : Nat → Wd) (i : Nat) (h : i < 16) : (kcells ks d s m W)[i]? = some (bv (ks i)) := by
  rw [kcells, List.getElem?_toArray, List.getElem?_append_left (by simpa using h)]
  simp [h]
theorem kcells_mid (ks : Nat → UInt8) (d s m : Int) (W : Nat → Wd) (i : Nat) (h : i < 4) : (kcells ks d s m W)[16 + i]? = ([.int .u32 d, .int .i32 s, .int .u32 0, .int .u32 m] : List Value)[i]? := by
  rw [kcells, List.getElem?_toArray, List.getElem?_append_right (by simp), List.getElem?_append_left (by simpa using h)]
  simp
theorem kcells_word (ks : Nat → UInt8) (d s m : Int) (W : Nat → Wd) (i : Nat) (h : i < 27) : (kcells ks d s m W)[20 + i]? = some (wv (W i)) := by
  rw [kcells, List.getElem?_toArray, List.getElem?_append_right (by simp; omega), List.getElem?_append_right (by simp; omega)]
  have : 20 + i - (List.map (fun i => bv (ks i)) (List.range 16)).length - ([.int .u32 d, .int .i32 s, .int .u32 0, .int .u32 m] : List Value).length = i := by simp; omega
  rw [this]
  simp [h]
theorem kcells_set_d (ks : Nat → UInt8) (d s m d' : Int) (W : Nat → Wd) : (kcells ks d s m W).setIfInBounds 16 (.int .u32 d') = kcells ks d' s m W := by
  simp [kcells]
theorem kcells_set_s (ks : Nat → UInt8) (d s m s' : Int) (W : Nat → Wd) : (kcells ks d s m W).setIfInBounds 17 (.int .i32 s') = kcells ks d s' m W := by
  simp [kcells]
theorem kcells_set_m (ks : Nat → UInt8) (d s m m' : Int) (W : Nat → Wd) : (kcells ks d s m W).setIfInBounds 19 (.int .u32 m') = kcells ks d s m' W := by
  simp [kcells]
def upd (W : Nat → Wd) (i : Nat) (v : Wd) (j : Nat) : Wd := if j = i then v else W j
theorem kcells_set_word (ks : Nat → UInt8) (d s m : Int) (W : Nat → Wd) (i : Nat) (v : Wd) : (kcells ks d s m W).setIfInBounds (20 + i) (wv v) = kcells ks d s m (upd W i v) := by
  have e : ((List.range 27).map fun j => wv (W j)).set i (wv v) = (List.range 27).map fun j => wv (upd W i v j) := by
    apply List.ext_getElem?
    intro j
    rw [List.getElem?_set, List.getElem?_map, List.getElem?_map]
    by_cases hj : i = j
    · subst hj
      by_cases h27 : i < 27
      · simp [h27, upd]
      · simp [h27]
    · have hji : ¬ j = i := fun h => hj h.symm
      rw [if_neg hj]
      rcases Nat.lt_or_ge j 27 with h | h
      · simp [h, upd, hji]
      · rw [List.getElem?_eq_none (by simpa using h)]; rfl
  unfold kcells
  rw [List.setIfInBounds_toArray, List.set_append_right _ _ (by simp; omega), List.set_append_right _ _ (by simp; omega)]
  have : 20 + i - (List.map (fun i => bv (ks i)) (List.range 16)).length - ([.int .u32 d, .int .i32 s, .int .u32 0, .int .u32 m] : List Value).length = i := by simp; omega
  rw [this, e]

section
variable {w w' : World} {b : Nat} {ks : Nat → UInt8} {d s m : Int} {W : Nat → Wd}
theorem KB.cell (h : KB w b ks d s m W) (i : Nat) : w.cell? ⟨b, i, none⟩ = (kcells ks d s m W)[i]? := Blk.cell h i
theorem KB.cd (h : KB w b ks d s m W) : w.cell? ⟨b, 16, none⟩ = some (.int .u32 d) := (h.cell 16).trans (kcells_mid ks d s m W 0 (by decide))
theorem KB.cs (h : KB w b ks d s m W) : w.cell? ⟨b, 17, none⟩ = some (.int .i32 s) := (h.cell 17).trans (kcells_mid ks d s m W 1 (by decide))
theorem KB.cm (h : KB w b ks d s m W) : w.cell? ⟨b, 19, none⟩ = some (.int .u32 m) := (h.cell 19).trans (kcells_mid ks d s m W 3 (by decide))
theorem KB.cw (h : KB w b ks d s m W) (i : Nat) (hi : i < 27) : w.cell? ⟨b, 20 + i, none⟩ = some (wv (W i)) := (h.cell _).trans (kcells_word ks d s m W i hi)
theorem KB.ck (h : KB w b ks d s m W) (i : Nat) (hi : i < 16) : w.cell? ⟨b, i, none⟩ = some (bv (ks i)) := (h.cell _).trans (kcells_key ks d s m W i hi)
theorem KB.fz (h : KB w b ks d s m W) (i : Nat) : w.frozen? ⟨b, i, none⟩ = false := Blk.frozen h i
theorem KB.set_d (h : KB w b ks d s m W) (d' : Int) : KB (w.setCell ⟨b, 16, none⟩ (.int .u32 d')) b ks d' s m W := by
  have := Blk.set h 16 (.int .u32 d'); rwa [kcells_set_d] at this
theorem KB.set_s (h : KB w b ks d s m W) (s' : Int) : KB (w.setCell ⟨b, 17, none⟩ (.int .i32 s')) b ks d s' m W := by
  have := Blk.set h 17 (.int .i32 s'); rwa [kcells_set_s] at this
theorem KB.set_m (h : KB w b ks d s m W) (m' : Int) : KB (w.setCell ⟨b, 19, none⟩ (.int .u32 m')) b ks d s m' W := by
  have := Blk.set h 19 (.int .u32 m'); rwa [kcells_set_m] at this
theorem KB.set_word (h : KB w b ks d s m W) (i : Nat) (v : Wd) : KB (w.setCell ⟨b, 20 + i, none⟩ (wv v)) b ks d s m (upd W i v) := by
  have := Blk.set h (20 + i) (wv v); rwa [kcells_set_word] at this
theorem KB.lt (h : KB w b ks d s m W) : b < w.heap.size := Blk.lt h
theorem KB.drewN (h : KB w b ks d s m W) (n : Nat) : KB (w.drewN n) b ks d s m W := h
theorem KB.drew (h : KB w b ks d s m W) : KB w.drew b ks d s m W := h
theorem KB.below (h : KB w b ks d s m W) (hb : Below w.heap.size w w') : KB w' b ks d s m W := Blk.below h hb
theorem KB.grown {row : Option Nat} (h : KB w b ks d s m W) (hb : w.grownBy w' row) (hg : row ≠ some b) : KB w' b ks d s m W := Blk.grown h hb hg
end

/-! ### package sync -/
theorem disable (w : World) : (callFunc 86 #[]).run Try.prog w = .ok (.value (.tuple #[])) w := run_call_mark0 Try.func86 (by kernel_rfl) (by kernel_rfl) (by kernel_rfl) .disable (by kernel_rfl) w
theorem enable (w : World) : (callFunc 88 #[]).run Try.prog w = .ok (.value (.tuple #[])) w := run_call_mark0 Try.func88 (by kernel_rfl) (by kernel_rfl) (by kernel_rfl) .enable (by kernel_rfl) w
theorem acquire (a : Addr) (w : World) : (callFunc 89 #[.pointer (some a)]).run Try.prog w = .ok (.value (.tuple #[])) w := run_call_marked Try.func89 (by kernel_rfl) (by kernel_rfl) (by kernel_rfl) .acquire (by kernel_rfl) a w
theorem releaseMerge (a : Addr) (w : World) : (callFunc 91 #[.pointer (some a)]).run Try.prog w = .ok (.value (.tuple #[])) w := run_call_marked Try.func91 (by kernel_rfl) (by kernel_rfl) (by kernel_rfl) .releaseMerge (by kernel_rfl) a w

/-- a flag is set: its cell holds 1 -/
theorem store_true (a : Addr) (x : Value) (w : World) (hc : w.cell? a = some x) (hz : w.frozen? a = false) :
    Calls Try.prog 76 #[.pointer (some a), .bool true] w fun e w' => e = .returned (.tuple #[]) ∧ w' = w.drew.setCell a (.int .u32 1) := by
  have hc' : w.drew.cell? a = some x := by go_simp
  have hz' : w.drew.frozen? a = false := by go_simp
  have hst := run_call_store (P := Try.prog) Try.func83 (by kernel_rfl) (by kernel_rfl) (by kernel_rfl) (by kernel_rfl) (k := .u32) (y := 1) hc' hz'
  go_enter Try.func76, Try.ntmps76
  go_wp2
  go_region_calls
  all_goals (go_end0; exact ⟨rfl, rfl⟩)
theorem store_deferred (a : Addr) (x : Value) (u : FrameMode) (w : World) (hc : w.cell? a = some x) (hz : w.frozen? a = false) :
    CallsD Try.prog 76 #[.pointer (some a), .bool true] u w fun e u' w' => u' = u ∧ (e = .returned (.tuple #[]) ∧ w' = w.drew.setCell a (.int .u32 1)) := by
  have hc' : w.drew.cell? a = some x := by go_simp
  have hz' : w.drew.frozen? a = false := by go_simp
  have hst := run_call_store (P := Try.prog) Try.func83 (by kernel_rfl) (by kernel_rfl) (by kernel_rfl) (by kernel_rfl) (k := .u32) (y := 1) hc' hz'
  go_enter_d Try.func76, Try.ntmps76
  go_wp2
  go_region_calls
  all_goals (go_end0; exact ⟨rfl, rfl⟩)
/-- a flag is asked -/
theorem load_flag (a : Addr) (d : Int) (w : World) (hc : w.cell? a = some (.int .u32 d)) (x : Bool) (hx : (d != 0) = x) :
    Calls Try.prog 61 #[.pointer (some a)] w fun e w' => e = .returned (.bool x) ∧ w' = w := by
  have hl := run_call_load (P := Try.prog) Try.func73 (by kernel_rfl) (by kernel_rfl) (by kernel_rfl) .u32 (by kernel_rfl) hc
  go_enter Try.func61, Try.ntmps61
  go_wp2
  go_ret
  exact ⟨rfl, rfl⟩
set_option maxRecDepth 100000 in
/-- the lock, held, nobody waiting: it is let go -/
theorem unlock_deferred (a : Addr) (u : FrameMode) (w : World) (hc : w.cell? a = some (.int .i32 1)) (hz : w.frozen? a = false) :
    CallsD Try.prog 75 #[.pointer (some a)] u w fun e u' w' => u' = u ∧ (e = .returned (.tuple #[]) ∧ w' = w.setCell a (.int .i32 0)) := by
  have hd := disable
  have he := enable
  have hr := releaseMerge
  have hadd := run_call_add (P := Try.prog) Try.func92 (by kernel_rfl) (by kernel_rfl) (by kernel_rfl) .i32 (by kernel_rfl) (y := -1) (s := 0) hc hz (by simp [go_sem]; rfl)
  have hcv := run_convert_to_unsafe (P := Try.prog) (src := 146) (dst := 150) Try.underlying146 Try.underlying150 (by kernel_rfl) hc
  go_enter_d Try.func75, Try.ntmps75
  go_wp2
  go_end0
  go_wp2
  go_end0
  exact ⟨rfl, rfl⟩
set_option maxRecDepth 100000 in
/-- the lock, free: it is taken -/
theorem lock_free (a : Addr) (w : World) (hc : w.cell? a = some (.int .i32 0)) (hz : w.frozen? a = false) :
    Calls Try.prog 74 #[.pointer (some a)] w fun e w' => e = .returned (.tuple #[]) ∧ w' = w.setCell a (.int .i32 1) := by
  have hd := disable
  have he := enable
  have ha := acquire
  have hcas := run_call_cas_hit (P := Try.prog) Try.func87 (by kernel_rfl) (by kernel_rfl) (by kernel_rfl) .i32 (by kernel_rfl) (y := 1) hc hz
  have hc' : (w.setCell a (.int .i32 1)).cell? a = some (.int .i32 1) := World.cell?_setCell_same w a _ hc
  have hcv := run_convert_to_unsafe (P := Try.prog) (src := 146) (dst := 150) Try.underlying146 Try.underlying150 (by kernel_rfl) hc'
  go_enter Try.func74, Try.ntmps74
  go_wp2
  first | go_end0 | (simp only [Exit.inBlock, Exit.then]; refine bodyPost_ret (results_none rfl _ _ _) rfl ?_) | refine bodyPost_ret (results_none rfl _ _ _) rfl ?_
  go_wp2
  go_end0
  exact ⟨rfl, rfl⟩
end Go.Proofs.Ytcjibpjdfhhhkaa.Sp
