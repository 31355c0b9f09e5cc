/-
  The words are made once: doSlow, Do, need.
-/
import Derived.Test.YtcjibpjdfhhhkaaSpMake2
set_option linter.unusedVariables false
namespace Go.Proofs.Ytcjibpjdfhhhkaa.Sp
open Go.RowKit Go.Proofs.Ytcjibpjdfhhhkaa.Mem

abbrev zeroW : Nat → Wd := fun _ => 0
/-- a Key whose words are not made, or are -/
def Key (w : World) (b : Nat) (ks : Nat → UInt8) : Bool → Prop
  | false => KB w b ks 0 0 0 zeroW
  | true => KB w b ks 1 0 1 (wordsTo ks 26)

theorem grown_trans {a w c : World} {row : Option Nat} (h : a.grownBy w row) (k : w.grownBy c row) : a.grownBy c row :=
  ⟨k.os.trans h.os, k.tape.trans h.tape, k.output.trans h.output, Nat.le_trans h.size k.size, fun i hi hn => (k.block i (Nat.lt_of_lt_of_le hi h.size) hn).trans (h.block i hi hn)⟩

set_option maxRecDepth 100000 in
set_option maxHeartbeats 1600000 in
theorem slow (b : Nat) (ks : Nat → UInt8) (w : World) (hK : KB w b ks 0 0 0 zeroW) :
    Calls Try.prog 62 #[.pointer (some ⟨b, 16, none⟩), .func (.func 64) #[.pointer (some ⟨b, 0, none⟩)] #[]] w fun e w' => e = .returned (.tuple #[]) ∧ KB w' b ks 1 0 1 (wordsTo ks 26) ∧ w.grownBy w' (some b) := by
  have hK1 : KB (w.setCell ⟨b, 17, none⟩ (.int .i32 1)) b ks 0 1 0 zeroW := hK.set_s 1
  have g1 : w.grownBy (w.setCell ⟨b, 17, none⟩ (.int .i32 1)) (some b) := g_set (World.grownBy.refl _ _) (.inl rfl) _
  have cl := lock_free ⟨b, 17, none⟩ w hK.cs (hK.fz 17)
  have cd := load_flag ⟨b, 16, none⟩ 0 _ hK1.cd false rfl
  have cm := make_words b ks _ hK1
  have hnot : ∀ (x : Bool) (w : World), (Op.unary .not (.bool x)).run Try.prog w = .ok (.bool (!x)) w := fun _ _ => rfl
  have H := Lib.hid hK; clear hK
  have H1 := Lib.hid hK1; clear hK1
  have G1 := Lib.hid g1; clear g1
  go_enter_defers Try.func62, Try.ntmps62
  go_wp2_with (first | (go_at_call 74; refine Calls.mono cl ?_; rintro e w' ⟨rfl, rfl⟩) | (go_at_call 61; refine Calls.mono cd ?_; rintro e w' ⟨rfl, rfl⟩) | (go_at_call 64; refine Calls.mono cm ?_; rintro e w2 ⟨rfl, hK2, hg2⟩))
  refine leaves_cons (f := 76) (args := #[.pointer (some ⟨b, 16, none⟩), .bool true]) (by simp) (by simp [go_sem]) ?_
  refine (store_deferred ⟨b, 16, none⟩ _ .returning w2 hK2.cd (hK2.fz 16)).mono ?_
  rintro e u' w'' ⟨rfl, rfl, rfl⟩
  have hK3 := KB.set_d hK2.drew 1
  refine leaves_cons (f := 75) (args := #[.pointer (some ⟨b, 17, none⟩)]) (by simp [settle]) (by simp [go_sem]) ?_
  refine (unlock_deferred ⟨b, 17, none⟩ _ _ hK3.cs (hK3.fz 17)).mono ?_
  rintro e u' w'' ⟨rfl, rfl, rfl⟩
  have hK4 := KB.set_s hK3 0
  have hg4 := g_set (row := some b) (g_set (row := some b) (g_drew (World.grownBy.refl w2 (some b))) (p := ⟨b, 16, none⟩) (.inl rfl) (.int .u32 1)) (p := ⟨b, 17, none⟩) (.inl rfl) (.int .i32 0)
  have hg5 := grown_trans (grown_trans G1.out hg2) hg4
  simp [Leaves, settle, results, Try.results62]
  exact ⟨hK4, hg5⟩

theorem do_first (b : Nat) (ks : Nat → UInt8) (w : World) (hK : KB w b ks 0 0 0 zeroW) :
    Calls Try.prog 49 #[.pointer (some ⟨b, 16, none⟩), .func (.func 64) #[.pointer (some ⟨b, 0, none⟩)] #[]] w fun e w' => e = .returned (.tuple #[]) ∧ KB w' b ks 1 0 1 (wordsTo ks 26) ∧ w.grownBy w' (some b) := by
  have cd := load_flag ⟨b, 16, none⟩ 0 w hK.cd false rfl
  have cs := slow b ks w hK
  have hnot : ∀ (x : Bool) (w : World), (Op.unary .not (.bool x)).run Try.prog w = .ok (.bool (!x)) w := fun _ _ => rfl
  clear hK
  go_enter Try.func49, Try.ntmps49
  go_wp2_with (first | (go_at_call 61; refine Calls.mono cd ?_; rintro e w' ⟨rfl, rfl⟩) | (go_at_call 62; refine Calls.mono cs ?_; rintro e w2 ⟨rfl, hK2, hg2⟩))
  go_end0
  exact ⟨rfl, hK2, hg2⟩

theorem do_done (b : Nat) (fv : Value) (w : World) (hd : w.cell? ⟨b, 16, none⟩ = some (.int .u32 1)) :
    Calls Try.prog 49 #[.pointer (some ⟨b, 16, none⟩), fv] w fun e w' => e = .returned (.tuple #[]) ∧ w' = w := by
  have cd := load_flag ⟨b, 16, none⟩ 1 w hd true rfl
  have hnot : ∀ (x : Bool) (w : World), (Op.unary .not (.bool x)).run Try.prog w = .ok (.bool (!x)) w := fun _ _ => rfl
  clear hd
  go_enter Try.func49, Try.ntmps49
  go_wp2_with (first | (go_at_call 61; refine Calls.mono cd ?_; rintro e w' ⟨rfl, rfl⟩))
  go_end0
  exact ⟨rfl, rfl⟩

/-- behind it the words are there -/
theorem need_any (b : Nat) (ks : Nat → UInt8) (m : Bool) (w : World) (hK : Key w b ks m) :
    Calls Try.prog 51 #[.pointer (some ⟨b, 0, none⟩)] w fun e w' => e = .returned (.tuple #[]) ∧ Key w' b ks true ∧ w.grownBy w' (some b) ∧ (m = true → w' = w) := by
  have hmf : ∀ (fn : Fn) (first cap : Array Value) (w : World), (Instr.makeFunc fn first cap).run Try.prog w = .ok (.func fn first cap) w := fun _ _ _ _ => rfl
  cases m with
  | false =>
    have cf := do_first b ks w hK
    clear hK
    go_enter Try.func51, Try.ntmps51
    go_wp2_with (first | (go_at_call 49; refine Calls.mono cf ?_; rintro e w' ⟨rfl, hK2, hg2⟩))
    go_end0
    exact ⟨rfl, hK2, hg2, fun h => by cases h⟩
  | true =>
    have cf := fun fv => do_done b fv w (KB.cd hK)
    have H := Lib.hid hK; clear hK
    go_enter Try.func51, Try.ntmps51
    go_wp2_with (first | (go_at_call 49; refine Calls.mono (cf _) ?_; rintro e w' ⟨rfl, rfl⟩))
    go_end0
    exact ⟨rfl, H.out, World.grownBy.refl _ _, fun _ => rfl⟩

/-! ### a block -/
theorem Key.word {w : World} {b : Nat} {ks : Nat → UInt8} (h : Key w b ks true) (i : Nat) (hi : i < 27) : w.cell? ⟨b, 20 + i, none⟩ = some (wv (kw ks i)) := by
  have := KB.cw h i hi
  rwa [wordsTo, if_pos (by omega)] at this
theorem Key.grown {w w' : World} {b : Nat} {ks : Nat → UInt8} {m : Bool} {row : Option Nat} (h : Key w b ks m) (hb : w.grownBy w' row) (hg : row ≠ some b) : Key w' b ks m := by
  cases m with
  | false => exact KB.grown h hb hg
  | true => exact KB.grown h hb hg
theorem Key.lt {w : World} {b : Nat} {ks : Nat → UInt8} {m : Bool} (h : Key w b ks m) : b < w.heap.size := by
  cases m with
  | false => exact KB.lt h
  | true => exact KB.lt h
theorem Key.below {w w' : World} {b : Nat} {ks : Nat → UInt8} {m : Bool} (h : Key w b ks m) (hb : Below w.heap.size w w') : Key w' b ks m :=
  h.grown (g_of_below hb none) (by simp)

set_option maxRecDepth 100000 in
set_option maxHeartbeats 1600000 in
theorem turn_any (b : Nat) (ks : Nat → UInt8) (x y : Wd) (w : World) (hK : Key w b ks true) :
    Calls Try.prog 52 #[.pointer (some ⟨b, 0, none⟩), wv x, wv y] w fun e w' => e = .returned (.tuple #[wv (blockK (kw ks) (x, y)).1, wv (blockK (kw ks) (x, y)).2]) ∧ w' = w := by
  have hw := fun i hi => Key.word hK i hi
  clear hK
  have HW := Lib.hid hw; clear hw
  go_enter Try.func52, Try.ntmps52
  go_wp2_with fail
  go_loop [1, 2, 13] (fun xv yv iv => ∃ i : Nat, i ≤ 27 ∧ iv = .int .i64 (i : Int) ∧ xv = wv (turnN (kw ks) i (x, y)).1 ∧ yv = wv (turnN (kw ks) i (x, y)).2) (fun _ _ iv => 27 - (intOf iv).toNat)
  case atStart => exact ⟨0, by decide, rfl, rfl, rfl⟩
  case round =>
    obtain ⟨i, hi, rfl, rfl, rfl⟩ := hrel
    by_cases h27 : i = 27
    · subst h27
      go_wp2_with fail
      go_ret2
      exact ⟨rfl, rfl⟩
    · have hi0 : (0 : Int) ≤ (i : Int) := by omega
      have hi1 : (i : Int) < 27 := by omega
      have hi2 : i < 27 := by omega
      obtain ⟨p, ep⟩ : ∃ p, p = turnN (kw ks) i (x, y) := ⟨_, rfl⟩
      obtain ⟨k0, ek⟩ : ∃ k0, k0 = kw ks i := ⟨_, rfl⟩
      obtain ⟨x0, ex⟩ : ∃ x0, x0 = p.1 := ⟨_, rfl⟩
      obtain ⟨y0, ey⟩ : ∃ y0, y0 = p.2 := ⟨_, rfl⟩
      obtain ⟨rx, erx⟩ : ∃ rx, rx = rot x0 24 := ⟨_, rfl⟩
      obtain ⟨ry, ery⟩ : ∃ ry, ry = rot y0 3 := ⟨_, rfl⟩
      obtain ⟨sm, es⟩ : ∃ sm, sm = rx + y0 := ⟨_, rfl⟩
      obtain ⟨x1, ex1⟩ : ∃ x1, x1 = sm ^^^ k0 := ⟨_, rfl⟩
      obtain ⟨y1, ey1⟩ : ∃ y1, y1 = ry ^^^ x1 := ⟨_, rfl⟩
      have ck : w.cell? ⟨b, 20 + i, none⟩ = some (wv k0) := by rw [ek]; exact HW.out i hi2
      have hx0 : ((rx.toNat : Int) + (y0.toNat : Int)) % 4294967296 = (sm.toNat : Int) := by rw [es]; exact add_w _ _
      have hx2 : bits .xor .u32 (sm.toNat : Int) (k0.toNat : Int) = (x1.toNat : Int) := by rw [ex1]; exact xor_w _ _
      have hx3 : bits .xor .u32 (ry.toNat : Int) (x1.toNat : Int) = (y1.toNat : Int) := by rw [ey1]; exact xor_w _ _
      have cr8 := right8 x0
      rw [← erx] at cr8
      have cl3 := left3 y0
      rw [← ery] at cl3
      have hn : turnN (kw ks) (i + 1) (x, y) = (x1, y1) := by rw [turnN, ← ep, step, ← ex, ← ey, ← ek, ← erx, ← ery, ← es, ← ex1, ← ey1]
      rw [← ep, ← ex, ← ey]
      have hn' := Lib.hid hn; clear hn
      have hh := Lib.hid hi2
      clear ep ek ex ey erx ery es ex1 ey1 hi h27
      go_wp2_with (first | (go_at_call 65; refine Calls.mono (cr8 _) ?_; rintro e w' ⟨rfl, rfl⟩) | (go_at_call 66; refine Calls.mono (cl3 _) ?_; rintro e w' ⟨rfl, rfl⟩))
      go_round
      case rel => exact ⟨i + 1, by have := hh.out; omega, by go_num, by rw [hn'.out], by rw [hn'.out]⟩
      case measure => have := hh.out; simp [intOf]; omega
end Go.Proofs.Ytcjibpjdfhhhkaa.Sp
