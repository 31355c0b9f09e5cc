/-
  The halves are made once: doSlow, Do, need; the counts.
-/
import Derived.Test.YtcjibpjdfhhhkaaSeOnce
set_option linter.unusedVariables false
namespace Go.Proofs.Ytcjibpjdfhhhkaa.Se
open Go.RowKit Go.Proofs.Ytcjibpjdfhhhkaa.Mem

set_option maxRecDepth 100000 in
set_option maxHeartbeats 1600000 in
theorem slow (b : Nat) (ks : Nat → UInt8) (a o r : Nat) (w : World) (hK : XB w b ks 0 0 none zeroK a o r) :
    Calls Try.prog 62 #[.pointer (some ⟨b, 32, none⟩), .func (.func 50) #[.pointer (some ⟨b, 0, none⟩)] #[]] w fun e w' => e = .returned (.tuple #[]) ∧ ∃ g, XB w' b ks 1 0 (some ⟨g, 0, none⟩) (k2 ks) a o r ∧ w.heap.size ≤ g ∧ Sp.Key w' g ks false ∧ w.grownBy w' (some b) := by
  have hK1 : XB (w.setCell ⟨b, 33, none⟩ (.int .i32 1)) b ks 0 1 none zeroK a o r := hK.set_s 1
  have g1 : w.grownBy (w.setCell ⟨b, 33, none⟩ (.int .i32 1)) (some b) := g_set (World.grownBy.refl _ _) (.inl rfl) _
  have hsz : (w.setCell ⟨b, 33, none⟩ (.int .i32 1)).heap.size = w.heap.size := by simp [World.setCell]
  have cl := Sp.lock_free ⟨b, 33, none⟩ w hK.cs (hK.fz 33)
  have cd := Sp.load_flag ⟨b, 32, none⟩ 0 _ hK1.cd false rfl
  have cm := make_halves b ks a o r 0 1 _ hK1
  rw [hsz] at cm
  have hnot : ∀ (x : Bool) (w : World), (Op.unary .not (.bool x)).run Try.prog w = .ok (.bool (!x)) w := fun _ _ => rfl
  have hlt := hK.lt
  have H := Lib.hid hK; clear hK
  have H1 := Lib.hid hK1; clear hK1
  have G1 := Lib.hid g1; clear g1
  have LT := Lib.hid hlt; clear hlt
  clear hsz
  go_enter_defers Try.func62, Try.ntmps62
  go_wp2_with (first | (go_at_call 74; refine Calls.mono cl ?_; rintro e w' ⟨rfl, rfl⟩) | (go_at_call 61; refine Calls.mono cd ?_; rintro e w' ⟨rfl, rfl⟩) | (go_at_call 50; refine Calls.mono cm ?_; rintro e w2 ⟨rfl, g, hK2, hgs, hkey, hg2⟩))
  refine leaves_cons (f := 76) (args := #[.pointer (some ⟨b, 32, none⟩), .bool true]) (by simp) (by simp [go_sem]) ?_
  refine (Sp.store_deferred ⟨b, 32, none⟩ _ .returning w2 hK2.cd (hK2.fz 32)).mono ?_
  rintro e u' w'' ⟨rfl, rfl, rfl⟩
  have hgb : b ≠ g := by have := LT.out; omega
  have hK3 := XB.set_d hK2.drew 1
  refine leaves_cons (f := 75) (args := #[.pointer (some ⟨b, 33, none⟩)]) (by simp [settle]) (by simp [go_sem]) ?_
  refine (Sp.unlock_deferred ⟨b, 33, none⟩ _ _ hK3.cs (hK3.fz 33)).mono ?_
  rintro e u' w'' ⟨rfl, rfl, rfl⟩
  have hK4 := XB.set_s hK3 0
  have hkey4 := Key.far (Key.far (w := w2.drew) (m := false) hkey ⟨b, 32, none⟩ (.int .u32 1) hgb) ⟨b, 33, none⟩ (.int .i32 0) hgb
  have hg4 := g_set (row := some b) (g_set (row := some b) (g_drew (World.grownBy.refl w2 (some b))) (p := ⟨b, 32, none⟩) (.inl rfl) (.int .u32 1)) (p := ⟨b, 33, none⟩) (.inl rfl) (.int .i32 0)
  have hg5 := Sp.grown_trans (Sp.grown_trans G1.out hg2) hg4
  simp [Leaves, settle, results, Try.results62]
  exact ⟨g, hK4, hgs, hkey4, hg5⟩

theorem do_first (b : Nat) (ks : Nat → UInt8) (a o r : Nat) (w : World) (hK : XB w b ks 0 0 none zeroK a o r) :
    Calls Try.prog 49 #[.pointer (some ⟨b, 32, none⟩), .func (.func 50) #[.pointer (some ⟨b, 0, none⟩)] #[]] w fun e w' => e = .returned (.tuple #[]) ∧ ∃ g, XB w' b ks 1 0 (some ⟨g, 0, none⟩) (k2 ks) a o r ∧ w.heap.size ≤ g ∧ Sp.Key w' g ks false ∧ w.grownBy w' (some b) := by
  have cd := Sp.load_flag ⟨b, 32, none⟩ 0 w hK.cd false rfl
  have cs := slow b ks a o r w hK
  have hnot : ∀ (x : Bool) (w : World), (Op.unary .not (.bool x)).run Try.prog w = .ok (.bool (!x)) w := fun _ _ => rfl
  clear hK
  go_enter Try.func49, Try.ntmps49
  go_wp2_with (first | (go_at_call 61; refine Calls.mono cd ?_; rintro e w' ⟨rfl, rfl⟩) | (go_at_call 62; refine Calls.mono cs ?_; rintro e w2 ⟨rfl, h2⟩; have H2 := Lib.hid h2; clear h2))
  go_end0
  exact ⟨rfl, H2.out⟩

theorem do_done (b : Nat) (fv : Value) (w : World) (hd : w.cell? ⟨b, 32, none⟩ = some (.int .u32 1)) :
    Calls Try.prog 49 #[.pointer (some ⟨b, 32, none⟩), fv] w fun e w' => e = .returned (.tuple #[]) ∧ w' = w := by
  have cd := Sp.load_flag ⟨b, 32, none⟩ 1 w hd true rfl
  have hnot : ∀ (x : Bool) (w : World), (Op.unary .not (.bool x)).run Try.prog w = .ok (.bool (!x)) w := fun _ _ => rfl
  clear hd
  go_enter Try.func49, Try.ntmps49
  go_wp2_with (first | (go_at_call 61; refine Calls.mono cd ?_; rintro e w' ⟨rfl, rfl⟩))
  go_end0
  exact ⟨rfl, rfl⟩

/-- behind it the halves are there -/
theorem need_any (b : Nat) (ks : Nat → UInt8) (h : Option Nat) (a o r : Nat) (w : World) (hK : Box w b ks h a o r) :
    Calls Try.prog 39 #[.pointer (some ⟨b, 0, none⟩)] w fun e w' => e = .returned (.tuple #[]) ∧ ∃ g, Box w' b ks (some g) a o r ∧ Step w w' b h g := by
  have hmf : ∀ (fn : Fn) (first cap : Array Value) (w : World), (Instr.makeFunc fn first cap).run Try.prog w = .ok (.func fn first cap) w := fun _ _ _ _ => rfl
  cases h with
  | none =>
    have cf := do_first b ks a o r w hK
    have hlt := XB.lt hK
    have LT := Lib.hid hlt; clear hlt
    clear hK
    go_enter Try.func39, Try.ntmps39
    go_wp2_with (first | (go_at_call 49; refine Calls.mono cf ?_; rintro e w' ⟨rfl, h2⟩; have H2 := Lib.hid h2; clear h2))
    go_end0
    obtain ⟨g, h1, h2, h3, h4⟩ := H2.out
    exact ⟨rfl, g, ⟨h1, by have := LT.out; omega, false, h3⟩, Chg.of_grown h4 (.inl rfl), .inr ⟨rfl, h2⟩⟩
  | some g =>
    have cf := fun fv => do_done b fv w (XB.cd hK.1)
    have H := Lib.hid hK; clear hK
    go_enter Try.func39, Try.ntmps39
    go_wp2_with (first | (go_at_call 49; refine Calls.mono (cf _) ?_; rintro e w' ⟨rfl, rfl⟩))
    go_end0
    exact ⟨rfl, g, H.out, Chg.refl _ _, .inl rfl⟩

/-! ### the counts -/
theorem add_one (p : Addr) (a : Nat) (w : World) (ha : a < 1000000) (hc : w.cell? p = some (.int .i64 (a : Int))) (hz : w.frozen? p = false) :
    Calls Try.prog 28 #[.pointer (some p), .int .i64 1] w fun e w' => e = .returned (.int .i64 ((a + 1 : Nat) : Int)) ∧ w' = w.setCell p (.int .i64 ((a + 1 : Nat) : Int)) := by
  have hadd := run_call_add (P := Try.prog) Try.func42 (by kernel_rfl) (by kernel_rfl) (by kernel_rfl) .i64 (by kernel_rfl) (y := 1) (s := ((a + 1 : Nat) : Int)) hc hz (by
    have h : IntKind.i64.wrap ((a : Int) + 1) = ((a + 1 : Nat) : Int) := by rw [IntKind.wrap_i64]; omega
    simp [go_sem, h])
  clear hc hz ha
  go_enter Try.func28, Try.ntmps28
  go_wp2
  go_ret
  exact ⟨rfl, rfl⟩
theorem load_count (p : Addr) (a : Nat) (w : World) (hc : w.cell? p = some (.int .i64 (a : Int))) :
    Calls Try.prog 31 #[.pointer (some p)] w fun e w' => e = .returned (.int .i64 (a : Int)) ∧ w' = w := by
  have hl := run_call_load (P := Try.prog) Try.func43 (by kernel_rfl) (by kernel_rfl) (by kernel_rfl) .i64 (by kernel_rfl) hc
  clear hc
  go_enter Try.func31, Try.ntmps31
  go_wp2
  go_ret
  exact ⟨rfl, rfl⟩
end Go.Proofs.Ytcjibpjdfhhhkaa.Se
