import Derived.StillTailTactics
import Derived.Deep.QuietTactic
import Derived.BigQuiet
import Derived.Test.YtcjibpjdfhhhkaaGreatZRingPlays1
import Derived.Test.YtcjibpjdfhhhkaaGreatZRingPlays2
import Derived.Test.YtcjibpjdfhhhkaaGreatZRingPlays3
import Derived.Test.YtcjibpjdfhhhkaaGreatZRingPlays4
import Derived.Test.YtcjibpjdfhhhkaaGreatZRingPlays5
import Derived.Test.YtcjibpjdfhhhkaaGreatZRingPlays6
section
set_option linter.unusedVariables false
namespace Go.Proofs.YtcjibpjdfhhhkaaGreat.Se
open Go.RowKit Go.Proofs.YtcjibpjdfhhhkaaGreat.Mem

set_option maxRecDepth 100000 in
set_option maxHeartbeats 1600000 in
theorem slow (b : Nat) (ks : Nat → UInt8) (a o r : Nat) (w : World) (hK : XB w b ks 0 0 none zeroK a o r) :
    Calls Tryz.prog 77 #[.pointer (some ⟨b, 32, none⟩), .func (.func 59) #[.pointer (some ⟨b, 0, none⟩)] #[]] w fun e w' => e = .returned (.tuple #[]) ∧ ∃ g, XB w' b ks 1 0 (some ⟨g, 0, none⟩) (k2 ks) a o r ∧ w.heap.size ≤ g ∧ Sp.Key w' g ks false ∧ w.grownBy w' (some b) := by
  have hK1 : XB (w.setCell ⟨b, 33, none⟩ (.int .i32 1)) b ks 0 1 none zeroK a o r := hK.set_s 1
  have g1 : w.grownBy (w.setCell ⟨b, 33, none⟩ (.int .i32 1)) (some b) := g_set (World.grownBy.refl _ _) (.inl rfl) _
  have hsz : (w.setCell ⟨b, 33, none⟩ (.int .i32 1)).heap.size = w.heap.size := by simp [World.setCell]
  have cl := Sp.lock_free ⟨b, 33, none⟩ w hK.cs (hK.fz 33)
  have cd := Sp.load_flag ⟨b, 32, none⟩ 0 _ hK1.cd false rfl
  have cm := make_halves b ks a o r 0 1 _ hK1
  rw [hsz] at cm
  have hnot : ∀ (x : Bool) (w : World), (Op.unary .not (.bool x)).run Tryz.prog w = .ok (.bool (!x)) w := fun _ _ => rfl
  have hlt := hK.lt
  have H := Lib.hid hK; clear hK
  have H1 := Lib.hid hK1; clear hK1
  have G1 := Lib.hid g1; clear g1
  have LT := Lib.hid hlt; clear hlt
  clear hsz
  go_enter_defers Tryz.func77, Tryz.ntmps77
  go_wp2_with (first | (go_at_call 90; refine Calls.mono cl ?_; rintro e w' ⟨rfl, rfl⟩) | (go_at_call 76; refine Calls.mono cd ?_; rintro e w' ⟨rfl, rfl⟩) | (go_at_call 59; refine Calls.mono cm ?_; rintro e w2 ⟨rfl, g, hK2, hgs, hkey, hg2⟩))
  refine leaves_cons (f := 92) (args := #[.pointer (some ⟨b, 32, none⟩), .bool true]) (by simp) (by simp [go_sem]) ?_
  refine (Sp.store_deferred ⟨b, 32, none⟩ _ .returning w2 hK2.cd (hK2.fz 32)).mono ?_
  rintro e u' w'' ⟨rfl, rfl, rfl⟩
  have hgb : b ≠ g := by have := LT.out; omega
  have hK3 := XB.set_d hK2.drew 1
  refine leaves_cons (f := 91) (args := #[.pointer (some ⟨b, 33, none⟩)]) (by simp [settle]) (by simp [go_sem]) ?_
  refine (Sp.unlock_deferred ⟨b, 33, none⟩ _ _ hK3.cs (hK3.fz 33)).mono ?_
  rintro e u' w'' ⟨rfl, rfl, rfl⟩
  have hK4 := XB.set_s hK3 0
  have hkey4 := Key.far (Key.far (w := w2.drew) (m := false) hkey ⟨b, 32, none⟩ (.int .u32 1) hgb) ⟨b, 33, none⟩ (.int .i32 0) hgb
  have hg4 := g_set (row := some b) (g_set (row := some b) (g_drew (World.grownBy.refl w2 (some b))) (p := ⟨b, 32, none⟩) (.inl rfl) (.int .u32 1)) (p := ⟨b, 33, none⟩) (.inl rfl) (.int .i32 0)
  have hg5 := Sp.grown_trans (Sp.grown_trans G1.out hg2) hg4
  simp [Leaves, settle, results, Tryz.results77]
  exact ⟨g, hK4, hgs, hkey4, hg5⟩

theorem do_first (b : Nat) (ks : Nat → UInt8) (a o r : Nat) (w : World) (hK : XB w b ks 0 0 none zeroK a o r) :
    Calls Tryz.prog 58 #[.pointer (some ⟨b, 32, none⟩), .func (.func 59) #[.pointer (some ⟨b, 0, none⟩)] #[]] w fun e w' => e = .returned (.tuple #[]) ∧ ∃ g, XB w' b ks 1 0 (some ⟨g, 0, none⟩) (k2 ks) a o r ∧ w.heap.size ≤ g ∧ Sp.Key w' g ks false ∧ w.grownBy w' (some b) := by
  have cd := Sp.load_flag ⟨b, 32, none⟩ 0 w hK.cd false rfl
  have cs := slow b ks a o r w hK
  have hnot : ∀ (x : Bool) (w : World), (Op.unary .not (.bool x)).run Tryz.prog w = .ok (.bool (!x)) w := fun _ _ => rfl
  clear hK
  go_enter Tryz.func58, Tryz.ntmps58
  go_wp2_with (first | (go_at_call 76; refine Calls.mono cd ?_; rintro e w' ⟨rfl, rfl⟩) | (go_at_call 77; refine Calls.mono cs ?_; rintro e w2 ⟨rfl, h2⟩; have H2 := Lib.hid h2; clear h2))
  go_end0
  exact ⟨rfl, H2.out⟩

theorem do_done (b : Nat) (fv : Value) (w : World) (hd : w.cell? ⟨b, 32, none⟩ = some (.int .u32 1)) :
    Calls Tryz.prog 58 #[.pointer (some ⟨b, 32, none⟩), fv] w fun e w' => e = .returned (.tuple #[]) ∧ w' = w := by
  have cd := Sp.load_flag ⟨b, 32, none⟩ 1 w hd true rfl
  have hnot : ∀ (x : Bool) (w : World), (Op.unary .not (.bool x)).run Tryz.prog w = .ok (.bool (!x)) w := fun _ _ => rfl
  clear hd
  go_enter Tryz.func58, Tryz.ntmps58
  go_wp2_with (first | (go_at_call 76; refine Calls.mono cd ?_; rintro e w' ⟨rfl, rfl⟩))
  go_end0
  exact ⟨rfl, rfl⟩

theorem need_any (b : Nat) (ks : Nat → UInt8) (h : Option Nat) (a o r : Nat) (w : World) (hK : Box w b ks h a o r) :
    Calls Tryz.prog 45 #[.pointer (some ⟨b, 0, none⟩)] w fun e w' => e = .returned (.tuple #[]) ∧ ∃ g, Box w' b ks (some g) a o r ∧ Step w w' b h g := by
  have hmf : ∀ (fn : Fn) (first cap : Array Value) (w : World), (Instr.makeFunc fn first cap).run Tryz.prog w = .ok (.func fn first cap) w := fun _ _ _ _ => rfl
  cases h with
  | none =>
    have cf := do_first b ks a o r w hK
    have hlt := XB.lt hK
    have LT := Lib.hid hlt; clear hlt
    clear hK
    go_enter Tryz.func45, Tryz.ntmps45
    go_wp2_with (first | (go_at_call 58; refine Calls.mono cf ?_; rintro e w' ⟨rfl, h2⟩; have H2 := Lib.hid h2; clear h2))
    go_end0
    obtain ⟨g, h1, h2, h3, h4⟩ := H2.out
    exact ⟨rfl, g, ⟨h1, by have := LT.out; omega, false, h3⟩, Chg.of_grown h4 (.inl rfl), .inr ⟨rfl, h2⟩⟩
  | some g =>
    have cf := fun fv => do_done b fv w (XB.cd hK.1)
    have H := Lib.hid hK; clear hK
    go_enter Tryz.func45, Tryz.ntmps45
    go_wp2_with (first | (go_at_call 58; refine Calls.mono (cf _) ?_; rintro e w' ⟨rfl, rfl⟩))
    go_end0
    exact ⟨rfl, g, H.out, Chg.refl _ _, .inl rfl⟩

theorem add_one (p : Addr) (a : Nat) (w : World) (ha : a < 1000000) (hc : w.cell? p = some (.int .i64 (a : Int))) (hz : w.frozen? p = false) :
    Calls Tryz.prog 31 #[.pointer (some p), .int .i64 1] w fun e w' => e = .returned (.int .i64 ((a + 1 : Nat) : Int)) ∧ w' = w.setCell p (.int .i64 ((a + 1 : Nat) : Int)) := by
  have hadd := run_call_add (P := Tryz.prog) Tryz.func48 (by kernel_rfl) (by kernel_rfl) (by kernel_rfl) .i64 (by kernel_rfl) (y := 1) (s := ((a + 1 : Nat) : Int)) hc hz (by
    have h : IntKind.i64.wrap ((a : Int) + 1) = ((a + 1 : Nat) : Int) := by rw [IntKind.wrap_i64]; omega
    simp [go_sem, h])
  clear hc hz ha
  go_enter Tryz.func31, Tryz.ntmps31
  go_wp2
  go_ret
  exact ⟨rfl, rfl⟩
end Go.Proofs.YtcjibpjdfhhhkaaGreat.Se
end

section
set_option linter.unusedVariables false
namespace Go.Proofs.YtcjibpjdfhhhkaaGreat.Se
open Go.RowKit Go.Proofs.YtcjibpjdfhhhkaaGreat.Mem

theorem fit_usage (u : Int) (x : Bool) (hx : x = (decide (0 ≤ u) && decide (u ≤ 255))) (w : World) : Calls Tryz.prog 26 #[.int .i64 u] w fun e w' => e = .returned (.bool x) ∧ w' = w := by
  subst hx
  by_cases h : 0 ≤ u
  · go_enter Tryz.func26, Tryz.ntmps26
    go_wp2
    go_ret
    exact ⟨by simp [h], rfl⟩
  · have h2 : decide (0 ≤ u) = false := by simpa using h
    go_enter Tryz.func26, Tryz.ntmps26
    go_wp2
    go_ret
    exact ⟨by simp, rfl⟩
theorem fit_nonce (n : Nat) (x : Bool) (hx : x = decide (n ≤ 1099511627776)) (w : World) : Calls Tryz.prog 27 #[.int .u64 (n : Int)] w fun e w' => e = .returned (.bool x) ∧ w' = w := by
  subst hx
  have e : decide ((n : Int) ≤ 1099511627776) = decide (n ≤ 1099511627776) := by congr 1; exact propext ⟨by omega, by omega⟩
  have E := Lib.hid e; clear e
  go_enter Tryz.func27, Tryz.ntmps27
  go_wp2
  go_ret
  exact ⟨by rw [← E.out]; rfl, rfl⟩

theorem or_byte (x y : Nat) (hy : y < 256) (hx : x < 72057594037927936) : bits .or .u64 ((x : Int) * 256) (y : Int) = ((x * 256 + y : Nat) : Int) := by
  have e : (x : Int) * 256 = ((x * 256 : Nat) : Int) := by omega
  have h : x * 256 ||| y = x * 256 + y := by
    have h := Nat.shiftLeft_add_eq_or_of_lt (show y < 2 ^ 8 by omega) x
    rw [Nat.shiftLeft_eq] at h
    simpa using h.symm
  rw [e, u64_or_nat _ _ (by omega) (by omega), h]
set_option maxRecDepth 100000 in
set_option maxHeartbeats 1600000 in
theorem word_any (B : Nat) (A : Option Addr) (n c : Nat) (l : List UInt8) (w : World) (hn : n = l.length) (h8 : 8 ≤ n) (hc : n ≤ c) (hr : Rd w B A (bvs l)) :
    Calls Tryz.prog 36 #[.slice A n c] w fun e w' => e = .returned (.int .u64 (n8 l : Int)) ∧ w' = w := by
  obtain ⟨b, o, rfl, hb, hcell⟩ : ∃ b o, A = some ⟨b, o, none⟩ ∧ b < B ∧ ∀ i (h : i < l.length), w.cell? ⟨b, o + i, none⟩ = some (bv l[i]) := by
    rcases hr with h | ⟨b, o, h1, h2, h3⟩
    · have := bvs_length l; rw [h] at this; simp at this; omega
    · exact ⟨b, o, h1, h2, fun i hi => h3 i _ (bvs_at hi)⟩
  have hc8 : (8 : Int) ≤ (c : Int) := by omega
  have hc8' : 8 ≤ c := by omega
  have HC := Lib.hid hcell; clear hcell
  have HN := Lib.hid hn; clear hn
  have H8 := Lib.hid h8; clear h8
  clear hr hc hb
  go_enter Tryz.func36, Tryz.ntmps36
  go_wp2_with fail
  go_loop [3, 9] (fun wv_ iv => ∃ i : Nat, i ≤ 8 ∧ iv = .int .i64 (i : Int) ∧ wv_ = .int .u64 (big 0 (l.take i) : Nat)) (fun _ iv => 8 - (intOf iv).toNat)
  case atStart => exact ⟨0, by decide, rfl, rfl⟩
  case round =>
    obtain ⟨i, hi, rfl, rfl⟩ := hrel
    by_cases hx : i = 8
    · subst hx
      go_wp2_with fail
      go_ret
      exact ⟨rfl, rfl⟩
    · have e1 : (i : Int) < 8 := by omega
      have e2 : (0 : Int) ≤ (i : Int) := by omega
      have e3 : i < 8 := by omega
      have hl : i < l.length := by have := HN.out; have := H8.out; omega
      obtain ⟨y, ey⟩ : ∃ y, y = l[i] := ⟨_, rfl⟩
      have hcc := HC.out i hl
      rw [← ey] at hcc
      simp only [bv] at hcc
      have hy := y.toNat_lt
      obtain ⟨v, ev⟩ : ∃ v, v = big 0 (l.take i) := ⟨_, rfl⟩
      obtain ⟨u, eu⟩ : ∃ u, u = v * 256 + y.toNat := ⟨_, rfl⟩
      rw [← ev]
      have hv : v < 72057594037927936 := by
        have := big_take_lt l i
        rw [← ev] at this
        exact Nat.lt_of_lt_of_le this (Nat.pow_le_pow_right (by decide) (by omega) : 256 ^ i ≤ 256 ^ 7)
      have hw1 : (v : Int) * 256 % 18446744073709551616 = (v : Int) * 256 := by omega
      have hw2 : (y.toNat : Int) % 18446744073709551616 = (y.toNat : Int) := by omega
      have hw3 : IntKind.u64.wrap (y.toNat : Int) = (y.toNat : Int) := by rw [IntKind.wrap_u64]; exact hw2
      have hw4 : IntKind.u64.wrap ((v : Int) * 256) = (v : Int) * 256 := by rw [IntKind.wrap_u64]; exact hw1
      have hor : bits .or .u64 ((v : Int) * 256) (y.toNat : Int) = (u : Int) := by rw [eu]; exact or_byte v y.toNat hy hv
      have hnx : u = big 0 (l.take (i + 1)) := by rw [big_take l i hl, ← ey, ← ev, eu]
      have NX := Lib.hid hnx; clear hnx
      have HI := Lib.hid hi; clear hi
      have HX := Lib.hid hx; clear hx
      have HV := Lib.hid hv; clear hv
      clear eu ev ey
      go_wp2_with fail
      go_round
      case rel => exact ⟨i + 1, by omega, by go_num, by rw [← NX.out]⟩
      case measure => simp [intOf]; omega

theorem own_push {w w' : World} {base : Nat} {t : TypeId} {v : Value} {n : Nat} {xs : List Value} {o : Obj} (h : w.ownsRow base t 1 v n xs) (e : w'.heap = w.heap.push o) : w'.ownsRow base t 1 v n xs := Si.own_push h e
def laid (xs : List UInt8) (N j : Nat) : List Value := bvs (xs ++ (w8 N).take j)
theorem laid_next (xs : List UInt8) (N j : Nat) (h : j < 8) : laid xs N j ++ [bv (UInt8.ofNat (N / 2 ^ (56 - 8 * j)))] = laid xs N (j + 1) := by
  unfold laid
  rw [w8_take N j h, ← List.append_assoc, bvs_append (xs ++ (w8 N).take j)]; rfl
theorem laid_8 (xs : List UInt8) (N : Nat) : laid xs N 8 = bvs (xs ++ w8 N) := by
  unfold laid
  rw [List.take_of_length_le (by rw [w8_length]; exact Nat.le_refl _)]
set_option maxRecDepth 100000 in
set_option maxHeartbeats 1600000 in
theorem add_word (base : Nat) (v : Value) (n N : Nat) (xs : List UInt8) (w : World) (hN : N < 18446744073709551616) (hn : n ≤ 100000) (hb : base ≤ w.heap.size) (hown : w.ownsRow base 5 1 v n (bvs xs)) :
    Calls Tryz.prog 28 #[v, .int .u64 (N : Int)] w fun e w' => ∃ v', e = .returned v' ∧ w'.ownsRow base 5 1 v' (n + 8) (bvs (xs ++ w8 N)) ∧ Chg (fun i => v.ownBlock = some i) w w' ∧ (∀ k, v'.ownBlock = some k → v.ownBlock = some k ∨ w.heap.size ≤ k) := by
  obtain ⟨ib, hi0, hz0, hs0, hb0⟩ := info_parts Si.u8_info
  have HO := Lib.hid hown; clear hown
  have HB := Lib.hid hb; clear hb
  have HN := Lib.hid hN; clear hN
  have HL := Lib.hid hn; clear hn
  go_enter Tryz.func28, Tryz.ntmps28
  go_wp2_with fail
  go_loopw [0, 5] (fun bv_ iv wr => ∃ j : Nat, j ≤ 8 ∧ iv = .int .i64 (56 - 8 * (j : Int)) ∧ wr.ownsRow base 5 1 bv_ (n + j) (laid xs N j) ∧ Chg (fun i => v.ownBlock = some i) w wr ∧ (∀ k, bv_.ownBlock = some k → v.ownBlock = some k ∨ w.heap.size ≤ k)) (fun _ iv _ => (intOf iv + 8).toNat)
  case atStart => exact ⟨0, by decide, rfl, by unfold laid; rw [List.take_zero, List.append_nil]; exact HO.out, Chg.refl _ _, fun k hk => .inl hk⟩
  case round =>
    obtain ⟨j, hj, rfl, hown, hbl, hnew⟩ := hrel
    have HNEW := Lib.hid hnew; clear hnew
    have HR := Lib.hid hown; clear hown
    have HW := Lib.hid hbl; clear hbl
    by_cases hx : j = 8
    · subst hx
      go_wp2_with fail
      go_ret
      exact ⟨_, rfl, by rw [← laid_8]; exact HR.out, HW.out, HNEW.out⟩
    · obtain ⟨m, em⟩ : ∃ m : Nat, m = 56 - 8 * j := ⟨_, rfl⟩
      have hm : (56 : Int) - 8 * (j : Int) = (m : Int) := by omega
      rw [hm]
      have hx3 : j < 8 := by omega
      have hx4 : m < 64 := by omega
      have hx5 : (m : Int) < 64 := by omega
      have hx6 : (0 : Int) ≤ (m : Int) := by omega
      have hx7 : min m 64 = m := by omega
      obtain ⟨k, ek⟩ : ∃ k, k = n + j := ⟨_, rfl⟩
      have hk : k ≤ 100010 := by have := HL.out; omega
      rw [← ek] at HR
      have hnx := laid_next xs N j hx3
      have hv : bv (UInt8.ofNat (N / 2 ^ (56 - 8 * j))) = .int .u8 ((N : Int) / 2 ^ m % 256) := by
        unfold bv; rw [UInt8.toNat_ofNat', ← em]; congr 1
      rw [hv] at hnx
      have NX := Lib.hid hnx; clear hnx
      have EM := Lib.hid em; clear em
      have EK := Lib.hid ek; clear ek
      have HX := Lib.hid hx; clear hx
      have HJ := Lib.hid hj; clear hj
      have HX3 := Lib.hid hx3; clear hx3
      clear hm hv
      go_wp2_with (first | (at_builtin; refine wpList_append_rd _ (by rfl) (.tmp 10) (.tmp 15) 46 (by rfl) base 5 ib _ 1 Tryz.underlying46 hi0 hz0 hs0 hb0 (by rfl) _ k (laid xs N j) (by rfl) (own_push HR.out (by rfl)) (wr.heap.size + 1) (some ⟨wr.heap.size, 0, none⟩) 1 1 [.int .u8 ((N : Int) / 2 ^ m % 256)] (by rfl) (by rfl) (Si.rd_words wr 5 _ [.int .u8 ((N : Int) / 2 ^ m % 256)] (by rfl) _ rfl) (by simp [Value.oneCell']) (by unfold maxLen; omega) (by omega) (by have := HB.out; have := HW.out.size; simp; omega) ?_; intro v6 w6 hown6 hgrow6 hat6; have O6 := Lib.hid hown6; have G6 := Lib.hid hgrow6; have T6 := Lib.hid hat6; clear hown6 hgrow6 hat6) | fail)
      go_roundw
      case rel =>
        refine ⟨j + 1, by have := HX3.out; omega, ?_, by rw [← NX.out, ← Nat.add_assoc, ← EK.out]; exact O6.out, ?_, ?_⟩
        · exact congrArg (Value.int .i64) (by have := EM.out; have := HX3.out; omega)
        · refine (HW.out.alloc _).trans (T := fun i => Value.ownBlock _ = some i) ⟨G6.out.os, G6.out.tape, G6.out.output, G6.out.size, fun k hk hne => G6.out.block k hk (fun e => hne e.symm)⟩ (fun i hi hx => ?_)
          rcases HNEW.out i hx with h1 | h1
          · exact h1
          · omega
        · intro k hk
          rcases T6.out with h1 | h1
          · exact HNEW.out k (h1 ▸ hk)
          · have := HW.out.size
            rw [hk] at h1
            injection h1 with h1
            exact .inr (by simp at h1; omega)
      case measure => simp [intOf]; omega
end Go.Proofs.YtcjibpjdfhhhkaaGreat.Se
end

section
set_option linter.unusedVariables false
namespace Go.Proofs.YtcjibpjdfhhhkaaGreat.Se
open Go.RowKit Go.Proofs.YtcjibpjdfhhhkaaGreat.Mem

def Aw (b : Nat) (h : Option Nat) (n i : Nat) : Prop := Ow b h i ∨ n ≤ i
section
variable {w w' a c : World} {b g n : Nat} {h : Option Nat} {A : Option Addr} {xs : List Value} {S : Nat → Prop}
theorem RdA.aw (hr : RdA (Ow b h) w A xs) (hn : w.heap.size ≤ n) : RdA (Aw b h n) w A xs := hr.mono fun i hi hx => by
  rcases hx with hx | hx
  · exact hx
  · omega
theorem Step.aw (hs : Step w w' b h g) : Chg (Aw b h n) w w' := hs.1.mono fun i _ hx => .inl hx
theorem Step.aw_g (hs : Step w w' b h g) (hn : n ≤ w.heap.size) : Aw b h n g := by
  rcases hs.2 with h1 | ⟨_, h1⟩
  · exact .inl (.inr h1)
  · exact .inr (by omega)
theorem Chg.then (h : Chg S a w) (k : Chg S w c) : Chg S a c := h.trans k fun _ _ x => x
theorem RdA.go (h : RdA S w A xs) (hc : Chg S w w') : RdA S w' A xs := h.keep hc (fun _ _ x => x) (fun _ _ x => x)
theorem Chg.step (hc : Chg (Aw b h w.heap.size) w w') (hg : h = some g ∨ (h = none ∧ w.heap.size ≤ g)) : Step w w' b h g :=
  ⟨hc.mono fun i hi hx => by
    rcases hx with hx | hx
    · exact hx
    · omega, hg⟩
end

def tl (ks : Nat → UInt8) (u n : Nat) (p : List UInt8) (i : Nat) : List UInt8 := (mixL ks u n p).take i ++ (strmL ks u n p.length).drop i
theorem tl_at (ks : Nat → UInt8) (u n : Nat) (p : List UInt8) (i : Nat) (h : i < p.length) (h2 : i < (strmL ks u n p.length).length) : (bvs (tl ks u n p i)).toArray[i]? = some (bv (strmL ks u n p.length)[i]) := by
  rw [List.getElem?_toArray]
  unfold bvs tl
  rw [List.getElem?_map, List.getElem?_append_right (by rw [List.length_take, mixL_length]; omega), List.length_take, mixL_length, show i - min i p.length = 0 by omega, List.getElem?_drop, Nat.add_zero, List.getElem?_eq_getElem h2]; rfl
theorem tl_set (ks : Nat → UInt8) (u n : Nat) (p : List UInt8) (i : Nat) (h : i < p.length) (h2 : i < (strmL ks u n p.length).length) : (bvs (tl ks u n p i)).toArray.setIfInBounds i (bv (p[i] ^^^ (strmL ks u n p.length)[i])) = (bvs (tl ks u n p (i + 1))).toArray := by
  rw [List.setIfInBounds_toArray]
  congr 1
  unfold bvs
  rw [← List.map_set]
  congr 1
  have e : (mixL ks u n p).take (i + 1) = (mixL ks u n p).take i ++ [p[i] ^^^ (strmL ks u n p.length)[i]] := by
    rw [List.take_add_one, mixL_at ks u n p i h h2]; rfl
  have hl : ((mixL ks u n p).take i).length = i := by rw [List.length_take, mixL_length]; omega
  unfold tl
  rw [e, List.set_append_right _ _ (by omega), hl, Nat.sub_self, List.append_assoc, List.drop_eq_getElem_cons h2]
  rfl
theorem tl_all (ks : Nat → UInt8) (u n : Nat) (p : List UInt8) : tl ks u n p p.length = mixL ks u n p := by
  rw [tl, List.take_of_length_le (by rw [mixL_length]; exact Nat.le_refl _), List.drop_of_length_le (by rw [strmL_length]; exact Nat.le_refl _), List.append_nil]
theorem tl_none (ks : Nat → UInt8) (u n : Nat) (p : List UInt8) : tl ks u n p 0 = strmL ks u n p.length := by
  rw [tl, List.take_zero, List.drop_zero, List.nil_append]
theorem xor_b (x y : UInt8) : bits .xor .u8 (y.toNat : Int) (x.toNat : Int) = ((x ^^^ y).toNat : Int) := by
  rw [u8_xor_nat _ _ y.toNat_lt x.toNat_lt, UInt8.toNat_xor, Nat.xor_comm]
theorem sn_num (u n : Nat) (hu : u ≤ 255) : ((n : Int) * 256 % 18446744073709551616 + (u : Int)) % 18446744073709551616 = ((sn u n : Nat) : Int) := by unfold sn; omega

set_option maxRecDepth 100000 in
set_option maxHeartbeats 1600000 in
theorem turn_none (b : Nat) (ks : Nat → UInt8) (h : Option Nat) (a o r u n : Nat) (A : Option Addr) (c : Nat) (w : World) (hu : u ≤ 255) (hn : n < 18446744073709551616) (hK : Box w b ks h a o r) :
    Calls Tryz.prog 29 #[.pointer (some ⟨b, 0, none⟩), .int .i64 (u : Int), .int .u64 (n : Int), .slice A 0 c] w fun e w' => ∃ g, e = .returned (.slice none 0 0) ∧ Box w' b ks (some g) a o r ∧ Step w w' b h g := by
  have cn := need_any b ks h a o r w hK
  have hu0 : (0 : Int) ≤ (u : Int) := by omega
  clear hK
  have HU := Lib.hid hu; clear hu
  have HN := Lib.hid hn; clear hn
  go_enter Tryz.func29, Tryz.ntmps29
  go_wp2_with (first
    | (go_at_call 45; refine Calls.mono cn ?_; rintro e w1 ⟨rfl, g, hb1, hs1⟩; clear cn; have c35 := hb1.1.cp; have cst := (fun N => Sp.stream_nil (some ⟨g, 0, none⟩) N 0 w1 (.inr (by decide))); have HB1 := Lib.hid hb1; have HS1 := Lib.hid hs1; clear hb1 hs1)
    | (go_at_call 46; refine Calls.mono (cst _) ?_; rintro e w2 ⟨rfl, hw⟩; have hw := hw.symm; subst hw; clear cst c35))
  go_loopw [27] (fun iv wr => iv = .int .i64 0 ∧ wr = w1) (fun iv _ => 0)
  case atStart => exact ⟨rfl, rfl⟩
  case round =>
    obtain ⟨rfl, rfl⟩ := hrel
    go_wp2_with fail
    go_ret
    exact ⟨g, rfl, HB1.out, HS1.out⟩
theorem sn_wrap (u n : Nat) (hu : u ≤ 255) : IntKind.u64.wrap (IntKind.u64.wrap ((n : Int) * 256) + IntKind.u64.wrap (u : Int)) = ((sn u n : Nat) : Int) := by
  rw [IntKind.wrap_u64, IntKind.wrap_u64, IntKind.wrap_u64]; unfold sn; omega
theorem sn_lt (u n : Nat) : sn u n < 18446744073709551616 := Nat.mod_lt _ (by decide)
set_option maxRecDepth 100000 in
set_option maxHeartbeats 1600000 in
theorem turn_some (b : Nat) (ks : Nat → UInt8) (h : Option Nat) (a o r u n : Nat) (A : Option Addr) (m c : Nat) (p : List UInt8) (w : World) (hu : u ≤ 255) (hn : n < 18446744073709551616) (hm : m = p.length) (hm1 : 1 ≤ m) (hm2 : m ≤ 1000) (hr : RdA (Ow b h) w A (bvs p)) (hK : Box w b ks h a o r) :
    Calls Tryz.prog 29 #[.pointer (some ⟨b, 0, none⟩), .int .i64 (u : Int), .int .u64 (n : Int), .slice A m c] w fun e w' => ∃ g q, e = .returned (.slice (some ⟨q, 0, none⟩) m m) ∧ w.heap.size ≤ q ∧ q ≠ g ∧ Blk w' q 5 (bvs (mixL ks u n p)).toArray ∧ Box w' b ks (some g) a o r ∧ Step w w' b h g := by
  have cn := need_any b ks h a o r w hK
  obtain ⟨N, eN⟩ : ∃ N, N = sn u n := ⟨_, rfl⟩
  have hsn := sn_wrap u n hu
  have hsnlt := sn_lt u n
  rw [← eN] at hsn hsnlt
  have hstr : Sp.strm (Sp.kw ks) (Sp.upW N) (Sp.loW N) m = strmL ks u n m := by rw [eN]; rfl
  have hblt := hK.lt
  clear hK
  have HR := Lib.hid (hr.aw (Nat.le_refl _)); clear hr
  have HU := Lib.hid hu; clear hu
  have HN := Lib.hid hn; clear hn
  have HM := Lib.hid hm; clear hm
  have HM1 := Lib.hid hm1; clear hm1
  have HM2 := Lib.hid hm2; clear hm2
  have HSL := Lib.hid hsnlt; clear hsnlt
  have HST := Lib.hid hstr; clear hstr
  have HSN := Lib.hid hsn; clear hsn
  have BL := Lib.hid hblt; clear hblt
  clear eN
  go_enter Tryz.func29, Tryz.ntmps29
  go_wp2_with (first
    | (go_at_call 45; refine Calls.mono cn ?_; rintro e w1 ⟨rfl, g, hb1, hs1⟩; clear cn; have c35 := hb1.1.cp; obtain ⟨h11, h12, md, h13⟩ := hb1; have cst := Sp.stream_any g ks md N m (m : Int) w1 rfl HM1.out (by have := HM2.out; omega) HSL.out h13; rw [HST.out] at cst; have X1 := Lib.hid h11; have NE := Lib.hid h12; have GL := Lib.hid h13.lt; have HS1 := Lib.hid hs1; clear hs1 h11 h12 h13)
    | (go_at_call 46; rw [HSN.out]; refine Calls.mono cst ?_; rintro e w2 ⟨q, rfl, hq, hB, hk2, hg2, _⟩; clear cst c35; have HQ := Lib.hid hq; have HB := Lib.hid hB; have HK2 := Lib.hid hk2; have HG2 := Lib.hid hg2; clear hq hB hk2 hg2))
  have hsm : (strmL ks u n m).length = m := strmL_length ks u n m
  go_loopw [27] (fun iv wr => ∃ i : Nat, i ≤ m ∧ iv = .int .i64 (i : Int) ∧ Chg (fun k => w1.heap.size ≤ k) w2 wr ∧ Blk wr q 5 (bvs (tl ks u n p i)).toArray) (fun iv _ => m - (intOf iv).toNat)
  case atStart => exact ⟨0, Nat.zero_le _, rfl, Chg.refl _ _, by rw [tl_none, ← HM.out]; exact HB.out⟩
  case round =>
    obtain ⟨i, hi, rfl, hc, hB2⟩ := hrel
    have HC := Lib.hid hc; clear hc
    have HB2 := Lib.hid hB2; clear hB2
    have HSM := Lib.hid hsm; clear hsm
    have hall : Chg (Aw b h w.heap.size) w w1 ∧ Chg (Aw b h w.heap.size) w1 w2 ∧ Chg (Aw b h w.heap.size) w2 wr :=
      ⟨HS1.out.aw, Chg.of_grown HG2.out (HS1.out.aw_g (Nat.le_refl _)), HC.out.mono fun k _ hx => .inr (Nat.le_trans HS1.out.1.size hx)⟩
    by_cases hx : i = m
    · subst hx
      have HA := Lib.hid hall; clear hall
      go_wp2_with fail
      go_ret
      have hbl : b < w1.heap.size := X1.out.lt
      have hX2 : XB w2 b ks 1 0 (some ⟨g, 0, none⟩) (k2 ks) a o r := Blk.grown X1.out HG2.out (fun e => by injection e with e; exact NE.out e)
      have hgq : q ≠ g := by have := GL.out; have := HQ.out; omega
      refine ⟨g, q, rfl, Nat.le_trans HS1.out.1.size HQ.out, hgq, ?_, ⟨hX2.chg HC.out (by omega), NE.out, true, key_chg HK2.out HC.out (by have := GL.out; omega)⟩, ?_⟩
      · rw [← tl_all, ← HM.out]; exact HB2.out
      · exact ((HA.out.1.then HA.out.2.1).then HA.out.2.2).step HS1.out.2
    · have hlt : i < m := by omega
      have hlp : i < p.length := by have := HM.out; omega
      have e1 : (i : Int) < (m : Int) := by omega
      have e2 : (0 : Int) ≤ (i : Int) := by omega
      have e3 : (i : Int) < 1000 := by have := HM2.out; omega
      have hls : i < (strmL ks u n p.length).length := by rw [strmL_length]; exact hlp
      obtain ⟨y, ey⟩ : ∃ y, y = p[i] := ⟨_, rfl⟩
      obtain ⟨x, ex⟩ : ∃ x, x = (strmL ks u n p.length)[i] := ⟨_, rfl⟩
      obtain ⟨z, ez⟩ : ∃ z, z = y ^^^ x := ⟨_, rfl⟩
      have hrw := ((HR.out.go hall.1).go hall.2.1).go hall.2.2
      obtain ⟨b2, o2, rfl, hb2, _, hcell⟩ := hrw.resolve_left (by intro e; have := bvs_length p; rw [e] at this; simp at this; omega)
      have hcp := hcell i _ (bvs_at hlp)
      have hcq : wr.cell? ⟨q, i, none⟩ = some (bv (strmL ks u n p.length)[i]) := by rw [HB2.out.cell]; exact tl_at ks u n p i hlp hls
      have hset := tl_set ks u n p i hlp hls
      rw [← ey] at hcp hset
      rw [← ex] at hcq hset
      rw [← ez] at hset
      simp only [bv] at hcp hcq
      have hxo : bits .xor .u8 (x.toNat : Int) (y.toNat : Int) = (z.toNat : Int) := by rw [ez]; exact xor_b y x
      have fz := HB2.out.frozen
      have HSET := Lib.hid hset; clear hset
      have HX := Lib.hid hx; clear hx
      have HI := Lib.hid hi; clear hi
      clear ey ex ez hall hrw hcell hb2 hls
      go_wp2_with fail
      refine wp_region_still_tail 10 (by kernel_rfl) (by kernel_rfl) ?_
      simp only [List.take_succ_cons, List.take_zero, List.drop_succ_cons, List.drop_zero]
      change wpStill _ _ wr.drew _ _ _
      repeat still_step
      refine wpStill_nil ?_
      change wpList _ _ _ _ _ wr.drew
      go_wp2_with fail
      go_roundw
      case rel =>
        refine ⟨i + 1, by omega, by go_num, HC.out.drew.set (.inl HQ.out) _, ?_⟩
        have e : Blk wr.drew q 5 (bvs (tl ks u n p i)).toArray := HB2.out
        have := e.set i (bv z)
        rw [HSET.out] at this
        exact this
      case measure => simp [intOf]; omega
def Nw (n g i : Nat) : Prop := i < n ∨ i = g
theorem turn_any (b : Nat) (ks : Nat → UInt8) (h : Option Nat) (a o r u n : Nat) (A : Option Addr) (m c : Nat) (p : List UInt8) (w : World) (hu : u ≤ 255) (hn : n < 18446744073709551616) (hm : m = p.length) (hm2 : m ≤ 1000) (hr : RdA (Ow b h) w A (bvs p)) (hK : Box w b ks h a o r) :
    Calls Tryz.prog 29 #[.pointer (some ⟨b, 0, none⟩), .int .i64 (u : Int), .int .u64 (n : Int), .slice A m c] w fun e w' => ∃ g Aq cq, e = .returned (.slice Aq m cq) ∧ m ≤ cq ∧ cq ≤ 1000 ∧ RdA (Nw w.heap.size g) w' Aq (bvs (mixL ks u n p)) ∧ Box w' b ks (some g) a o r ∧ Step w w' b h g := by
  rcases Nat.eq_zero_or_pos m with h0 | h0
  · subst h0
    have hp : mixL ks u n p = [] := List.eq_nil_of_length_eq_zero (by rw [mixL_length]; omega)
    refine (turn_none b ks h a o r u n A c w hu hn hK).mono ?_
    rintro e w' ⟨g, rfl, h1, h2⟩
    exact ⟨g, none, 0, rfl, Nat.le_refl _, by decide, by rw [hp]; exact .inl rfl, h1, h2⟩
  · refine (turn_some b ks h a o r u n A m c p w hu hn hm h0 hm2 hr hK).mono ?_
    rintro e w' ⟨g, q, rfl, h1, h2, h3, h4, h5⟩
    refine ⟨g, _, m, rfl, Nat.le_refl _, hm2, .inr ⟨q, 0, rfl, h3.lt, ?_, fun i v hv => ?_⟩, h4, h5⟩
    · rintro (hx | hx)
      · omega
      · exact h2 hx
    · rw [Nat.zero_add, h3.cell, List.getElem?_toArray]; exact hv
end Go.Proofs.YtcjibpjdfhhhkaaGreat.Se
end

section
set_option linter.unusedVariables false
namespace Go.Proofs.YtcjibpjdfhhhkaaGreat.Se
open Go.RowKit Go.Proofs.YtcjibpjdfhhhkaaGreat.Mem

theorem bv_num (u : Nat) (hu : u ≤ 255) : bv (UInt8.ofNat u) = .int .u8 (u : Int) := by
  unfold bv; rw [UInt8.toNat_ofNat', Nat.mod_eq_of_lt (by omega)]
theorem rows_two {w : World} (u : Nat) (hu : u ≤ 255) (A : Option Addr) (m c : Nat) (l : List UInt8) (t t2 : TypeId) (hm : m = l.length) (hr : Rd w w.heap.size A (bvs l)) :
    Si.Rows ((w.alloc (.cells #[.int .u8 (u : Int)] t)).alloc (.cells #[.slice (some ⟨w.heap.size, 0, none⟩) 1 1, .slice A m c] t2)) ((w.alloc (.cells #[.int .u8 (u : Int)] t)).alloc (.cells #[.slice (some ⟨w.heap.size, 0, none⟩) 1 1, .slice A m c] t2)).heap.size (some ⟨w.heap.size + 1, 0, none⟩) [[UInt8.ofNat u], l] := by
  have h := Si.rows_alloc (w := w.alloc (.cells #[.int .u8 (u : Int)] t)) t2 [.slice (some ⟨w.heap.size, 0, none⟩) 1 1, .slice A m c] [[UInt8.ofNat u], l] #[.slice (some ⟨w.heap.size, 0, none⟩) 1 1, .slice A m c] rfl rfl (fun i hi => by
    match i, hi with
    | 0, _ =>
      refine ⟨some ⟨w.heap.size, 0, none⟩, 1, rfl, ?_⟩
      have := Si.rd_words w t #[.int .u8 (u : Int)] [.int .u8 (u : Int)] rfl w.heap.size rfl
      rw [show bvs [[UInt8.ofNat u], l][0] = [.int .u8 (u : Int)] from by show [bv (UInt8.ofNat u)] = _; rw [bv_num u hu]]
      exact this.more (by simp)
    | 1, _ => exact ⟨A, c, by rw [hm]; rfl, (hr.alloc (Nat.le_refl _) _).more (by simp)⟩)
  have e : (w.alloc (.cells #[.int .u8 (u : Int)] t)).heap.size = w.heap.size + 1 := by simp
  rw [e] at h
  exact h
set_option maxRecDepth 100000 in
set_option maxHeartbeats 1600000 in
theorem tag_any (b : Nat) (ks : Nat → UInt8) (h : Option Nat) (a o r u : Nat) (A : Option Addr) (m c : Nat) (l : List UInt8) (w : World) (hu : u ≤ 255) (hm : m = l.length) (hm2 : m ≤ 1000) (hr : RdA (Ow b h) w A (bvs l)) (hK : Box w b ks h a o r) :
    Calls Tryz.prog 30 #[.pointer (some ⟨b, 0, none⟩), .int .i64 (u : Int), .slice A m c] w fun e w' => ∃ g, e = .returned (.int .u64 (tagL ks u l : Nat)) ∧ Box w' b ks (some g) a o r ∧ Step w w' b h g := by
  have cn := need_any b ks h a o r w hK
  have hsum : ∀ w1, Rd w1 w1.heap.size A (bvs l) → _ := fun w1 h1 => Si.sum_any (k2 ks) (some ⟨w1.heap.size + 1, 0, none⟩) 2 2 [[UInt8.ofNat u], l] _ rfl (by decide) (by simp [Si.flat]; omega) (rows_two u hu A m c l 5 46 hm h1)
  have hfl : Si.flat [[UInt8.ofNat u], l] = UInt8.ofNat u :: l := by simp [Si.flat]
  rw [hfl] at hsum
  have i2 := info16 (k2 ks)
  have hk16 : Si.key16 (k2 ks) = Sp.key16 (k2 ks) := rfl
  rw [hk16] at hsum
  obtain ⟨T, eT⟩ : ∃ T, T = tagL ks u l := ⟨_, rfl⟩
  have hT : ∀ e, e = Ending.returned (Si.wv (Si.sumOf (k2 ks) (UInt8.ofNat u :: l))) → e = .returned (.int .u64 (T : Int)) := fun e h => by rw [h, eT]; rfl
  rw [← eT]
  have HR := Lib.hid (hr.aw (Nat.le_refl _)); clear hr
  have hu1 : (u : Int) ≤ 255 := by omega
  have hu2 : (0 : Int) ≤ (u : Int) := by omega
  have hu3 : (u : Int) % 256 = (u : Int) := by omega
  have hu4 : IntKind.u8.wrap (u : Int) = (u : Int) := by rw [IntKind.wrap_u8']; exact hu3
  obtain ⟨ds, eds⟩ : ∃ ds, ds = Sp.key16 (k2 ks) := ⟨_, rfl⟩
  have hrd : ∀ w1 g, Box w1 b ks (some g) a o r → w1.rangeAt b 36 ds.toList := fun w1 g hb => by rw [eds]; exact XB.rangeD hb.1
  rw [← eds] at i2 hsum
  have RD := Lib.hid hrd; clear hrd
  have I2 := Lib.hid i2; clear i2
  have HT := Lib.hid hT; clear hT
  clear hK hm hm2 hu eds eT hfl hk16
  go_enter Tryz.func30, Tryz.ntmps30
  go_wp2_with (first
    | (go_at_call 45; refine Calls.mono cn ?_; rintro e w1 ⟨rfl, g, hb1, hs1⟩; clear cn; have hs := hsum w1 (HR.out.go hs1.aw).rd; clear hsum; have hrr := RD.out w1 g hb1; have HRR := Lib.hid hrr; have HB1 := Lib.hid hb1; have HS1 := Lib.hid hs1; clear hb1 hs1 hrr)
    | (refine load_cells (by rfl) 93 (.tmp 11) (by rfl) b 36 (by rfl) ds _ HRR.out Tryz.underlying93 (by rfl) I2.out ?_)
    | (go_at_call 47; refine Calls.mono hs ?_; rintro e w2 ⟨he, hb2⟩; have he := HT.out e he; subst he; have HB2 := Lib.hid hb2; clear hb2 hs)
    | fail)
  go_ret
  have hb := ((Below.refl w1.heap.size w1).alloc (Nat.le_refl _) (Obj.cells #[.int .u8 (u : Int)] 5)).alloc (by simp) (Obj.cells #[.slice (some ⟨w1.heap.size, 0, none⟩) 1 1, .slice A m c] 46)
  have hb3 := hb.trans (HB2.out.mono (by simp; omega))
  exact ⟨g, rfl, HB1.out.below hb3, HS1.out.then (Chg.of_below (S := fun _ => False) hb3) (fun _ _ x => x.elim)⟩
end Go.Proofs.YtcjibpjdfhhhkaaGreat.Se
end

section
set_option linter.unusedVariables false
namespace Go.Proofs.YtcjibpjdfhhhkaaGreat.Se
open Go.RowKit Go.Proofs.YtcjibpjdfhhhkaaGreat.Mem

theorem own_rda {S : Nat → Prop} {w : World} {base n : Nat} {v : Value} {xs : List Value} {t : TypeId} (h : w.ownsRow base t 1 v n xs) (hs : ∀ k, v.ownBlock = some k → ¬ S k) : ∃ A c, v = .slice A n c ∧ n ≤ c ∧ c ≤ maxLen ∧ RdA S w A xs := by
  have h0 := h
  obtain ⟨hl, ⟨rfl, hn⟩ | ⟨g, cap, cur, rfl, _, hh, hcap, hml, _⟩⟩ := h
  · subst hn
    exact ⟨none, 0, rfl, Nat.le_refl _, Nat.zero_le _, .inl (List.eq_nil_of_length_eq_zero (by simpa using hl))⟩
  · refine ⟨_, cap, rfl, hcap, hml, .inr ⟨g, 0, rfl, (Array.getElem?_eq_some_iff.1 hh).1, hs g rfl, fun i u hu => ?_⟩⟩
    have := h0.cells (g := g) rfl i u hu
    rwa [addr_add] at this
theorem Box.seals {w : World} {b : Nat} {ks : Nat → UInt8} {g a o r : Nat} (h : Box w b ks (some g) a o r) (a' : Nat) : Box (w.setCell ⟨b, 52, none⟩ (.int .i64 (a' : Int))) b ks (some g) a' o r := by
  obtain ⟨h1, h2, m, h3⟩ := h
  exact ⟨h1.set_a a', h2, m, Key.far h3 _ _ (fun e => h2 e.symm)⟩
theorem chg_own {w w' : World} {v : Value} (h : w.grownBy w' v.ownBlock) : Chg (fun i => v.ownBlock = some i) w w' :=
  ⟨h.os, h.tape, h.output, h.size, fun k hk hne => h.block k hk (fun e => hne e.symm)⟩

theorem Step.same {w w' : World} {b g g2 : Nat} (h : Step w w' b (some g) g2) : g = g2 := by
  rcases h.2 with h1 | ⟨h1, _⟩
  · injection h1
  · cases h1
def NewRow (B : Nat) (v : Value) : Prop := ∀ k, v.ownBlock = some k → B ≤ k
theorem own_new {w : World} {B n : Nat} {v : Value} {xs : List Value} {t : TypeId} (h : w.ownsRow B t 1 v n xs) : NewRow B v := fun k hk => (h.lt k hk).1
theorem seal_a {B b : Nat} {ks : Nat → UInt8} {h : Option Nat} {a o r : Nat} {A : Option Addr} {xs : List Value} {w W w2 : World} {v0 : Value} (eB : B = w.heap.size) (hK : Box w b ks h a o r) (hR : RdA (Ow b h) w A xs) (hal : Below B w W) (hv : NewRow B v0) (hc : Chg (fun i => v0.ownBlock = some i) W w2) :
    Box w2 b ks h a o r ∧ RdA (Ow b h) w2 A xs ∧ Chg (Aw b h B) w w2 := by
  subst eB
  have h1 : Chg (fun i => w.heap.size ≤ i) w w2 := (Chg.of_below hal).trans hc fun i _ hx => hv i hx
  exact ⟨hK.chg h1 (fun i hi hx => by have := hK.own_lt i hi; omega), hR.keep h1 (fun i hi hx => by omega) (fun i _ hx => hx), h1.mono fun i _ hx => .inr hx⟩
theorem seal_b {B b g n : Nat} {h : Option Nat} {w2 w3 : World} {v1 : Value} {xs : List Value} {t : TypeId} (hOL : ∀ i, Ow b h i → i < B) (hB : B ≤ w2.heap.size) (ho : w2.ownsRow B t 1 v1 n xs) (hs : Step w2 w3 b h g) :
    w3.ownsRow B t 1 v1 n xs ∧ (∀ i, Ow b (some g) i → ¬ v1.ownBlock = some i) ∧ Aw b h B g := by
  refine ⟨hs.1.own ho (fun k hk hx => by have := hOL k hx; have := (ho.lt k hk).1; omega), fun i hi hk => ?_, hs.aw_g hB⟩
  have h1 := ho.lt i hk
  rcases hi with hi | hi
  · have := hOL i (.inl hi); omega
  · injection hi with hi
    rcases hs.2 with h2 | ⟨_, h2⟩
    · have := hOL i (.inr (hi ▸ h2)); omega
    · omega
theorem seal_c {b g : Nat} {ks : Nat → UInt8} {a o r : Nat} {w3 w4 : World} {v1 v4 : Value} (hK : Box w3 b ks (some g) a o r) (hn : ∀ i, Ow b (some g) i → ¬ v1.ownBlock = some i) (hg : w3.grownBy w4 v1.ownBlock) (hat : v4.ownBlock = v1.ownBlock ∨ v4.ownBlock = some w3.heap.size) :
    Box w4 b ks (some g) a o r ∧ (∀ i, v4.ownBlock = some i → ¬ Ow b (some g) i) := by
  refine ⟨hK.chg (chg_own hg) hn, fun i hk hi => ?_⟩
  rcases hat with h | h
  · exact hn i hi (h ▸ hk)
  · rw [h] at hk
    injection hk with hk
    have := hK.own_lt i hi
    omega

set_option maxRecDepth 100000 in
set_option maxHeartbeats 3200000 in
theorem seal_ok (b : Nat) (ks : Nat → UInt8) (h : Option Nat) (a o r u n : Nat) (A : Option Addr) (m c : Nat) (p : List UInt8) (w : World) (ha : a < 1000000) (hu : u ≤ 255) (hn : n ≤ 1099511627776) (hm : m = p.length) (hm2 : m ≤ 784) (hr : RdA (Ow b h) w A (bvs p)) (hK : Box w b ks h a o r) :
    Calls Tryz.prog 11 #[.pointer (some ⟨b, 0, none⟩), .int .i64 (u : Int), .int .i64 (n : Int), .slice A m c] w fun e w' => ∃ g Aq cq, e = .returned (.tuple #[.slice Aq (m + 16) cq, .int .i64 0]) ∧ m + 16 ≤ cq ∧ cq ≤ maxLen ∧ RdA (Nw w.heap.size g) w' Aq (bvs (sealL ks u n p)) ∧ Box w' b ks (some g) (a + 1) o r ∧ Step w w' b h g := by
  obtain ⟨ib, hi0, hz0, hs0, hb0⟩ := info_parts Si.u8_info
  have hmk := fun W => run_make_room (P := Tryz.prog) (t := 46) (e := 5) Tryz.underlying46 hi0 hz0 hs0 hb0 ((m : Int) + 16) (m + 16) (by omega) (by omega) W
  have f1 := fit_usage (u : Int) true (by simp; omega)
  have f2 := fit_nonce n true (by simp; omega)
  obtain ⟨B, eB⟩ : ∃ B, B = w.heap.size := ⟨_, rfl⟩
  have hown := World.ownsRow_made (e := 5) (base := B) (size := 1) w (zeros (m + 16)) (m + 16) (by omega) (by unfold maxLen; omega) (by rw [zeros_size, Nat.mul_one])
  have c1 := add_word B _ 0 n [] _ (by omega) (by decide) (by simp; omega) hown
  rw [Nat.zero_add, List.nil_append] at c1
  have hal : Below B w (w.alloc (.cells (zeros (m + 16)) 5)) := eB ▸ (Below.refl _ _).alloc (Nat.le_refl _) _
  have hol : ∀ i, Ow b h i → i < B := fun i hi => eB ▸ hK.own_lt i hi
  have hnr := own_new hown
  have HNR := Lib.hid hnr; clear hnr
  have HK := Lib.hid hK; clear hK
  have HR := Lib.hid hr; clear hr
  have AL := Lib.hid hal; clear hal
  have OL := Lib.hid hol; clear hol
  have EB := Lib.hid eB
  have q1 : (n : Int) ≤ 1099511627776 := by omega
  have q2 : (0 : Int) ≤ (n : Int) := by omega
  have q3 : (m : Int) ≤ 784 := by omega
  have q4 : IntKind.u64.wrap (n : Int) = (n : Int) := by rw [IntKind.wrap_u64]; omega
  have q5 : IntKind.i64.wrap ((m : Int) + 16) = (m : Int) + 16 := by rw [IntKind.wrap_i64]; omega
  have q6 : decide ((n : Int) < 0) = false := by simp
  have q7 : decide (784 < (m : Int)) = false := by simp; omega
  obtain ⟨L, eL⟩ : ∃ L, L = aheadL ks u n p := ⟨_, rfl⟩
  have hEL : bvs (w8 n) ++ bvs (mixL ks u n p) = bvs L := by rw [eL, aheadL, bvs_append]
  have hLL : 8 + m = L.length := by rw [eL, aheadL_length, ← hm]
  obtain ⟨T, eT⟩ : ∃ T, T = tagL ks u L := ⟨_, rfl⟩
  have hTL : T < 18446744073709551616 := by rw [eT]; exact tagL_lt _ _ _
  have hFin : bvs (L ++ w8 T) = bvs (sealL ks u n p) := by rw [eT, eL]; rfl
  have EL := Lib.hid hEL; clear hEL
  have LL := Lib.hid hLL; clear hLL
  have TL := Lib.hid hTL; clear hTL
  have FIN := Lib.hid hFin; clear hFin
  have ET := Lib.hid eT; clear eT
  clear eL
  have HA := Lib.hid ha; clear ha
  have HU := Lib.hid hu; clear hu
  have HN := Lib.hid hn; clear hn
  have HM := Lib.hid hm; clear hm
  have HM2 := Lib.hid hm2; clear hm2
  have C1 := Lib.hid c1; clear c1
  clear hown eB
  go_enter Tryz.func11, Tryz.ntmps11
  go_wp2_with (first
    | (go_at_call 26; refine Calls.mono (f1 _) ?_; rintro e wq ⟨rfl, hw⟩; have hw := hw.symm; subst hw; clear f1)
    | (go_at_call 27; refine Calls.mono (f2 _) ?_; rintro e wq ⟨rfl, hw⟩; have hw := hw.symm; subst hw; clear f2)
    | (go_at_call 28; refine Calls.mono C1.out ?_; rintro e w2 ⟨v1, rfl, hown1, hch1, hnew1⟩; clear C1 hmk; obtain ⟨hb2, hr2, hc2⟩ := seal_a EB.out HK.out HR.out AL.out HNR.out hch1; have ct := turn_any b ks h a o r u n A m c p w2 HU.out (by have := HN.out; omega) HM.out (by have := HM2.out; omega) hr2 hb2; have O1 := Lib.hid hown1; have C2 := Lib.hid hc2; have W2 := Lib.hid hc2.size; clear hown1 hch1 hnew1 hb2 hr2 hc2)
    | (go_at_call 29; refine Calls.mono ct ?_; rintro e w3 ⟨g, Aq, cq, rfl, hcq1, hcq2, hrq, hb3, hs3⟩; clear ct; obtain ⟨ho3, hn3, hg3⟩ := seal_b OL.out (by have := W2.out; have := EB.out; omega) O1.out hs3; have O3 := Lib.hid ho3; have N3 := Lib.hid hn3; have G3 := Lib.hid hg3; have Q3 := Lib.hid hrq; have B3 := Lib.hid hb3; have S3 := Lib.hid hs3; have W3 := Lib.hid hs3.1.size; clear hcq1 hcq2 hrq hb3 hs3 ho3 hn3 hg3)
    | (at_builtin; refine wpList_append_rd _ (by rfl) (.tmp 41) (.tmp 47) 46 (by rfl) B 5 ib _ 1 Tryz.underlying46 hi0 hz0 hs0 hb0 (by rfl) v1 8 (bvs (w8 n)) (by rfl) O3.out w3.heap.size Aq m cq (bvs (mixL ks u n p)) (by rfl) (by rw [bvs_length, mixL_length]; exact HM.out) Q3.out.rd (bvs_one _) (by have := HM2.out; unfold maxLen; omega) (by have := HM2.out; omega) (by have := W2.out; have := W3.out; have := EB.out; omega) ?_; intro v4 w4 hown4 hgrow4 hat4; obtain ⟨hb4, hn4⟩ := seal_c B3.out N3.out hgrow4 hat4; rw [EL.out] at hown4; obtain ⟨A4, c4, hv4, hc4, _, hr4⟩ := own_rda hown4 hn4; subst hv4; have ctg := tag_any b ks (some g) a o r u A4 (8 + m) c4 L w4 HU.out LL.out (by have := HM2.out; omega) hr4 hb4; rw [← ET.out] at ctg; have O4 := Lib.hid hown4; have N4 := Lib.hid hn4; have G4 := Lib.hid hgrow4; have NR4 := Lib.hid (own_new hown4); have W4 := Lib.hid hgrow4.size; clear hown4 hgrow4 hat4 hb4 hn4 hr4 hc4)
    | (go_at_call 30; refine Calls.mono ctg ?_; rintro e w5 ⟨g2, rfl, hb5, hs5⟩; clear ctg; have hgg := hs5.same; subst hgg; have ho5 := hs5.1.own O4.out N4.out; have c6 := add_word B _ (8 + m) T L w5 TL.out (by have := HM2.out; omega) (by have := W2.out; have := W3.out; have := W4.out; have := hs5.1.size; have := EB.out; omega) ho5; have B5 := Lib.hid hb5; have S5 := Lib.hid hs5; clear ho5 hb5 hs5)
    | (go_at_call 28; refine Calls.mono c6 ?_; rintro e w6 ⟨v6, rfl, hown6, hch6, hnew6⟩; clear c6; have hb6 := B5.out.chg hch6 (fun i hi hk => N4.out i hk hi); have cadd := add_one ⟨b, 52, none⟩ a w6 HA.out hb6.1.ca (hb6.1.fz 52); have O6 := Lib.hid hown6; have C6 := Lib.hid hch6; have N6 := Lib.hid hnew6; have B6 := Lib.hid hb6; clear hown6 hch6 hnew6 hb6)
    | (go_at_call 31; refine Calls.mono cadd ?_; rintro e w7 ⟨rfl, hw7⟩; clear cadd; have HW7 := Lib.hid hw7; clear hw7)
    | fail)
  have hnb : ∀ k, v6.ownBlock = some k → B ≤ k ∧ k ≠ g ∧ k ≠ b := fun k hk => by
    have h1 := own_new O6.out k hk
    have h2 := OL.out b (.inl rfl)
    refine ⟨h1, fun e => ?_, by omega⟩
    rcases N6.out k hk with h3 | h3
    · exact N4.out k h3 (.inr (by rw [e]))
    · have := B5.out.lt_g; omega
  have hsz : w.heap.size ≤ w7.heap.size := by
    have e : w7.heap.size = w6.heap.size := by rw [HW7.out]; simp [World.setCell]
    have := W2.out; have := W3.out; have := W4.out; have := S5.out.1.size; have := C6.out.size
    omega
  have ho7 : w7.ownsRow B 5 1 v6 (8 + m + 8) (bvs (L ++ w8 T)) := by
    rw [HW7.out]
    exact ((Chg.refl (fun i => i = b) w6).set (.inl rfl) _).own O6.out (fun k hk => (hnb k hk).2.2)
  rw [FIN.out] at ho7
  obtain ⟨A7, c7, hv7, hc7, hm7, hr7⟩ := own_rda (S := Nw w.heap.size g) ho7 (fun k hk hx => by
    have h1 := hnb k hk
    have := EB.out
    rcases hx with hx | hx
    · omega
    · exact h1.2.1 hx)
  have hch : Chg (Aw b h w.heap.size) w w7 := by
    rw [← EB.out]
    have hawn : ∀ i, Ow b (some g) i → Aw b h B i := fun i hi => by
      rcases hi with hi | hi
      · exact .inl (.inl hi)
      · injection hi with hi; exact hi ▸ G3.out
    have h4 : Chg (Aw b h B) w3 w4 := (chg_own G4.out).mono fun i _ hx => .inr ((own_new O3.out) i hx)
    have h5 : Chg (Aw b h B) w4 w5 := S5.out.1.mono fun i _ hx => hawn i hx
    have h6 : Chg (Aw b h B) w5 w6 := C6.out.mono fun i _ hx => .inr (NR4.out i hx)
    have h7 : Chg (Aw b h B) w6 w7 := by rw [HW7.out]; exact (Chg.refl _ w6).set (.inl (.inl (.inl rfl))) _
    exact ((((C2.out.then S3.out.aw).then h4).then h5).then h6).then h7
  have B7 : Box w7 b ks (some g) (a + 1) o r := by rw [HW7.out]; exact B6.out.seals (a + 1)
  clear HW7
  subst hv7
  go_wp2_with fail
  go_ret2
  rw [show 8 + m + 8 = m + 16 by omega] at hc7
  exact ⟨g, A7, c7, by show Ending.returned (.tuple #[.slice A7 (8 + m + 8) c7, .int .i64 0]) = _; rw [show 8 + m + 8 = m + 16 by omega], hc7, hm7, hr7, B7, hch.step (S3.out.2.imp id (fun hx => ⟨hx.1, by have := W2.out; omega⟩))⟩
end Go.Proofs.YtcjibpjdfhhhkaaGreat.Se
end

section
set_option linter.unusedVariables false
namespace Go.Proofs.YtcjibpjdfhhhkaaGreat.Se
open Go.RowKit Go.Proofs.YtcjibpjdfhhhkaaGreat.Mem

set_option maxRecDepth 100000 in
set_option maxHeartbeats 1600000 in
theorem seal_bad (b : Nat) (u N : Int) (A : Option Addr) (m c : Nat) (w : World) (wN : (Lit.int .i64 N).wf = true) (hm : m ≤ maxLen) (hx : ¬ (0 ≤ u ∧ u ≤ 255 ∧ 0 ≤ N ∧ N ≤ 1099511627776 ∧ m ≤ 784)) :
    Calls Tryz.prog 11 #[.pointer (some ⟨b, 0, none⟩), .int .i64 u, .int .i64 N, .slice A m c] w fun e w' => e = .returned (.tuple #[.slice none 0 0, .int .i64 1]) ∧ w' = w := by
  by_cases h1 : 0 ≤ u ∧ u ≤ 255
  · have f1 := fit_usage u true (by simp; omega)
    by_cases h2 : N < 0
    · have t2 : decide (N < 0) = true := by simpa using h2
      clear hx h1 wN hm
      go_enter Tryz.func11, Tryz.ntmps11
      go_wp2_with (go_at_call 26; refine Calls.mono (f1 _) ?_; rintro e wq ⟨rfl, hw⟩; have hw := hw.symm; subst hw; clear f1)
      go_ret2
      exact ⟨rfl, rfl⟩
    · obtain ⟨n, rfl⟩ : ∃ n : Nat, N = (n : Int) := ⟨N.toNat, by omega⟩
      have hn63 : n < 9223372036854775808 := by
        have := Open.i64_of_wf wN
        omega
      have t2 : decide ((n : Int) < 0) = false := by simp
      have q4 : IntKind.u64.wrap (n : Int) = (n : Int) := by rw [IntKind.wrap_u64]; omega
      by_cases h3 : n ≤ 1099511627776
      · have f2 := fit_nonce n true (by simp; omega)
        have t3 : decide (784 < (m : Int)) = true := by simp; omega
        have q1 : (n : Int) ≤ 1099511627776 := by omega
        clear hx h1 h2 wN
        go_enter Tryz.func11, Tryz.ntmps11
        go_wp2_with (first
          | (go_at_call 26; refine Calls.mono (f1 _) ?_; rintro e wq ⟨rfl, hw⟩; have hw := hw.symm; subst hw; clear f1)
          | (go_at_call 27; refine Calls.mono (f2 _) ?_; rintro e wq ⟨rfl, hw⟩; have hw := hw.symm; subst hw; clear f2))
        go_ret2
        exact ⟨rfl, rfl⟩
      · have f2 := fit_nonce n false (by simp; omega)
        clear hx h1 h2 wN
        go_enter Tryz.func11, Tryz.ntmps11
        go_wp2_with (first
          | (go_at_call 26; refine Calls.mono (f1 _) ?_; rintro e wq ⟨rfl, hw⟩; have hw := hw.symm; subst hw; clear f1)
          | (go_at_call 27; refine Calls.mono (f2 _) ?_; rintro e wq ⟨rfl, hw⟩; have hw := hw.symm; subst hw; clear f2))
        go_ret2
        exact ⟨rfl, rfl⟩
  · have f1 := fit_usage u false (by
      rw [eq_comm, Bool.and_eq_false_iff]
      rcases Int.lt_or_le u 0 with h | h
      · exact .inl (by simp; omega)
      · exact .inr (by simp; omega))
    clear hx h1 wN
    go_enter Tryz.func11, Tryz.ntmps11
    go_wp2_with (go_at_call 26; refine Calls.mono (f1 _) ?_; rintro e wq ⟨rfl, hw⟩; have hw := hw.symm; subst hw; clear f1)
    go_ret2
    exact ⟨rfl, rfl⟩
def StepO (w w' : World) (b : Nat) (h h' : Option Nat) : Prop := Chg (Ow b h) w w' ∧ (h' = h ∨ (h = none ∧ ∃ g, h' = some g ∧ w.heap.size ≤ g))
theorem StepO.refl (w : World) (b : Nat) (h : Option Nat) : StepO w w b h h := ⟨Chg.refl _ _, .inl rfl⟩
theorem Step.o {w w' : World} {b g : Nat} {h : Option Nat} (hs : Step w w' b h g) : StepO w w' b h (some g) :=
  ⟨hs.1, hs.2.imp (fun e => e.symm) (fun e => ⟨e.1, g, rfl, e.2⟩)⟩
theorem StepO.own {w w' : World} {b : Nat} {h h' : Option Nat} (hs : StepO w w' b h h') : ∀ i, i < w.heap.size → Ow b h' i → Ow b h i := by
  intro i hi hx
  rcases hs.2 with rfl | ⟨_, g, rfl, hg⟩
  · exact hx
  · rcases hx with hx | hx
    · exact .inl hx
    · injection hx with hx; omega
theorem StepO.trans {a w c : World} {b : Nat} {h h1 h2 : Option Nat} (s1 : StepO a w b h h1) (s2 : StepO w c b h1 h2) : StepO a c b h h2 := by
  refine ⟨s1.1.trans s2.1 s1.own, ?_⟩
  rcases s1.2 with rfl | ⟨e, g, rfl, hg⟩
  · rcases s2.2 with rfl | ⟨e, g, rfl, hg⟩
    · exact .inl rfl
    · exact .inr ⟨e, g, rfl, Nat.le_trans s1.1.size hg⟩
  · rcases s2.2 with rfl | ⟨e2, _⟩
    · exact .inr ⟨e, g, rfl, hg⟩
    · cases e2
theorem StepO.drewN {w w' : World} {b : Nat} {h h' : Option Nat} (hs : StepO w w' b h h') (k : Nat) : StepO w (w'.drewN k) b h h' := ⟨⟨hs.1.os, hs.1.tape, hs.1.output, hs.1.size, hs.1.block⟩, hs.2⟩
theorem chg_drewN (S : Nat → Prop) (w : World) (k : Nat) : Chg S w (w.drewN k) := ⟨rfl, rfl, rfl, Nat.le_refl _, fun _ _ _ => rfl⟩

theorem rd_nil_16 {l : List UInt8} {n : Nat} {P : Prop} (hn : n = l.length) (h : 8 ≤ n) (hx : bvs l = []) : P := by
  have := bvs_length l; rw [hx] at this; simp at this; omega
theorem RdA.take {S : Nat → Prop} {w : World} {A : Option Addr} {l : List UInt8} (h : RdA S w A (bvs l)) (k : Nat) : RdA S w A (bvs (l.take k)) := by
  rcases h with h | ⟨b, o, h1, h2, h3, h4⟩
  · left
    have : l = [] := List.map_eq_nil_iff.1 h
    rw [this, List.take_nil]; rfl
  · refine .inr ⟨b, o, h1, h2, h3, fun i u hu => h4 i u ?_⟩
    unfold bvs at hu ⊢
    rw [List.map_take, List.getElem?_take] at hu
    split at hu
    · exact hu
    · cases hu
theorem RdA.drop {S : Nat → Prop} {w : World} {b o : Nat} {l : List UInt8} (h : RdA S w (some ⟨b, o, none⟩) (bvs l)) (k : Nat) : RdA S w (some ⟨b, o + k, none⟩) (bvs (l.drop k)) := by
  rcases h with h | ⟨b', o', h1, h2, h3, h4⟩
  · left
    have : l = [] := List.map_eq_nil_iff.1 h
    rw [this, List.drop_nil]; rfl
  · injection h1 with h1
    injection h1 with e1 e2
    subst e1 e2
    refine .inr ⟨b, o + k, rfl, h2, h3, fun i u hu => ?_⟩
    unfold bvs at hu
    rw [List.map_drop, List.getElem?_drop] at hu
    have := h4 (k + i) u hu
    rwa [← Nat.add_assoc] at this
theorem isL_short {ks : Nat → UInt8} {u : Nat} {l : List UInt8} (h : l.length < 16 ∨ 800 < l.length ∨ 1099511627776 < n8 l) : isL ks u l = false := by
  unfold isL
  rcases h with h | h | h
  · rw [show decide (16 ≤ l.length) = false by simp; omega]; simp
  · rw [show decide (l.length ≤ 800) = false by simp; omega]; simp
  · rw [show decide (n8 l ≤ 1099511627776) = false by simp; omega]; simp
theorem isL_long {ks : Nat → UInt8} {u : Nat} {l : List UInt8} (h1 : 16 ≤ l.length) (h2 : l.length ≤ 800) (h3 : n8 l ≤ 1099511627776) : isL ks u l = decide (tagL ks u (headL l) = n8 (lastL l)) := by
  unfold isL
  rw [show decide (16 ≤ l.length) = true by simpa using h1, show decide (l.length ≤ 800) = true by simpa using h2, show decide (n8 l ≤ 1099511627776) = true by simpa using h3]; simp

set_option maxRecDepth 100000 in
set_option maxHeartbeats 1600000 in
theorem is_short (b u : Nat) (ks : Nat → UInt8) (A : Option Addr) (n c : Nat) (l : List UInt8) (w : World) (hn : n = l.length) (hc : n ≤ c) (hm : c ≤ maxLen) (hr : Rd w w.heap.size A (bvs l)) (hx : l.length < 16 ∨ 800 < l.length ∨ 1099511627776 < n8 l) :
    Calls Tryz.prog 35 #[.pointer (some ⟨b, 0, none⟩), .int .i64 (u : Int), .slice A n c] w fun e w' => e = .returned (.bool false) ∧ w' = w := by
  by_cases h1 : n < 16
  · have t1 : decide ((n : Int) < 16) = true := by simp; omega
    clear hx hr hn hc hm h1
    go_enter Tryz.func35, Tryz.ntmps35
    go_wp2
    go_ret
    exact ⟨rfl, rfl⟩
  · have t1 : decide ((n : Int) < 16) = false := by simp; omega
    by_cases h2 : 800 < n
    · have t2 : decide (800 < (n : Int)) = true := by simp; omega
      clear hx hr hn hc hm h1 h2
      go_enter Tryz.func35, Tryz.ntmps35
      go_wp2
      go_ret
      exact ⟨rfl, rfl⟩
    · have t2 : decide (800 < (n : Int)) = false := by simp; omega
      have h3 : 1099511627776 < n8 l := by omega
      have cw := word_any w.heap.size A n c l w hn (by omega) hc hr
      have f2 := fit_nonce (n8 l) false (by simp; omega)
      obtain ⟨N, eN⟩ : ∃ N, N = n8 l := ⟨_, rfl⟩
      rw [← eN] at cw f2
      clear hx hr hn hc hm h1 h2 h3 eN
      go_enter Tryz.func35, Tryz.ntmps35
      go_wp2_with (first
        | (go_at_call 36; refine Calls.mono cw ?_; rintro e wq ⟨rfl, hw⟩; have hw := hw.symm; subst hw; clear cw)
        | (go_at_call 27; refine Calls.mono (f2 _) ?_; rintro e wq ⟨rfl, hw⟩; have hw := hw.symm; subst hw; clear f2))
      go_ret
      exact ⟨rfl, rfl⟩
set_option maxRecDepth 100000 in
set_option maxHeartbeats 1600000 in
theorem is_long (b : Nat) (ks : Nat → UInt8) (h : Option Nat) (a o r u : Nat) (A : Option Addr) (n c : Nat) (l : List UInt8) (w : World) (hu : u ≤ 255) (hn : n = l.length) (hc : n ≤ c) (hm : c ≤ maxLen) (hr : RdA (Ow b h) w A (bvs l)) (hK : Box w b ks h a o r) (h1 : 16 ≤ l.length) (h2 : l.length ≤ 800) (h3 : n8 l ≤ 1099511627776) :
    Calls Tryz.prog 35 #[.pointer (some ⟨b, 0, none⟩), .int .i64 (u : Int), .slice A n c] w fun e w' => e = .returned (.bool (decide (tagL ks u (headL l) = n8 (lastL l)))) ∧ ∃ g, Box w' b ks (some g) a o r ∧ Step w w' b h g := by
  have cw := word_any w.heap.size A n c l w hn (by omega) hc hr.rd
  have f2 := fit_nonce (n8 l) true (by simp; omega)
  obtain ⟨b2, o2, rfl⟩ : ∃ b2 o2, A = some ⟨b2, o2, none⟩ := by
    rcases hr with hx | ⟨b2, o2, h4, _⟩
    · exact rd_nil_16 hn (by omega) hx
    · exact ⟨b2, o2, h4⟩
  obtain ⟨k, hk⟩ : ∃ k, n = k + 8 := ⟨n - 8, by omega⟩
  have hk8 : n - 8 = k := by omega
  have hhd : headL l = l.take k := by unfold headL; rw [← hn, hk8]
  have hla : lastL l = l.drop k := by unfold lastL; rw [← hn, hk8]
  have ct := fun (q : Nat) => tag_any b ks h a o r u (some ⟨b2, o2, none⟩) k c (headL l) (w.drewN q) hu (by rw [hhd, List.length_take]; omega) (by omega) ((hhd ▸ hr.take k).keep (chg_drewN (fun _ => False) w q) (fun _ _ x => x.elim) (fun _ _ x => x)) (hK.chg (chg_drewN (fun _ => False) w q) (fun _ _ x => x))
  have cl := fun (w2 : World) (hw : RdA (Aw b h w.heap.size) w2 (some ⟨b2, o2 + k, none⟩) (bvs (lastL l))) (c2 : Nat) (hc2 : 8 ≤ c2) => word_any w2.heap.size (some ⟨b2, o2 + k, none⟩) 8 c2 (lastL l) w2 (by rw [hla, List.length_drop]; omega) (Nat.le_refl _) hc2 hw.rd
  have hrl : RdA (Aw b h w.heap.size) w (some ⟨b2, o2 + k, none⟩) (bvs (lastL l)) := hla ▸ (hr.drop k).aw (Nat.le_refl _)
  obtain ⟨N, eN⟩ : ∃ N, N = n8 l := ⟨_, rfl⟩
  obtain ⟨M, eM⟩ : ∃ M, M = n8 (lastL l) := ⟨_, rfl⟩
  obtain ⟨T, eT⟩ : ∃ T, T = tagL ks u (headL l) := ⟨_, rfl⟩
  rw [← eN] at cw f2
  rw [← eM] at cl ⊢
  rw [← eT] at ct ⊢
  have HRL := Lib.hid hrl; clear hrl
  have t1 : decide ((n : Int) < 16) = false := by simp; omega
  have t2 : decide (800 < (n : Int)) = false := by simp; omega
  have s1 : (k : Int) ≤ 792 := by omega
  have s2 : (0 : Int) ≤ (k : Int) := by omega
  have s3 : (k : Int) ≤ (c : Int) := by omega
  have s4 : (k : Int) ≤ (n : Int) := by omega
  have s5 : (n : Int) ≤ (c : Int) := by omega
  have s6 : (n : Int) - 8 = (k : Int) := by omega
  have s7 : IntKind.i64.wrap (k : Int) = (k : Int) := by rw [IntKind.wrap_i64]; omega
  have s9 : n - k = 8 := by omega
  have s10 : k ≤ c := by omega
  have s11 : k ≤ n := by omega
  have HKN := Lib.hid hk; clear hk
  have HC := Lib.hid hc; clear hc
  have CL := Lib.hid cl; clear cl
  clear hK hr hn hm h1 h2 h3 eN eM eT hhd hla hu hk8
  go_enter Tryz.func35, Tryz.ntmps35
  go_wp2_with (first
    | (go_at_call 36; refine Calls.mono cw ?_; rintro e wq ⟨rfl, hw⟩; have hw := hw.symm; subst hw; clear cw)
    | (go_at_call 27; refine Calls.mono (f2 _) ?_; rintro e wq ⟨rfl, hw⟩; have hw := hw.symm; subst hw; clear f2))
  go_quiet (fail)
  have ct2 := ct nq
  clear ct
  go_wp2_with (first
    | (go_at_call 30; refine Calls.mono ct2 ?_; rintro e w3 ⟨g, rfl, hb3, hs3⟩; clear ct2; have hr3 := HRL.out.go ((chg_drewN (Aw b h w.heap.size) w nq).then hs3.aw); have cl2 := CL.out w3 hr3 (c - k) (by have := HKN.out; have := HC.out; omega); have B3 := Lib.hid hb3; have S3 := Lib.hid hs3; clear hb3 hs3 hr3 CL)
    | (go_at_call 36; refine Calls.mono cl2 ?_; rintro e wq ⟨rfl, hw⟩; have hw := hw.symm; subst hw; clear cl2))
  go_ret
  refine ⟨?_, g, B3.out, ⟨⟨S3.out.1.os, S3.out.1.tape, S3.out.1.output, S3.out.1.size, S3.out.1.block⟩, S3.out.2⟩⟩
  show Ending.returned (.bool (decide ((T : Int) = (M : Int)))) = _
  congr 3
  exact propext ⟨by omega, by omega⟩
end Go.Proofs.YtcjibpjdfhhhkaaGreat.Se
end

section
set_option linter.unusedVariables false
namespace Go.Proofs.YtcjibpjdfhhhkaaGreat.Se
open Go.RowKit Go.Proofs.YtcjibpjdfhhhkaaGreat.Mem

theorem is_any (b : Nat) (ks : Nat → UInt8) (h : Option Nat) (a o r u : Nat) (A : Option Addr) (n c : Nat) (l : List UInt8) (w : World) (hu : u ≤ 255) (hn : n = l.length) (hc : n ≤ c) (hm : c ≤ maxLen) (hr : RdA (Ow b h) w A (bvs l)) (hK : Box w b ks h a o r) :
    Calls Tryz.prog 35 #[.pointer (some ⟨b, 0, none⟩), .int .i64 (u : Int), .slice A n c] w fun e w' => e = .returned (.bool (isL ks u l)) ∧ ∃ h', Box w' b ks h' a o r ∧ StepO w w' b h h' := by
  by_cases hx : l.length < 16 ∨ 800 < l.length ∨ 1099511627776 < n8 l
  · refine (is_short b u ks A n c l w hn hc hm hr.rd hx).mono ?_
    rintro e w' ⟨rfl, hw⟩
    subst hw
    exact ⟨by rw [isL_short hx], h, hK, StepO.refl _ _ _⟩
  · refine (is_long b ks h a o r u A n c l w hu hn hc hm hr hK (by omega) (by omega) (by omega)).mono ?_
    rintro e w' ⟨rfl, g, h1, h2⟩
    exact ⟨by rw [isL_long (by omega) (by omega) (by omega)], some g, h1, h2.o⟩
theorem StepO.aw {w w' : World} {b n : Nat} {h h' : Option Nat} (hs : StepO w w' b h h') : Chg (Aw b h n) w w' := hs.1.mono fun i _ hx => .inl hx
end Go.Proofs.YtcjibpjdfhhhkaaGreat.Se
end
