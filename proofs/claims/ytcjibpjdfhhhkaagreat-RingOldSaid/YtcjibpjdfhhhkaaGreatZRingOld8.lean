import Derived.Deep.QuietTactic
import Derived.BigQuiet
import Derived.StillTailTactics
import Derived.Deep.LoopGhost
import Derived.Laws.StructEq
import Derived.Test.YtcjibpjdfhhhkaaGreatZRingOld1
import Derived.Test.YtcjibpjdfhhhkaaGreatZRingOld2
import Derived.Test.YtcjibpjdfhhhkaaGreatZRingOld3
import Derived.Test.YtcjibpjdfhhhkaaGreatZRingOld4
import Derived.Test.YtcjibpjdfhhhkaaGreatZRingOld5
import Derived.Test.YtcjibpjdfhhhkaaGreatZRingOld6
import Derived.Test.YtcjibpjdfhhhkaaGreatZRingOld7
section
set_option linter.unusedVariables false
namespace Go.Proofs.YtcjibpjdfhhhkaaGreat.Se
open Go.RowKit Go.Proofs.YtcjibpjdfhhhkaaGreat.Mem

set_option maxRecDepth 100000 in
set_option maxHeartbeats 1600000 in
theorem seal_bad (b : Nat) (u N : Int) (A : Option Addr) (m c : Nat) (w : World) (wN : (Lit.int .i64 N).wf = true) (hm : m ≤ maxLen) (hx : ¬ (0 ≤ u ∧ u ≤ 255 ∧ 0 ≤ N ∧ N ≤ 1099511627776 ∧ m ≤ 784)) :
    Calls Tryz.prog 11 #[.pointer (some ⟨b, 0, none⟩), .int .i64 u, .int .i64 N, .slice A m c] w fun e w' => e = .returned (.tuple #[.slice none 0 0, .int .i64 1]) ∧ w' = w := by
  by_cases h1 : 0 ≤ u ∧ u ≤ 255
  · have f1 := fit_usage u true (by simp; omega)
    by_cases h2 : N < 0
    · have t2 : decide (N < 0) = true := by simpa using h2
      clear hx h1 wN hm
      go_enter Tryz.func11, Tryz.ntmps11
      go_wp2_with (go_at_call 26; refine Calls.mono (f1 _) ?_; rintro e wq ⟨rfl, hw⟩; have hw := hw.symm; subst hw; clear f1)
      go_ret2
      exact ⟨rfl, rfl⟩
    · obtain ⟨n, rfl⟩ : ∃ n : Nat, N = (n : Int) := ⟨N.toNat, by omega⟩
      have hn63 : n < 9223372036854775808 := by
        have := Open.i64_of_wf wN
        omega
      have t2 : decide ((n : Int) < 0) = false := by simp
      have q4 : IntKind.u64.wrap (n : Int) = (n : Int) := by rw [IntKind.wrap_u64]; omega
      by_cases h3 : n ≤ 1099511627776
      · have f2 := fit_nonce n true (by simp; omega)
        have t3 : decide (784 < (m : Int)) = true := by simp; omega
        have q1 : (n : Int) ≤ 1099511627776 := by omega
        clear hx h1 h2 wN
        go_enter Tryz.func11, Tryz.ntmps11
        go_wp2_with (first
          | (go_at_call 26; refine Calls.mono (f1 _) ?_; rintro e wq ⟨rfl, hw⟩; have hw := hw.symm; subst hw; clear f1)
          | (go_at_call 27; refine Calls.mono (f2 _) ?_; rintro e wq ⟨rfl, hw⟩; have hw := hw.symm; subst hw; clear f2))
        go_ret2
        exact ⟨rfl, rfl⟩
      · have f2 := fit_nonce n false (by simp; omega)
        clear hx h1 h2 wN
        go_enter Tryz.func11, Tryz.ntmps11
        go_wp2_with (first
          | (go_at_call 26; refine Calls.mono (f1 _) ?_; rintro e wq ⟨rfl, hw⟩; have hw := hw.symm; subst hw; clear f1)
          | (go_at_call 27; refine Calls.mono (f2 _) ?_; rintro e wq ⟨rfl, hw⟩; have hw := hw.symm; subst hw; clear f2))
        go_ret2
        exact ⟨rfl, rfl⟩
  · have f1 := fit_usage u false (by
      rw [eq_comm, Bool.and_eq_false_iff]
      rcases Int.lt_or_le u 0 with h | h
      · exact .inl (by simp; omega)
      · exact .inr (by simp; omega))
    clear hx h1 wN
    go_enter Tryz.func11, Tryz.ntmps11
    go_wp2_with (go_at_call 26; refine Calls.mono (f1 _) ?_; rintro e wq ⟨rfl, hw⟩; have hw := hw.symm; subst hw; clear f1)
    go_ret2
    exact ⟨rfl, rfl⟩
theorem open_bad (b : Nat) (u : Int) (p : Value) (w : World) (hx : ¬ (0 ≤ u ∧ u ≤ 255)) :
    Calls Tryz.prog 18 #[.pointer (some ⟨b, 0, none⟩), .int .i64 u, p] w fun e w' => e = .returned (.tuple #[.slice none 0 0, .int .i64 1]) ∧ w' = w := by
  have f1 := fit_usage u false (by
    rw [eq_comm, Bool.and_eq_false_iff]
    rcases Int.lt_or_le u 0 with h | h
    · exact .inl (by simp; omega)
    · exact .inr (by simp; omega))
  clear hx
  go_enter Tryz.func18, Tryz.ntmps18
  go_wp2_with (go_at_call 26; refine Calls.mono (f1 _) ?_; rintro e wq ⟨rfl, hw⟩; have hw := hw.symm; subst hw; clear f1)
  go_ret2
  exact ⟨rfl, rfl⟩
def StepO (w w' : World) (b : Nat) (h h' : Option Nat) : Prop := Chg (Ow b h) w w' ∧ (h' = h ∨ (h = none ∧ ∃ g, h' = some g ∧ w.heap.size ≤ g))
theorem StepO.refl (w : World) (b : Nat) (h : Option Nat) : StepO w w b h h := ⟨Chg.refl _ _, .inl rfl⟩
theorem Step.o {w w' : World} {b g : Nat} {h : Option Nat} (hs : Step w w' b h g) : StepO w w' b h (some g) :=
  ⟨hs.1, hs.2.imp (fun e => e.symm) (fun e => ⟨e.1, g, rfl, e.2⟩)⟩
theorem StepO.own {w w' : World} {b : Nat} {h h' : Option Nat} (hs : StepO w w' b h h') : ∀ i, i < w.heap.size → Ow b h' i → Ow b h i := by
  intro i hi hx
  rcases hs.2 with rfl | ⟨_, g, rfl, hg⟩
  · exact hx
  · rcases hx with hx | hx
    · exact .inl hx
    · injection hx with hx; omega
theorem StepO.trans {a w c : World} {b : Nat} {h h1 h2 : Option Nat} (s1 : StepO a w b h h1) (s2 : StepO w c b h1 h2) : StepO a c b h h2 := by
  refine ⟨s1.1.trans s2.1 s1.own, ?_⟩
  rcases s1.2 with rfl | ⟨e, g, rfl, hg⟩
  · rcases s2.2 with rfl | ⟨e, g, rfl, hg⟩
    · exact .inl rfl
    · exact .inr ⟨e, g, rfl, Nat.le_trans s1.1.size hg⟩
  · rcases s2.2 with rfl | ⟨e2, _⟩
    · exact .inr ⟨e, g, rfl, hg⟩
    · cases e2
theorem StepO.drewN {w w' : World} {b : Nat} {h h' : Option Nat} (hs : StepO w w' b h h') (k : Nat) : StepO w (w'.drewN k) b h h' := ⟨⟨hs.1.os, hs.1.tape, hs.1.output, hs.1.size, hs.1.block⟩, hs.2⟩
theorem chg_drewN (S : Nat → Prop) (w : World) (k : Nat) : Chg S w (w.drewN k) := ⟨rfl, rfl, rfl, Nat.le_refl _, fun _ _ _ => rfl⟩

theorem rd_nil_16 {l : List UInt8} {n : Nat} {P : Prop} (hn : n = l.length) (h : 8 ≤ n) (hx : bvs l = []) : P := by
  have := bvs_length l; rw [hx] at this; simp at this; omega
theorem RdA.take {S : Nat → Prop} {w : World} {A : Option Addr} {l : List UInt8} (h : RdA S w A (bvs l)) (k : Nat) : RdA S w A (bvs (l.take k)) := by
  rcases h with h | ⟨b, o, h1, h2, h3, h4⟩
  · left
    have : l = [] := List.map_eq_nil_iff.1 h
    rw [this, List.take_nil]; rfl
  · refine .inr ⟨b, o, h1, h2, h3, fun i u hu => h4 i u ?_⟩
    unfold bvs at hu ⊢
    rw [List.map_take, List.getElem?_take] at hu
    split at hu
    · exact hu
    · cases hu
theorem RdA.drop {S : Nat → Prop} {w : World} {b o : Nat} {l : List UInt8} (h : RdA S w (some ⟨b, o, none⟩) (bvs l)) (k : Nat) : RdA S w (some ⟨b, o + k, none⟩) (bvs (l.drop k)) := by
  rcases h with h | ⟨b', o', h1, h2, h3, h4⟩
  · left
    have : l = [] := List.map_eq_nil_iff.1 h
    rw [this, List.drop_nil]; rfl
  · injection h1 with h1
    injection h1 with e1 e2
    subst e1 e2
    refine .inr ⟨b, o + k, rfl, h2, h3, fun i u hu => ?_⟩
    unfold bvs at hu
    rw [List.map_drop, List.getElem?_drop] at hu
    have := h4 (k + i) u hu
    rwa [← Nat.add_assoc] at this
theorem isL_short {ks : Nat → UInt8} {u : Nat} {l : List UInt8} (h : l.length < 16 ∨ 800 < l.length ∨ 1099511627776 < n8 l) : isL ks u l = false := by
  unfold isL
  rcases h with h | h | h
  · rw [show decide (16 ≤ l.length) = false by simp; omega]; simp
  · rw [show decide (l.length ≤ 800) = false by simp; omega]; simp
  · rw [show decide (n8 l ≤ 1099511627776) = false by simp; omega]; simp
theorem isL_long {ks : Nat → UInt8} {u : Nat} {l : List UInt8} (h1 : 16 ≤ l.length) (h2 : l.length ≤ 800) (h3 : n8 l ≤ 1099511627776) : isL ks u l = decide (tagL ks u (headL l) = n8 (lastL l)) := by
  unfold isL
  rw [show decide (16 ≤ l.length) = true by simpa using h1, show decide (l.length ≤ 800) = true by simpa using h2, show decide (n8 l ≤ 1099511627776) = true by simpa using h3]; simp

set_option maxRecDepth 100000 in
set_option maxHeartbeats 1600000 in
theorem is_short (b u : Nat) (ks : Nat → UInt8) (A : Option Addr) (n c : Nat) (l : List UInt8) (w : World) (hn : n = l.length) (hc : n ≤ c) (hm : c ≤ maxLen) (hr : Rd w w.heap.size A (bvs l)) (hx : l.length < 16 ∨ 800 < l.length ∨ 1099511627776 < n8 l) :
    Calls Tryz.prog 35 #[.pointer (some ⟨b, 0, none⟩), .int .i64 (u : Int), .slice A n c] w fun e w' => e = .returned (.bool false) ∧ w' = w := by
  by_cases h1 : n < 16
  · have t1 : decide ((n : Int) < 16) = true := by simp; omega
    clear hx hr hn hc hm h1
    go_enter Tryz.func35, Tryz.ntmps35
    go_wp2
    go_ret
    exact ⟨rfl, rfl⟩
  · have t1 : decide ((n : Int) < 16) = false := by simp; omega
    by_cases h2 : 800 < n
    · have t2 : decide (800 < (n : Int)) = true := by simp; omega
      clear hx hr hn hc hm h1 h2
      go_enter Tryz.func35, Tryz.ntmps35
      go_wp2
      go_ret
      exact ⟨rfl, rfl⟩
    · have t2 : decide (800 < (n : Int)) = false := by simp; omega
      have h3 : 1099511627776 < n8 l := by omega
      have cw := word_any w.heap.size A n c l w hn (by omega) hc hr
      have f2 := fit_nonce (n8 l) false (by simp; omega)
      obtain ⟨N, eN⟩ : ∃ N, N = n8 l := ⟨_, rfl⟩
      rw [← eN] at cw f2
      clear hx hr hn hc hm h1 h2 h3 eN
      go_enter Tryz.func35, Tryz.ntmps35
      go_wp2_with (first
        | (go_at_call 36; refine Calls.mono cw ?_; rintro e wq ⟨rfl, hw⟩; have hw := hw.symm; subst hw; clear cw)
        | (go_at_call 27; refine Calls.mono (f2 _) ?_; rintro e wq ⟨rfl, hw⟩; have hw := hw.symm; subst hw; clear f2))
      go_ret
      exact ⟨rfl, rfl⟩
set_option maxRecDepth 100000 in
set_option maxHeartbeats 1600000 in
theorem is_long (b : Nat) (ks : Nat → UInt8) (h : Option Nat) (a o r u : Nat) (A : Option Addr) (n c : Nat) (l : List UInt8) (w : World) (hu : u ≤ 255) (hn : n = l.length) (hc : n ≤ c) (hm : c ≤ maxLen) (hr : RdA (Ow b h) w A (bvs l)) (hK : Box w b ks h a o r) (h1 : 16 ≤ l.length) (h2 : l.length ≤ 800) (h3 : n8 l ≤ 1099511627776) :
    Calls Tryz.prog 35 #[.pointer (some ⟨b, 0, none⟩), .int .i64 (u : Int), .slice A n c] w fun e w' => e = .returned (.bool (decide (tagL ks u (headL l) = n8 (lastL l)))) ∧ ∃ g, Box w' b ks (some g) a o r ∧ Step w w' b h g := by
  have cw := word_any w.heap.size A n c l w hn (by omega) hc hr.rd
  have f2 := fit_nonce (n8 l) true (by simp; omega)
  obtain ⟨b2, o2, rfl⟩ : ∃ b2 o2, A = some ⟨b2, o2, none⟩ := by
    rcases hr with hx | ⟨b2, o2, h4, _⟩
    · exact rd_nil_16 hn (by omega) hx
    · exact ⟨b2, o2, h4⟩
  obtain ⟨k, hk⟩ : ∃ k, n = k + 8 := ⟨n - 8, by omega⟩
  have hk8 : n - 8 = k := by omega
  have hhd : headL l = l.take k := by unfold headL; rw [← hn, hk8]
  have hla : lastL l = l.drop k := by unfold lastL; rw [← hn, hk8]
  have ct := fun (q : Nat) => tag_any b ks h a o r u (some ⟨b2, o2, none⟩) k c (headL l) (w.drewN q) hu (by rw [hhd, List.length_take]; omega) (by omega) ((hhd ▸ hr.take k).keep (chg_drewN (fun _ => False) w q) (fun _ _ x => x.elim) (fun _ _ x => x)) (hK.chg (chg_drewN (fun _ => False) w q) (fun _ _ x => x))
  have cl := fun (w2 : World) (hw : RdA (Aw b h w.heap.size) w2 (some ⟨b2, o2 + k, none⟩) (bvs (lastL l))) (c2 : Nat) (hc2 : 8 ≤ c2) => word_any w2.heap.size (some ⟨b2, o2 + k, none⟩) 8 c2 (lastL l) w2 (by rw [hla, List.length_drop]; omega) (Nat.le_refl _) hc2 hw.rd
  have hrl : RdA (Aw b h w.heap.size) w (some ⟨b2, o2 + k, none⟩) (bvs (lastL l)) := hla ▸ (hr.drop k).aw (Nat.le_refl _)
  obtain ⟨N, eN⟩ : ∃ N, N = n8 l := ⟨_, rfl⟩
  obtain ⟨M, eM⟩ : ∃ M, M = n8 (lastL l) := ⟨_, rfl⟩
  obtain ⟨T, eT⟩ : ∃ T, T = tagL ks u (headL l) := ⟨_, rfl⟩
  rw [← eN] at cw f2
  rw [← eM] at cl ⊢
  rw [← eT] at ct ⊢
  have HRL := Lib.hid hrl; clear hrl
  have t1 : decide ((n : Int) < 16) = false := by simp; omega
  have t2 : decide (800 < (n : Int)) = false := by simp; omega
  have s1 : (k : Int) ≤ 792 := by omega
  have s2 : (0 : Int) ≤ (k : Int) := by omega
  have s3 : (k : Int) ≤ (c : Int) := by omega
  have s4 : (k : Int) ≤ (n : Int) := by omega
  have s5 : (n : Int) ≤ (c : Int) := by omega
  have s6 : (n : Int) - 8 = (k : Int) := by omega
  have s7 : IntKind.i64.wrap (k : Int) = (k : Int) := by rw [IntKind.wrap_i64]; omega
  have s9 : n - k = 8 := by omega
  have s10 : k ≤ c := by omega
  have s11 : k ≤ n := by omega
  have HKN := Lib.hid hk; clear hk
  have HC := Lib.hid hc; clear hc
  have CL := Lib.hid cl; clear cl
  clear hK hr hn hm h1 h2 h3 eN eM eT hhd hla hu hk8
  go_enter Tryz.func35, Tryz.ntmps35
  go_wp2_with (first
    | (go_at_call 36; refine Calls.mono cw ?_; rintro e wq ⟨rfl, hw⟩; have hw := hw.symm; subst hw; clear cw)
    | (go_at_call 27; refine Calls.mono (f2 _) ?_; rintro e wq ⟨rfl, hw⟩; have hw := hw.symm; subst hw; clear f2))
  go_quiet (fail)
  have ct2 := ct nq
  clear ct
  go_wp2_with (first
    | (go_at_call 30; refine Calls.mono ct2 ?_; rintro e w3 ⟨g, rfl, hb3, hs3⟩; clear ct2; have hr3 := HRL.out.go ((chg_drewN (Aw b h w.heap.size) w nq).then hs3.aw); have cl2 := CL.out w3 hr3 (c - k) (by have := HKN.out; have := HC.out; omega); have B3 := Lib.hid hb3; have S3 := Lib.hid hs3; clear hb3 hs3 hr3 CL)
    | (go_at_call 36; refine Calls.mono cl2 ?_; rintro e wq ⟨rfl, hw⟩; have hw := hw.symm; subst hw; clear cl2))
  go_ret
  refine ⟨?_, g, B3.out, ⟨⟨S3.out.1.os, S3.out.1.tape, S3.out.1.output, S3.out.1.size, S3.out.1.block⟩, S3.out.2⟩⟩
  show Ending.returned (.bool (decide ((T : Int) = (M : Int)))) = _
  congr 3
  exact propext ⟨by omega, by omega⟩
end Go.Proofs.YtcjibpjdfhhhkaaGreat.Se
end

section
set_option linter.unusedVariables false
namespace Go.Proofs.YtcjibpjdfhhhkaaGreat.Se
open Go.RowKit Go.Proofs.YtcjibpjdfhhhkaaGreat.Mem

theorem is_any (b : Nat) (ks : Nat → UInt8) (h : Option Nat) (a o r u : Nat) (A : Option Addr) (n c : Nat) (l : List UInt8) (w : World) (hu : u ≤ 255) (hn : n = l.length) (hc : n ≤ c) (hm : c ≤ maxLen) (hr : RdA (Ow b h) w A (bvs l)) (hK : Box w b ks h a o r) :
    Calls Tryz.prog 35 #[.pointer (some ⟨b, 0, none⟩), .int .i64 (u : Int), .slice A n c] w fun e w' => e = .returned (.bool (isL ks u l)) ∧ ∃ h', Box w' b ks h' a o r ∧ StepO w w' b h h' := by
  by_cases hx : l.length < 16 ∨ 800 < l.length ∨ 1099511627776 < n8 l
  · refine (is_short b u ks A n c l w hn hc hm hr.rd hx).mono ?_
    rintro e w' ⟨rfl, hw⟩
    subst hw
    exact ⟨by rw [isL_short hx], h, hK, StepO.refl _ _ _⟩
  · refine (is_long b ks h a o r u A n c l w hu hn hc hm hr hK (by omega) (by omega) (by omega)).mono ?_
    rintro e w' ⟨rfl, g, h1, h2⟩
    exact ⟨by rw [isL_long (by omega) (by omega) (by omega)], some g, h1, h2.o⟩
theorem StepO.aw {w w' : World} {b n : Nat} {h h' : Option Nat} (hs : StepO w w' b h h') : Chg (Aw b h n) w w' := hs.1.mono fun i _ hx => .inl hx
theorem StepO.rda {w w' : World} {b : Nat} {h h' : Option Nat} {A : Option Addr} {xs : List Value} (hs : StepO w w' b h h') (hr : RdA (Ow b h) w A xs) : RdA (Ow b h') w' A xs :=
  hr.keep hs.1 (fun _ _ x => x) hs.own
set_option maxRecDepth 100000 in
set_option maxHeartbeats 1600000 in
theorem open_ref (b : Nat) (ks : Nat → UInt8) (h : Option Nat) (a o r u : Nat) (A : Option Addr) (n c : Nat) (l : List UInt8) (w : World) (hr1 : r < 1000000) (hu : u ≤ 255) (hn : n = l.length) (hc : n ≤ c) (hm : c ≤ maxLen) (hr : RdA (Ow b h) w A (bvs l)) (hK : Box w b ks h a o r) (hx : isL ks u l = false) :
    Calls Tryz.prog 18 #[.pointer (some ⟨b, 0, none⟩), .int .i64 (u : Int), .slice A n c] w fun e w' => e = .returned (.tuple #[.slice none 0 0, .int .i64 3]) ∧ ∃ h', Box w' b ks h' a o (r + 1) ∧ StepO w w' b h h' := by
  have f1 := fit_usage (u : Int) true (by simp; omega)
  have ci := is_any b ks h a o r u A n c l w hu hn hc hm hr hK
  rw [hx] at ci
  have HR1 := Lib.hid hr1; clear hr1
  clear hu hn hc hm hr hK hx
  go_enter Tryz.func18, Tryz.ntmps18
  go_wp2_with (first
    | (go_at_call 26; refine Calls.mono (f1 _) ?_; rintro e wq ⟨rfl, hw⟩; have hw := hw.symm; subst hw; clear f1)
    | (go_at_call 35; refine Calls.mono ci ?_; rintro e w2 ⟨rfl, h2, hb2, hs2⟩; clear ci; have hcr : w2.cell? ⟨b, 54, none⟩ = some (.int .i64 (r : Int)) ∧ w2.frozen? ⟨b, 54, none⟩ = false := by { cases h2 with | none => exact ⟨XB.cr hb2, XB.fz hb2 54⟩ | some g => exact ⟨hb2.1.cr, hb2.1.fz 54⟩ }; have cadd := add_one ⟨b, 54, none⟩ r w2 HR1.out hcr.1 hcr.2; have B2 := Lib.hid hb2; have S2 := Lib.hid hs2; clear hb2 hs2 hcr)
    | (go_at_call 31; refine Calls.mono cadd ?_; rintro e w7 ⟨rfl, hw7⟩; clear cadd; have HW7 := Lib.hid hw7; clear hw7))
  go_ret2
  refine ⟨rfl, h2, by rw [HW7.out]; exact B2.out.refuses (r + 1), ?_⟩
  rw [HW7.out]
  refine ⟨S2.out.1.trans ((Chg.refl (fun i => i = b) w2).set (.inl rfl) _) (fun i _ hx => .inl hx), S2.out.2⟩
set_option maxRecDepth 100000 in
set_option maxHeartbeats 1600000 in
theorem open_ok (b : Nat) (ks : Nat → UInt8) (h : Option Nat) (a o r u : Nat) (A : Option Addr) (n c : Nat) (l : List UInt8) (w : World) (ho1 : o < 1000000) (hu : u ≤ 255) (hn : n = l.length) (hc : n ≤ c) (hm : c ≤ maxLen) (hr : RdA (Ow b h) w A (bvs l)) (hK : Box w b ks h a o r) (hx : isL ks u l = true) :
    Calls Tryz.prog 18 #[.pointer (some ⟨b, 0, none⟩), .int .i64 (u : Int), .slice A n c] w fun e w' => ∃ g Aq cq, e = .returned (.tuple #[.slice Aq (n - 16) cq, .int .i64 0]) ∧ n - 16 ≤ cq ∧ cq ≤ 1000 ∧ RdA (Nw w.heap.size g) w' Aq (bvs (mixL ks u (n8 l) (midL l))) ∧ Box w' b ks (some g) a (o + 1) r ∧ Step w w' b h g := by
  have f1 := fit_usage (u : Int) true (by simp; omega)
  have ci := is_any b ks h a o r u A n c l w hu hn hc hm hr hK
  rw [hx] at ci
  have hlen : 16 ≤ n ∧ n ≤ 800 ∧ n8 l ≤ 1099511627776 := by
    have := hx
    simp only [isL, Bool.and_eq_true, decide_eq_true_eq] at this
    omega
  obtain ⟨b2, o2, rfl⟩ : ∃ b2 o2, A = some ⟨b2, o2, none⟩ := by
    rcases hr with hx | ⟨b2, o2, h4, _⟩
    · exact rd_nil_16 hn (by omega) hx
    · exact ⟨b2, o2, h4⟩
  obtain ⟨k, hk⟩ : ∃ k, n = k + 8 := ⟨n - 8, by omega⟩
  obtain ⟨m, hm8⟩ : ∃ m, k = m + 8 := ⟨k - 8, by omega⟩
  have hmid : midL l = (l.take k).drop 8 := by unfold midL headL; rw [← hn, show n - 8 = k by omega]
  have cw := fun w2 (h2 : RdA (Aw b h w.heap.size) w2 (some ⟨b2, o2, none⟩) (bvs l)) => word_any w2.heap.size (some ⟨b2, o2, none⟩) n c l w2 hn (by omega) hc h2.rd
  have ct := fun (w2 : World) (h2 : Option Nat) (hr2 : RdA (Ow b h2) w2 (some ⟨b2, o2, none⟩) (bvs l)) (hb2 : Box w2 b ks h2 a o r) => turn_any b ks h2 a o r u (n8 l) (some ⟨b2, o2 + 8, none⟩) m (c - 8) (midL l) w2 hu (by omega) (by rw [hmid, List.length_drop, List.length_take]; omega) (by omega) (hmid ▸ (hr2.take k).drop 8) hb2
  obtain ⟨N, eN⟩ : ∃ N, N = n8 l := ⟨_, rfl⟩
  rw [← eN] at cw ct ⊢
  obtain ⟨Q, eQ⟩ : ∃ Q, Q = mixL ks u N (midL l) := ⟨_, rfl⟩
  rw [← eQ] at ct ⊢
  have hm16 : n - 16 = m := by omega
  rw [hm16]
  have HR := Lib.hid hr; clear hr
  have CW := Lib.hid cw; clear cw
  have CT := Lib.hid ct; clear ct
  have HO1 := Lib.hid ho1; clear ho1
  have s1 : (n : Int) - 8 = (k : Int) := by omega
  have s2 : IntKind.i64.wrap (k : Int) = (k : Int) := by rw [IntKind.wrap_i64]; omega
  have s3 : (8 : Int) ≤ (k : Int) := by omega
  have s4 : (k : Int) ≤ (c : Int) := by omega
  have s5 : k - 8 = m := by omega
  have s6 : 8 ≤ k := by omega
  have s8 : ¬ c = 8 := by omega
  have s7 : k ≤ c := by omega
  have HKN := Lib.hid hk; clear hk
  clear hu hn hc hm hK hx hlen eN hm8 hmid eQ hm16
  go_enter Tryz.func18, Tryz.ntmps18
  go_wp2_with (first
    | (go_at_call 26; refine Calls.mono (f1 _) ?_; rintro e wq ⟨rfl, hw⟩; have hw := hw.symm; subst hw; clear f1)
    | (go_at_call 35; refine Calls.mono ci ?_; rintro e w2 ⟨rfl, h2, hb2, hs2⟩; clear ci; have hr2 := hs2.rda HR.out; have B2 := Lib.hid hb2; have S2 := Lib.hid hs2; have R2 := Lib.hid hr2; clear hb2 hs2 hr2))
  have B3 : Hid (Box w2.drew b ks h2 a o r) := B2.out.chg (chg_drewN (fun _ => False) w2 1) (fun _ _ x => x)
  have S3 : Hid (StepO w w2.drew b h h2) := S2.out.drewN 1
  have R3 : Hid (RdA (Ow b h2) w2.drew (some ⟨b2, o2, none⟩) (bvs l)) := R2.out.keep (chg_drewN (fun _ => False) w2 1) (fun _ _ x => x.elim) (fun _ _ x => x)
  have cw3 := CW.out w2.drew ((HR.out.aw (Nat.le_refl _)).go S3.out.aw)
  have ct3 := CT.out w2.drew h2 R3.out B3.out
  refine wp_region_still_tail 9 (by kernel_rfl) (by kernel_rfl) ?_
  simp only [List.take_succ_cons, List.take_zero, List.drop_succ_cons, List.drop_zero]
  change wpStill _ _ w2.drew _ _ _
  repeat still_step
  still_call cw3
  repeat still_step
  refine wpStill_nil ?_
  change wpList _ _ _ _ _ w2.drew
  clear cw3 B2 S2 R2
  generalize w2.drew = w3 at B3 S3 R3 ct3 ⊢
  go_wp2_with (first
    | (go_at_call 29; refine Calls.mono ct3 ?_; rintro e w4 ⟨g, Aq, cq, rfl, hq1, hq2, hrq, hb4, hs4⟩; clear ct3; have cadd := add_one ⟨b, 53, none⟩ o w4 HO1.out hb4.1.co (hb4.1.fz 53); have B4 := Lib.hid hb4; have S4 := Lib.hid hs4; have Q4 := Lib.hid hrq; have C1 := Lib.hid hq1; have C2 := Lib.hid hq2; clear hb4 hs4 hrq hq1 hq2)
    | (go_at_call 31; refine Calls.mono cadd ?_; rintro e w7 ⟨rfl, hw7⟩; clear cadd; have HW7 := Lib.hid hw7; clear hw7))
  go_ret2
  have hbx := B4.out.lt
  have hch : Chg (fun i => i = b) w4 w7 := by rw [HW7.out]; exact (Chg.refl (fun i => i = b) w4).set (.inl rfl) _
  have hst : StepO w w4 b h (some g) := S3.out.trans S4.out.o
  refine ⟨g, Aq, cq, rfl, C1.out, C2.out, ?_, by rw [HW7.out]; exact B4.out.opens (o + 1), hst.1.trans hch (fun i _ hx => .inl hx), hst.2.imp (fun e => e.symm) (fun e => ⟨e.1, by obtain ⟨_, g2, hg2, hg3⟩ := e; injection hg2 with hg2; omega⟩)⟩
  have hb3 := B3.out.lt
  refine Q4.out.keep (hch.mono (T := Nw w3.heap.size g) fun i _ hx => .inl (by omega)) (fun _ _ x => x) (fun i _ hx => ?_)
  rcases hx with hx | hx
  · exact .inl (by have := S3.out.1.size; omega)
  · exact .inr hx
end Go.Proofs.YtcjibpjdfhhhkaaGreat.Se
end

section
set_option linter.unusedVariables false
namespace Go.Proofs.YtcjibpjdfhhhkaaGreat.Rg
open Go.RowKit Go.Proofs.YtcjibpjdfhhhkaaGreat.Mem Go.Proofs.YtcjibpjdfhhhkaaGreat.Se

abbrev prV (p : Pr) : Value := .agg #[.string ⟨p.1.toArray⟩, .string ⟨p.2.toArray⟩]
def iC (i : It) : List Value := .string ⟨i.p.1.toArray⟩ :: .string ⟨i.p.2.toArray⟩ :: .int .i64 (i.n : Int) :: (key32 i.k).toList
structure Ent where
  it : It
  b : Nat
  h : Option Nat
  a : Nat
  o : Nat
  r : Nat
def eC (e : Ent) : List Value := iC e.it ++ [.pointer (some ⟨e.b, 0, none⟩)]
theorem iC_length (i : It) : (iC i).length = 35 := by simp [iC, key32_size]
theorem eC_length (e : Ent) : (eC e).length = 36 := by simp [eC, iC_length]
theorem iC_one (i : It) : ∀ u ∈ iC i, u.oneCell' = true := by
  intro u hu
  simp only [iC, List.mem_cons] at hu
  rcases hu with h | h | h | h
  · subst h; rfl
  · subst h; rfl
  · subst h; rfl
  · have := one32 i.k
    rw [Array.all_eq_true_iff_forall_mem] at this
    exact this u (Array.mem_def.2 h)
theorem eC_one (e : Ent) : ∀ u ∈ eC e, u.oneCell' = true := by
  intro u hu
  rcases List.mem_append.1 hu with h | h
  · exact iC_one _ u h
  · rw [List.mem_singleton] at h; subst h; rfl
theorem flat_at {α : Type} (f : α → List Value) (n : Nat) (h : ∀ x, (f x).length = n) : ∀ (l : List α) (i : Nat) (x : α), l[i]? = some x → ∀ j v, (f x)[j]? = some v → (l.flatMap f)[i * n + j]? = some v
  | [], i, x, hx, _, _, _ => by simp at hx
  | a :: l, 0, x, hx, j, v, hv => by
    injection hx with hx
    subst hx
    have := (List.getElem?_eq_some_iff.1 hv).1
    rw [List.flatMap_cons, Nat.zero_mul, Nat.zero_add, List.getElem?_append_left this]
    exact hv
  | a :: l, i + 1, x, hx, j, v, hv => by
    rw [List.flatMap_cons, List.getElem?_append_right (by rw [h, Nat.succ_mul]; omega), h, show (i + 1) * n + j - n = i * n + j by rw [Nat.succ_mul]; omega]
    exact flat_at f n h l i x hx j v hv
def RdR {α : Type} (w : World) (B : Nat) (A : Option Addr) (f : α → List Value) (n : Nat) (l : List α) : Prop :=
  l = [] ∨ ∃ g, A = some ⟨g, 0, none⟩ ∧ g < B ∧ ∀ i x, l[i]? = some x → w.rangeAt g (i * n) (f x)
theorem RdR.keep {α : Type} {w w' : World} {B : Nat} {A : Option Addr} {f : α → List Value} {n : Nat} {l : List α} (h : RdR w B A f n l) (hb : Below B w w') : RdR w' B A f n l := by
  rcases h with h | ⟨g, h1, h2, h3⟩
  · exact .inl h
  · exact .inr ⟨g, h1, h2, fun i x hx j v hv => (hb.cell (p := ⟨g, _, none⟩) h2).trans (h3 i x hx j v hv)⟩
theorem RdR.more {α : Type} {w : World} {B B' : Nat} {A : Option Addr} {f : α → List Value} {n : Nat} {l : List α} (h : RdR w B A f n l) (hB : B ≤ B') : RdR w B' A f n l := by
  rcases h with h | ⟨g, h1, h2, h3⟩
  · exact .inl h
  · exact .inr ⟨g, h1, by omega, h3⟩
theorem RdR.at_ {α : Type} {w : World} {B : Nat} {A : Option Addr} {f : α → List Value} {n : Nat} {l : List α} {i : Nat} {x : α} (h : RdR w B A f n l) (hx : l[i]? = some x) : ∃ g, A = some ⟨g, 0, none⟩ ∧ g < B ∧ w.rangeAt g (i * n) (f x) := by
  rcases h with h | ⟨g, h1, h2, h3⟩
  · subst h; simp at hx
  · exact ⟨g, h1, h2, h3 i x hx⟩
theorem own_rdr {α : Type} {w : World} {base : Nat} {t : TypeId} {v : Value} {f : α → List Value} {n : Nat} {l : List α} (hn : ∀ x, (f x).length = n) (h : w.ownsRow base t n v l.length (l.flatMap f)) : ∃ A c, v = .slice A l.length c ∧ l.length ≤ c ∧ c ≤ maxLen ∧ RdR w w.heap.size A f n l := by
  have h' := h
  rcases h.2 with ⟨h1, h2⟩ | ⟨g, cap, cur, h1, hg, hh, hc, hm, _⟩
  · have e : l = [] := List.eq_nil_of_length_eq_zero h2
    subst e
    exact ⟨none, 0, h1, Nat.le_refl _, Nat.zero_le _, .inl rfl⟩
  · subst h1
    refine ⟨_, cap, rfl, hc, hm, .inr ⟨g, rfl, (Array.getElem?_eq_some_iff.1 hh).1, fun i x hx j v hv => ?_⟩⟩
    have h1 := h'.cells (g := g) rfl (i * n + j) v (flat_at f n hn l i x hx j v hv)
    rw [addr_add, Nat.zero_add] at h1
    exact h1
theorem own_chg {S : Nat → Prop} {w w' : World} {base size n : Nat} {t : TypeId} {v : Value} {xs : List Value} (h : Chg S w w') (ho : w.ownsRow base t size v n xs) (hs : ∀ k, v.ownBlock = some k → ¬ S k) : w'.ownsRow base t size v n xs := by
  refine ⟨ho.1, ?_⟩
  rcases ho.2 with hn | ⟨g, cap, cur, rfl, hb, hgg, rest⟩
  · exact .inl hn
  · exact .inr ⟨g, cap, cur, rfl, hb, (h.block g (Array.getElem?_eq_some_iff.1 hgg).1 (hs g rfl)).trans hgg, rest⟩

def its (es : List Ent) : List It := es.map (·.it)
theorem its_at {es : List Ent} {i : Nat} {e : Ent} (h : es[i]? = some e) : (its es)[i]? = some e.it := by simp [its, h]
theorem its_length (es : List Ent) : (its es).length = es.length := by simp [its]
structure Ring (w : World) (B r : Nat) (v : Value) (es : List Ent) : Prop where
  blk : Blk w r 66 #[v]
  row : w.ownsRow B 69 36 v es.length (es.flatMap eC)
  lo : B ≤ r
  vr : v.ownBlock ≠ some r
  box : ∀ (i : Nat) (e : Ent), es[i]? = some e → Box w e.b e.it.k e.h e.a e.o e.r
  off : ∀ (i : Nat) (e : Ent), es[i]? = some e → ∀ k, Ow e.b e.h k → B ≤ k ∧ k ≠ r ∧ v.ownBlock ≠ some k
  far : ∀ (i j : Nat) (e f : Ent), es[i]? = some e → es[j]? = some f → i ≠ j → ∀ k, Ow e.b e.h k → ¬ Ow f.b f.h k
def RO (r : Nat) (v : Value) (es : List Ent) (k : Nat) : Prop := k = r ∨ v.ownBlock = some k ∨ ∃ (i : Nat) (e : Ent), es[i]? = some e ∧ Ow e.b e.h k
section
variable {w w' : World} {B r : Nat} {v v' : Value} {es : List Ent} {S : Nat → Prop}
theorem Ring.own_lo (h : Ring w B r v es) {k : Nat} (hk : RO r v es k) : B ≤ k := by
  rcases hk with hk | hk | ⟨i, e, he, hk⟩
  · subst hk; exact h.lo
  · exact (World.ownsRow.lt h.row k hk).1
  · exact (h.off i e he k hk).1
theorem Ring.own_lt (h : Ring w B r v es) {k : Nat} (hk : RO r v es k) : k < w.heap.size := by
  rcases hk with hk | hk | ⟨i, e, he, hk⟩
  · subst hk; exact h.blk.lt
  · exact (World.ownsRow.lt h.row k hk).2
  · exact (h.box i e he).own_lt k hk
theorem Ring.lt (h : Ring w B r v es) : r < w.heap.size := h.blk.lt
theorem Ring.chg (h : Ring w B r v es) (hc : Chg S w w') (hs : ∀ k, RO r v es k → ¬ S k) : Ring w' B r v es :=
  ⟨hc.blk h.blk (hs r (.inl rfl)), own_chg hc h.row (fun k hk => hs k (.inr (.inl hk))), h.lo, h.vr, fun i e he => (h.box i e he).chg hc (fun k hk => hs k (.inr (.inr ⟨i, e, he, hk⟩))), h.off, h.far⟩
theorem Ring.below (h : Ring w B r v es) (hb : Below w.heap.size w w') : Ring w' B r v es := h.chg (S := fun _ => False) (Chg.of_below hb) (fun _ _ x => x)
theorem Ring.drew (h : Ring w B r v es) : Ring w.drew B r v es := h.below (below_drewN (Below.refl _ _) 1)
theorem Ring.num (h : Ring w B r v es) : ∃ A c, v = .slice A es.length c ∧ es.length ≤ c ∧ c ≤ maxLen ∧ RdR w w.heap.size A eC 36 es := own_rdr eC_length h.row
theorem Ring.use (h : Ring w B r v es) {i : Nat} {e : Ent} (he : es[i]? = some e) {h' : Option Nat} {a o q : Nat} (hx : Box w' e.b e.it.k h' a o q) (hs : StepO w w' e.b e.h h') (hB : B ≤ w.heap.size) : Ring w' B r v (es.set i ⟨e.it, e.b, h', a, o, q⟩) := by
  have hi := (List.getElem?_eq_some_iff.1 he).1
  have hset : ∀ (j : Nat) (f : Ent), (es.set i ⟨e.it, e.b, h', a, o, q⟩)[j]? = some f → (j = i ∧ f = ⟨e.it, e.b, h', a, o, q⟩) ∨ (j ≠ i ∧ es[j]? = some f) := fun j f hf => by
    by_cases q : i = j
    · subst q
      rw [List.getElem?_set_self hi] at hf
      injection hf with hf
      exact .inl ⟨rfl, hf.symm⟩
    · rw [List.getElem?_set_ne q] at hf
      exact .inr ⟨fun x => q x.symm, hf⟩
  have hnew : ∀ k, Ow e.b h' k → Ow e.b e.h k ∨ w.heap.size ≤ k := fun k hk => by
    rcases Nat.lt_or_ge k w.heap.size with g | g
    · exact .inl (hs.own k g hk)
    · exact .inr g
  have hrow : (es.set i ⟨e.it, e.b, h', a, o, q⟩).flatMap eC = es.flatMap eC := by
    have : (es.set i ⟨e.it, e.b, h', a, o, q⟩).map eC = es.map eC := by
      apply List.ext_getElem?
      intro j
      rw [List.getElem?_map, List.getElem?_map]
      by_cases g : i = j
      · subst g; rw [List.getElem?_set_self hi, he]; rfl
      · rw [List.getElem?_set_ne g]
    rw [List.flatMap_def, List.flatMap_def, this]
  refine ⟨hs.1.blk h.blk (fun x => (h.off i e he r x).2.1 rfl), ?_, h.lo, h.vr, fun j f hf => ?_, fun j f hf k hk => ?_, fun j j2 f f2 hf hf2 hne k hk hk2 => ?_⟩
  · rw [hrow, List.length_set]
    exact own_chg hs.1 h.row (fun k hk x => (h.off i e he k x).2.2 hk)
  · rcases hset j f hf with ⟨_, rfl⟩ | ⟨hj, hf⟩
    · exact hx
    · exact (h.box j f hf).chg hs.1 (fun k hk hk2 => h.far j i f e hf he hj k hk hk2)
  · rcases hset j f hf with ⟨_, rfl⟩ | ⟨hj, hf⟩
    · rcases hnew k hk with g | g
      · exact h.off i e he k g
      · exact ⟨by omega, fun x => by have := h.lt; omega, fun x => by have := (World.ownsRow.lt h.row k x).2; omega⟩
    · exact h.off j f hf k hk
  · rcases hset j f hf with ⟨e1, rfl⟩ | ⟨hj, hf⟩
    · rcases hset j2 f2 hf2 with ⟨e2, rfl⟩ | ⟨hj2, hf2⟩
      · exact hne (e1.trans e2.symm)
      · rcases hnew k hk with g | g
        · exact h.far i j2 e f2 he hf2 (fun x => hj2 x.symm) k g hk2
        · have := (h.box j2 f2 hf2).own_lt k hk2; omega
    · rcases hset j2 f2 hf2 with ⟨e2, rfl⟩ | ⟨hj2, hf2⟩
      · rcases hnew k hk2 with g | g
        · exact h.far j i f e hf he hj k hk g
        · have := (h.box j f hf).own_lt k hk; omega
      · exact h.far j j2 f f2 hf hf2 hne k hk hk2
theorem Ring.use_new (h : Ring w B r v es) {i : Nat} {e : Ent} (he : es[i]? = some e) {h' : Option Nat} (a o q : Nat) (hs : StepO w w' e.b e.h h') : ∀ k, RO r v (es.set i ⟨e.it, e.b, h', a, o, q⟩) k → RO r v es k ∨ w.heap.size ≤ k := fun k hk => by
  have hi := (List.getElem?_eq_some_iff.1 he).1
  rcases hk with hk | hk | ⟨j, f, hf, hk⟩
  · exact .inl (.inl hk)
  · exact .inl (.inr (.inl hk))
  · by_cases g : i = j
    · subst g
      rw [List.getElem?_set_self hi] at hf
      injection hf with hf
      subst hf
      rcases Nat.lt_or_ge k w.heap.size with g | g
      · exact .inl (.inr (.inr ⟨i, e, he, hs.own k g hk⟩))
      · exact .inr g
    · rw [List.getElem?_set_ne g] at hf
      exact .inl (.inr (.inr ⟨j, f, hf, hk⟩))
theorem Ring.snoc (h : Ring w B r v es) {e : Ent} (hc : Chg (fun k => k = r ∨ v.ownBlock = some k) w w') (hb : Blk w' r 66 #[v']) (hrow : w'.ownsRow B 69 36 v' (es.length + 1) (es.flatMap eC ++ eC e))
    (hv : v'.ownBlock = v.ownBlock ∨ ∃ k, v'.ownBlock = some k ∧ w.heap.size ≤ k ∧ k ≠ e.b) (hbx : Box w' e.b e.it.k none e.a e.o e.r) (hbl : w.heap.size ≤ e.b) (hh : e.h = none) (hB : B ≤ w.heap.size) : Ring w' B r v' (es ++ [e]) := by
  have hlt := h.lt
  have hsn : ∀ (j : Nat) (f : Ent), (es ++ [e])[j]? = some f → (es[j]? = some f) ∨ (j = es.length ∧ f = e) := fun j f hf => by
    by_cases g : j < es.length
    · rw [List.getElem?_append_left g] at hf; exact .inl hf
    · rw [List.getElem?_append_right (by omega)] at hf
      have := (List.getElem?_eq_some_iff.1 hf).1
      have e1 : j = es.length := by simp at this; omega
      subst e1
      rw [Nat.sub_self] at hf
      injection hf with hf
      exact .inr ⟨rfl, hf.symm⟩
  have hne : ∀ k, Ow e.b e.h k → k = e.b := fun k hk => by
    rcases hk with hk | hk
    · exact hk
    · rw [hh] at hk; cases hk
  have hvk : ∀ k, v'.ownBlock = some k → k < w.heap.size → v.ownBlock = some k := fun k hk hl => by
    rcases hv with g | ⟨q, g1, g2, _⟩
    · rw [← g]; exact hk
    · rw [g1] at hk; injection hk with hk; omega
  refine ⟨hb, ?_, h.lo, fun x => h.vr (hvk r x hlt), fun j f hf => ?_, fun j f hf k hk => ?_, fun j j2 f f2 hf hf2 hjne k hk hk2 => ?_⟩
  · rw [List.length_append, List.length_singleton, List.flatMap_append, List.flatMap_singleton]; exact hrow
  · rcases hsn j f hf with g | ⟨_, rfl⟩
    · refine (h.box j f g).chg hc (fun k hk x => ?_)
      rcases x with x | x
      · exact (h.off j f g k hk).2.1 x
      · exact (h.off j f g k hk).2.2 x
    · rw [hh]; exact hbx
  · rcases hsn j f hf with g | ⟨_, rfl⟩
    · have h1 := h.off j f g k hk
      exact ⟨h1.1, h1.2.1, fun x => h1.2.2 (hvk k x ((h.box j f g).own_lt k hk))⟩
    · rw [hne k hk]
      refine ⟨by omega, by omega, fun x => ?_⟩
      rcases hv with g | ⟨q, g1, _, g3⟩
      · rw [g] at x; have := (World.ownsRow.lt h.row _ x).2; omega
      · rw [g1] at x; injection x with x; exact g3 x
  · rcases hsn j f hf with g | ⟨e1, rfl⟩
    · rcases hsn j2 f2 hf2 with g2 | ⟨e2, rfl⟩
      · exact h.far j j2 f f2 g g2 hjne k hk hk2
      · have := (h.box j f g).own_lt k hk; have := hne k hk2; omega
    · rcases hsn j2 f2 hf2 with g2 | ⟨e2, rfl⟩
      · have := (h.box j2 f2 g2).own_lt k hk2; have := hne k hk; omega
      · exact hjne (e1.trans e2.symm)
end
end Go.Proofs.YtcjibpjdfhhhkaaGreat.Rg
end

section
set_option linter.unusedVariables false
set_option linter.unusedSimpArgs false
namespace Go.Proofs.YtcjibpjdfhhhkaaGreat.Rg
open Go.RowKit Go.Proofs.YtcjibpjdfhhhkaaGreat.Mem Go.Proofs.YtcjibpjdfhhhkaaGreat.Se

theorem eql_pr (x y : Pr) (w : World) : (Op.equalIn 10000 31 (.agg #[.string ⟨x.1.toArray⟩, .string ⟨x.2.toArray⟩]) (.agg #[.string ⟨y.1.toArray⟩, .string ⟨y.2.toArray⟩])).run Tryz.prog w = .ok (decide (x = y)) w := by
  obtain ⟨a, b⟩ := x
  obtain ⟨c, d⟩ := y
  simp only
  by_cases h0 : a = c
  · subst h0
    by_cases h1 : b = d
    · subst h1
      rw [decide_eq_true rfl]
      go_simp
    · rw [decide_eq_false (fun h => h1 (congrArg (fun z => z.2) h))]
      go_simp
  · rw [decide_eq_false (fun h => h0 (congrArg (fun z => z.1) h))]
    go_simp
theorem eql_pr_yes {x y : Pr} (h : x = y) : ∀ w, (Op.equalIn 10000 31 (.agg #[.string ⟨x.1.toArray⟩, .string ⟨x.2.toArray⟩]) (.agg #[.string ⟨y.1.toArray⟩, .string ⟨y.2.toArray⟩])).run Tryz.prog w = .ok true w := fun w => by rw [eql_pr, decide_eq_true h]
theorem eql_pr_no {x y : Pr} (h : x ≠ y) : ∀ w, (Op.equalIn 10000 31 (.agg #[.string ⟨x.1.toArray⟩, .string ⟨x.2.toArray⟩]) (.agg #[.string ⟨y.1.toArray⟩, .string ⟨y.2.toArray⟩])).run Tryz.prog w = .ok false w := fun w => by rw [eql_pr, decide_eq_false h]
theorem ent_info : (Tryz.prog.info? 69).map (·.size) = some 36 := by kernel_rfl
theorem pr_info : (Tryz.prog.info? 31).map (·.size) = some 2 := by kernel_rfl
def zeroE : Array Value := #[.string ⟨#[]⟩, .string ⟨#[]⟩, .int .i64 0, .int .u8 0, .int .u8 0, .int .u8 0, .int .u8 0, .int .u8 0, .int .u8 0, .int .u8 0, .int .u8 0, .int .u8 0, .int .u8 0, .int .u8 0, .int .u8 0, .int .u8 0, .int .u8 0, .int .u8 0, .int .u8 0, .int .u8 0, .int .u8 0, .int .u8 0, .int .u8 0, .int .u8 0, .int .u8 0, .int .u8 0, .int .u8 0, .int .u8 0, .int .u8 0, .int .u8 0, .int .u8 0, .int .u8 0, .int .u8 0, .int .u8 0, .int .u8 0, .pointer none]
def eA (e : Ent) : Array Value := (eC e).toArray
theorem eA_size (e : Ent) : (eA e).size = 36 := by simp [eA, eC_length]
theorem eA_one (e : Ent) : (eA e).all (·.oneCell') = true := by
  rw [Array.all_eq_true_iff_forall_mem]
  intro u hu
  exact eC_one e u (by simpa [eA] using hu)
theorem eA_toList (e : Ent) : (eA e).toList = eC e := by simp [eA]
theorem eA_pr {w : World} {g : Nat} {t : TypeId} {e : Ent} (h : Blk w g t (eA e)) : w.rangeAt g 0 (#[.string ⟨e.it.p.1.toArray⟩, .string ⟨e.it.p.2.toArray⟩] : Array Value).toList :=
  Wh.range_at (pre := []) (post := (eC e).drop 2) h (by rw [eA_toList]; rfl) 0 rfl
theorem eA_n {w : World} {g : Nat} {t : TypeId} {e : Ent} (h : Blk w g t (eA e)) : w.cell? ⟨g, 2, none⟩ = some (.int .i64 (e.it.n : Int)) := by
  rw [h.cell, eA, List.getElem?_toArray]; rfl
theorem eA_b {w : World} {g : Nat} {t : TypeId} {e : Ent} (h : Blk w g t (eA e)) : w.cell? ⟨g, 35, none⟩ = some (.pointer (some ⟨e.b, 0, none⟩)) := by
  rw [h.cell, eA, List.getElem?_toArray, eC, List.getElem?_append_right (by simp [iC_length]), iC_length]; rfl
def entC (es : List Ent) : Option Nat → Array Value
  | none => zeroE
  | some j => match es[j]? with
    | some e => eA e
    | none => zeroE
theorem entC_some {es : List Ent} {j : Nat} : entC es (some j) = match es[j]? with
    | some e => eA e
    | none => zeroE := rfl
theorem entC_cases (es : List Ent) (o : Option Nat) : entC es o = zeroE ∨ ∃ e, entC es o = eA e := by
  cases o with
  | none => exact .inl rfl
  | some j =>
    rw [entC_some]
    cases es[j]? with
    | none => exact .inl rfl
    | some e => exact .inr ⟨e, rfl⟩
theorem entC_size (es : List Ent) (o : Option Nat) : (entC es o).size = 36 := by
  rcases entC_cases es o with h | ⟨e, h⟩
  · rw [h]; rfl
  · rw [h]; exact eA_size _
theorem zeroE_one : zeroE.all (·.oneCell') = true := by
  have h : ∀ u ∈ zeroE.toList, u.oneCell' = true := by
    unfold zeroE
    simp only [List.forall_mem_cons]
    simp [Value.oneCell']
  rw [Array.all_eq_true_iff_forall_mem]
  exact fun u hu => h u (Array.mem_def.1 hu)
theorem entC_one (es : List Ent) (o : Option Nat) : (entC es o).all (·.oneCell') = true := by
  rcases entC_cases es o with h | ⟨e, h⟩
  · rw [h]; exact zeroE_one
  · rw [h]; exact eA_one _
theorem entC_at {es : List Ent} {i : Nat} {e : Ent} (h : es[i]? = some e) : entC es (some i) = eA e := by simp [entC, h]
theorem lastTo_hit {es : List Ent} {i : Nat} {e : Ent} {p : Pr} (h : es[i]? = some e) (hp : e.it.p = p) : lastTo (its es) p (i + 1) = some i := by
  rw [lastTo, if_pos (by rw [its_at h, ← hp]; rfl)]
theorem lastTo_miss {es : List Ent} {i : Nat} {e : Ent} {p : Pr} (h : es[i]? = some e) (hp : e.it.p ≠ p) : lastTo (its es) p (i + 1) = lastTo (its es) p i := by
  rw [lastTo, if_neg]
  rw [its_at h]
  intro x
  injection x with x
  exact hp x

set_option maxHeartbeats 1600000 in
theorem last_any (B r : Nat) (v : Value) (es : List Ent) (p : Pr) (w : World) (h : Ring w B r v es) (hl : es.length ≤ 1000) :
    Calls Tryz.prog 21 #[.pointer (some ⟨r, 0, none⟩), prV p] w fun e w' => e = .returned (.agg (entC es (lastI (its es) p))) ∧ Below w.heap.size w w' := by
  obtain ⟨A, c, rfl, hc, hm, hr⟩ := h.num
  have hlast : lastI (its es) p = lastTo (its es) p es.length := by rw [lastI, its_length]
  rw [hlast]
  have hb0 := h.blk
  obtain ⟨n, en⟩ : ∃ n, n = es.length := ⟨_, rfl⟩
  rw [← en] at hb0 hc hl ⊢
  have k0 : w.cell? ⟨r, 0, none⟩ = some (.slice A n c) := hb0.cell 0
  have hrl := hb0.lt
  have HB0 := Lib.hid hb0; clear hb0
  have HR := Lib.hid hr; clear hr
  have EN := Lib.hid en; clear en hlast h
  obtain ⟨W, eW⟩ : ∃ W, W = ((w.alloc (.cells #[.string ⟨p.1.toArray⟩, .string ⟨p.2.toArray⟩] 31)).alloc (.cells zeroE 69)).alloc (.cells zeroE 69) := ⟨_, rfl⟩
  have hb : Below w.heap.size w W := eW ▸ (((Below.refl _ _).alloc (Nat.le_refl _) _).alloc (by simp) _).alloc (by simp; omega) _
  have HP := Lib.hid (show Blk W w.heap.size 31 #[.string ⟨p.1.toArray⟩, .string ⟨p.2.toArray⟩] from eW ▸ ((Blk.new w _ _).alloc _).alloc _)
  have HRES := Lib.hid (show Blk W (w.heap.size + 1) 69 zeroE by have := Blk.new (w.alloc (.cells #[.string ⟨p.1.toArray⟩, .string ⟨p.2.toArray⟩] 31)) 69 zeroE; simp only [World.size_alloc] at this; exact eW ▸ this.alloc _)
  have HLA := Lib.hid (show Blk W (w.heap.size + 1 + 1) 69 zeroE by have := Blk.new ((w.alloc (.cells #[.string ⟨p.1.toArray⟩, .string ⟨p.2.toArray⟩] 31)).alloc (.cells zeroE 69)) 69 zeroE; simp only [World.size_alloc] at this; exact eW ▸ this)
  have HB := Lib.hid hb
  replace k0 : W.cell? ⟨r, 0, none⟩ = some (.slice A n c) := (hb.cell (p := ⟨r, 0, none⟩) hrl).trans k0
  replace HR := Lib.hid ((HR.out.keep hb))
  clear hb
  go_enter Tryz.func21, Tryz.ntmps21
  go_upto_region 2 with fail
  change Code.wp _ _ _ _ (((w.alloc (.cells #[.string ⟨p.1.toArray⟩, .string ⟨p.2.toArray⟩] 31)).alloc (.cells zeroE 69)).alloc (.cells zeroE 69))
  rw [← eW]
  obtain ⟨N, eN⟩ : ∃ N, N = w.heap.size := ⟨_, rfl⟩
  rw [← eN] at HP HRES HLA HB HR hrl ⊢
  have EN2 := Lib.hid eN
  clear eW eN
  go_wp2
  go_loopw [13] (fun iv wr => ∃ i : Nat, i ≤ n ∧ iv = .int .i64 (i : Int) ∧ Below N w wr ∧ Blk wr N 31 #[.string ⟨p.1.toArray⟩, .string ⟨p.2.toArray⟩] ∧ Blk wr (N + 1) 69 zeroE ∧ Blk wr (N + 1 + 1) 69 (entC es (lastTo (its es) p i)) ∧ RdR wr N A eC 36 es) (fun iv _ => n - (intOf iv).toNat)
  case atStart => exact ⟨0, Nat.zero_le _, rfl, HB.out, HP.out, HRES.out, HLA.out, HR.out⟩
  case round =>
    clear HB HP HRES HLA HR k0
    obtain ⟨i, hi, rfl, hb, hp, hres, hla, hr⟩ := hrel
    have HB := Lib.hid hb; have HP := Lib.hid hp; have HRES := Lib.hid hres; have HLA := Lib.hid hla
    have HSZ := Lib.hid hla.lt
    by_cases hlt : i < n
    · have e1 : (i : Int) < (n : Int) := by omega
      have e2 : (0 : Int) ≤ (i : Int) := by omega
      obtain ⟨x, hx⟩ : ∃ x, es[i]? = some x := ⟨es[i]'(by rw [← EN.out]; exact hlt), List.getElem?_eq_getElem _⟩
      obtain ⟨g, rfl, hgN, hra⟩ := hr.at_ hx
      have HR := Lib.hid hr
      rw [← eA_toList] at hra
      have HRA := Lib.hid hra
      have ha1 := eA_one x
      have HA1 := Lib.hid ha1
      have his := ent_info
      rw [← eA_size x] at his
      have HIS := Lib.hid his
      have HX := Lib.hid hx
      have kp0 := hp.cell 0
      have kp1 := hp.cell 1
      obtain ⟨cs, ecs⟩ : ∃ cs, cs = eA x := ⟨_, rfl⟩
      rw [← ecs] at HRA HA1 HIS
      have ECS := Lib.hid ecs
      clear hra ha1 his hx hr hb hp hres hla ecs kp0 kp1
      by_cases hq : x.it.p = p
      · have t1 := eql_pr_yes hq
        have HQ := Lib.hid hq; clear hq
        go_wp2_with (first
          | (refine Wh.load_g (by rfl) 69 (.tmp 15) (by rfl) g _ (by rfl) cs _ HRA.out Tryz.underlying69 (by rfl) HIS.out ?_)
          | (refine Wh.store_new (by rfl) 69 (.tmp 7) (.tmp 16) (by rfl) 69 rfl cs (by rfl) (by rfl) (by rw [ECS.out, eA_size]; rfl) HIS.out HA1.out ?_; rintro V hV hb; have HV := Lib.hid hV; replace HB := Lib.hid (HB.out.trans (hb.mono (by have := HSZ.out; omega))); replace HP := Lib.hid (HP.out.below hb); replace HRES := Lib.hid (HRES.out.below hb); replace HLA := Lib.hid (HLA.out.below hb); replace HR := Lib.hid (HR.out.keep (hb.mono (by have := HSZ.out; omega))); have kp0 : V.cell? ⟨N, 0, none⟩ = some (.string ⟨p.1.toArray⟩) := HP.out.cell 0; have kp1 : V.cell? ⟨N, 1, none⟩ = some (.string ⟨p.2.toArray⟩) := HP.out.cell 1; have HPR := Lib.hid (eA_pr (ECS.out ▸ hV)); have HNG := Lib.hid (Nat.lt_of_lt_of_le HSZ.out (Nat.le_refl _)); clear hV hb)
          | (refine Wh.load_g (by rfl) 31 (.tmp 17) (by rfl) _ 0 (by rfl) _ _ HPR.out Tryz.underlying31 (by rfl) pr_info ?_)
          | (refine Wh.load_g (by rfl) 69 (.tmp 7) (by rfl) _ 0 (by rfl) cs _ (Wh.range_blk HV.out) Tryz.underlying69 (by rfl) HIS.out ?_)
          | (refine Wh.store_over (by rfl) 69 (.tmp 5) (.tmp 21) (by rfl) (N + 1 + 1) 69 _ HLA.out cs (by rfl) (by rfl) (by rw [entC_size, ECS.out, eA_size]) HIS.out HA1.out ?_; rintro V2 hV2 hg; replace HB := Lib.hid (below_g HB.out hg (by have := HRES.out.lt; omega) (by omega)); replace HP := Lib.hid (HP.out.grown hg (by intro h; injection h with h; omega)); replace HRES := Lib.hid (HRES.out.grown hg (by intro h; injection h with h; omega)); replace HR := Lib.hid (HR.out.keep ((Below.refl N V).grown hg (by have := HRES.out.lt; have := HLA.out.lt; omega) (fun k hk => by injection hk with hk; omega))); have HL2 := Lib.hid hV2; clear hV2 hg kp0 kp1 HLA)
          | fail)
        go_roundw
        case rel => exact ⟨i + 1, by omega, by go_num, HB.out, HP.out, HRES.out, by rw [lastTo_hit HX.out HQ.out, entC_at HX.out, ← ECS.out]; exact HL2.out, HR.out⟩
        case measure => simp [intOf]; omega
      · have t1 := eql_pr_no hq
        have HQ := Lib.hid hq; clear hq
        go_wp2_with (first
          | (refine Wh.load_g (by rfl) 69 (.tmp 15) (by rfl) g _ (by rfl) cs _ HRA.out Tryz.underlying69 (by rfl) HIS.out ?_)
          | (refine Wh.store_new (by rfl) 69 (.tmp 7) (.tmp 16) (by rfl) 69 rfl cs (by rfl) (by rfl) (by rw [ECS.out, eA_size]; rfl) HIS.out HA1.out ?_; rintro V hV hb; have HV := Lib.hid hV; replace HB := Lib.hid (HB.out.trans (hb.mono (by have := HSZ.out; omega))); replace HP := Lib.hid (HP.out.below hb); replace HRES := Lib.hid (HRES.out.below hb); replace HLA := Lib.hid (HLA.out.below hb); replace HR := Lib.hid (HR.out.keep (hb.mono (by have := HSZ.out; omega))); have kp0 : V.cell? ⟨N, 0, none⟩ = some (.string ⟨p.1.toArray⟩) := HP.out.cell 0; have kp1 : V.cell? ⟨N, 1, none⟩ = some (.string ⟨p.2.toArray⟩) := HP.out.cell 1; have HPR := Lib.hid (eA_pr (ECS.out ▸ hV)); have HNG := Lib.hid (Nat.lt_of_lt_of_le HSZ.out (Nat.le_refl _)); clear hV hb)
          | (refine Wh.load_g (by rfl) 31 (.tmp 17) (by rfl) _ 0 (by rfl) _ _ HPR.out Tryz.underlying31 (by rfl) pr_info ?_)
          | fail)
        go_roundw
        case rel => exact ⟨i + 1, by omega, by go_num, HB.out, HP.out, HRES.out, by rw [lastTo_miss HX.out HQ.out]; exact HLA.out, HR.out⟩
        case measure => simp [intOf]; omega
    · have e1 : ¬ (i : Int) < (n : Int) := by omega
      obtain rfl : n = i := by omega
      have ha1 := entC_one es (lastTo (its es) p n)
      have his := ent_info
      rw [← entC_size es (lastTo (its es) p n)] at his
      have hss := entC_size es (lastTo (its es) p n)
      obtain ⟨cs, ecs⟩ : ∃ cs, cs = entC es (lastTo (its es) p n) := ⟨_, rfl⟩
      rw [← ecs] at ha1 his hss hla
      have ECC := Lib.hid ecs
      have HA1 := Lib.hid ha1; have HIS := Lib.hid his; have HSS := Lib.hid hss
      have HC := Lib.hid hla
      clear ha1 his hss hla HLA hr hb hp hres hi ecs
      go_wp2_with (first
        | (refine Wh.load_g (by rfl) 69 (.tmp 5) (by rfl) _ 0 (by rfl) cs _ (Wh.range_blk HC.out) Tryz.underlying69 (by rfl) HIS.out ?_)
        | (refine Wh.store_over (by rfl) 69 (.tmp 4) (.tmp 23) (by rfl) (N + 1) 69 _ HRES.out cs (by rfl) (by rfl) (by rw [HSS.out]; rfl) HIS.out HA1.out ?_; rintro V2 hV2 hg; have HB2 := Lib.hid (below_g HB.out hg (by have := HSZ.out; omega) (by omega)); have HR2 := Lib.hid hV2; clear hV2 hg)
        | fail)
      refine bodyPost_ret (v := .agg cs) ?_ ?_ ?_
      · exact Wh.results_cell (v := .agg cs) 4 69 ⟨N + 1, 0, none⟩ Tryz.results21 (by rfl) (Wh.load_blk HR2.out Tryz.underlying69 (by rfl) HIS.out)
      · rfl
      · exact ⟨by rw [ECC.out], by rw [← EN2.out]; exact HB2.out⟩
end Go.Proofs.YtcjibpjdfhhhkaaGreat.Rg
end

section
set_option linter.unusedVariables false
set_option linter.unusedSimpArgs false
namespace Go.Proofs.YtcjibpjdfhhhkaaGreat.Rg
open Go.RowKit Go.Proofs.YtcjibpjdfhhhkaaGreat.Mem Go.Proofs.YtcjibpjdfhhhkaaGreat.Se

def BoxR (es : List Ent) (p : Pr) (z : Int) (q : Option Addr) (k : Int) : Prop :=
  (∃ i x, firstI (its es) p z = some i ∧ es[i]? = some x ∧ q = some ⟨x.b, 0, none⟩ ∧ k = 0) ∨ (firstI (its es) p z = none ∧ q = none ∧ k = 4)

set_option maxHeartbeats 1600000 in
theorem box_any (B r : Nat) (v : Value) (es : List Ent) (p : Pr) (z : Int) (w : World) (h : Ring w B r v es) (hl : es.length ≤ 1000) :
    Calls Tryz.prog 9 #[.pointer (some ⟨r, 0, none⟩), prV p, .int .i64 z] w fun e w' => ∃ q k, e = .returned (.tuple #[.pointer q, .int .i64 k]) ∧ BoxR es p z q k ∧ Below w.heap.size w w' := by
  obtain ⟨A, c, rfl, hc, hm, hr⟩ := h.num
  have hb0 := h.blk
  obtain ⟨n, en⟩ : ∃ n, n = es.length := ⟨_, rfl⟩
  rw [← en] at hb0 hc hl
  have k0 : w.cell? ⟨r, 0, none⟩ = some (.slice A n c) := hb0.cell 0
  have hrl := hb0.lt
  have HR := Lib.hid hr; clear hr
  have EN := Lib.hid en; clear en h hb0
  obtain ⟨W, eW⟩ : ∃ W, W = w.alloc (.cells #[.string ⟨p.1.toArray⟩, .string ⟨p.2.toArray⟩] 31) := ⟨_, rfl⟩
  have hb : Below w.heap.size w W := eW ▸ (Below.refl _ _).alloc (Nat.le_refl _) _
  have HP := Lib.hid (show Blk W w.heap.size 31 #[.string ⟨p.1.toArray⟩, .string ⟨p.2.toArray⟩] from eW ▸ Blk.new w _ _)
  have HB := Lib.hid hb
  replace k0 : W.cell? ⟨r, 0, none⟩ = some (.slice A n c) := (hb.cell (p := ⟨r, 0, none⟩) hrl).trans k0
  replace HR := Lib.hid ((HR.out.keep hb))
  clear hb
  go_enter Tryz.func9, Tryz.ntmps9
  go_upto_region 1 with fail
  rw [← eW]
  obtain ⟨N, eN⟩ : ∃ N, N = w.heap.size := ⟨_, rfl⟩
  rw [← eN] at HP HB HR hrl ⊢
  have EN2 := Lib.hid eN
  clear eW eN
  go_wp2
  go_loopw [17] (fun iv wr => ∃ i : Nat, i ≤ n ∧ iv = .int .i64 (i : Int) ∧ Below N w wr ∧ Blk wr N 31 #[.string ⟨p.1.toArray⟩, .string ⟨p.2.toArray⟩] ∧ RdR wr N A eC 36 es ∧ (∀ (j : Nat) (y : It), j < i → (its es)[j]? = some y → ¬ (y.p = p ∧ (y.n : Int) = z))) (fun iv _ => n - (intOf iv).toNat)
  case atStart => exact ⟨0, Nat.zero_le _, rfl, HB.out, HP.out, HR.out, fun j y hj => absurd hj (Nat.not_lt_zero _)⟩
  case round =>
    clear HB HP HR k0
    obtain ⟨i, hi, rfl, hb, hp, hr, hno⟩ := hrel
    have HB := Lib.hid hb; have HP := Lib.hid hp; have HNO := Lib.hid hno
    have HSZ := Lib.hid hp.lt
    by_cases hlt : i < n
    · have e1 : (i : Int) < (n : Int) := by omega
      have e2 : (0 : Int) ≤ (i : Int) := by omega
      obtain ⟨x, hx⟩ : ∃ x, es[i]? = some x := ⟨es[i]'(by rw [← EN.out]; exact hlt), List.getElem?_eq_getElem _⟩
      obtain ⟨g, rfl, hgN, hra⟩ := hr.at_ hx
      have HR := Lib.hid hr
      rw [← eA_toList] at hra
      have HRA := Lib.hid hra
      have ha1 := eA_one x
      have HA1 := Lib.hid ha1
      have his := ent_info
      rw [← eA_size x] at his
      have HIS := Lib.hid his
      have HX := Lib.hid hx
      obtain ⟨cs, ecs⟩ : ∃ cs, cs = eA x := ⟨_, rfl⟩
      rw [← ecs] at HRA HA1 HIS
      have ECS := Lib.hid ecs
      clear hra ha1 his hx hr hb hp ecs hno
      by_cases hq : x.it.p = p
      · have t1 := eql_pr_yes hq
        have HQ := Lib.hid hq; clear hq
        by_cases hz : (x.it.n : Int) = z
        · have t2 : ((x.it.n : Int) == z) = true := beq_iff_eq.2 hz
          have HZ := Lib.hid hz; clear hz
          go_wp2_with (first
            | (refine Wh.load_g (by rfl) 69 (.tmp 19) (by rfl) g _ (by rfl) cs _ HRA.out Tryz.underlying69 (by rfl) HIS.out ?_)
            | (refine Wh.store_new (by rfl) 69 (.tmp 9) (.tmp 20) (by rfl) 69 rfl cs (by rfl) (by rfl) (by rw [ECS.out, eA_size]; rfl) HIS.out HA1.out ?_; rintro V hV hb; replace HB := Lib.hid (HB.out.trans (hb.mono (by have := HSZ.out; omega))); replace HP := Lib.hid (HP.out.below hb); replace HR := Lib.hid (HR.out.keep (hb.mono (by have := HSZ.out; omega))); have kp0 : V.cell? ⟨N, 0, none⟩ = some (.string ⟨p.1.toArray⟩) := HP.out.cell 0; have kp1 : V.cell? ⟨N, 1, none⟩ = some (.string ⟨p.2.toArray⟩) := HP.out.cell 1; have HPR := Lib.hid (eA_pr (ECS.out ▸ hV)); have kn := eA_n (ECS.out ▸ hV); have kb := eA_b (ECS.out ▸ hV); clear hV hb)
            | (refine Wh.load_g (by rfl) 31 (.tmp 21) (by rfl) _ 0 (by rfl) _ _ HPR.out Tryz.underlying31 (by rfl) pr_info ?_)
            | fail)
          go_ret2
          exact ⟨_, _, rfl, .inl ⟨i, x, first_at (its_at HX.out) HQ.out HZ.out HNO.out, HX.out, rfl, rfl⟩, by rw [← EN2.out]; exact HB.out⟩
        · have t2 : ((x.it.n : Int) == z) = false := beq_eq_false_iff_ne.2 hz
          have HZ := Lib.hid hz; clear hz
          go_wp2_with (first
            | (refine Wh.load_g (by rfl) 69 (.tmp 19) (by rfl) g _ (by rfl) cs _ HRA.out Tryz.underlying69 (by rfl) HIS.out ?_)
            | (refine Wh.store_new (by rfl) 69 (.tmp 9) (.tmp 20) (by rfl) 69 rfl cs (by rfl) (by rfl) (by rw [ECS.out, eA_size]; rfl) HIS.out HA1.out ?_; rintro V hV hb; replace HB := Lib.hid (HB.out.trans (hb.mono (by have := HSZ.out; omega))); replace HP := Lib.hid (HP.out.below hb); replace HR := Lib.hid (HR.out.keep (hb.mono (by have := HSZ.out; omega))); have kp0 : V.cell? ⟨N, 0, none⟩ = some (.string ⟨p.1.toArray⟩) := HP.out.cell 0; have kp1 : V.cell? ⟨N, 1, none⟩ = some (.string ⟨p.2.toArray⟩) := HP.out.cell 1; have HPR := Lib.hid (eA_pr (ECS.out ▸ hV)); have kn := eA_n (ECS.out ▸ hV); have kb := eA_b (ECS.out ▸ hV); clear hV hb)
            | (refine Wh.load_g (by rfl) 31 (.tmp 21) (by rfl) _ 0 (by rfl) _ _ HPR.out Tryz.underlying31 (by rfl) pr_info ?_)
            | fail)
          go_roundw
          case rel => exact ⟨i + 1, by omega, by go_num, HB.out, HP.out, HR.out, fun j y hj hy => by
            by_cases g : j = i
            · subst g
              rw [its_at HX.out] at hy
              injection hy with hy
              subst hy
              exact fun hh => HZ.out hh.2
            · exact HNO.out j y (by omega) hy⟩
          case measure => simp [intOf]; omega
      · have t1 := eql_pr_no hq
        have HQ := Lib.hid hq; clear hq
        go_wp2_with (first
          | (refine Wh.load_g (by rfl) 69 (.tmp 19) (by rfl) g _ (by rfl) cs _ HRA.out Tryz.underlying69 (by rfl) HIS.out ?_)
          | (refine Wh.store_new (by rfl) 69 (.tmp 9) (.tmp 20) (by rfl) 69 rfl cs (by rfl) (by rfl) (by rw [ECS.out, eA_size]; rfl) HIS.out HA1.out ?_; rintro V hV hb; replace HB := Lib.hid (HB.out.trans (hb.mono (by have := HSZ.out; omega))); replace HP := Lib.hid (HP.out.below hb); replace HR := Lib.hid (HR.out.keep (hb.mono (by have := HSZ.out; omega))); have kp0 : V.cell? ⟨N, 0, none⟩ = some (.string ⟨p.1.toArray⟩) := HP.out.cell 0; have kp1 : V.cell? ⟨N, 1, none⟩ = some (.string ⟨p.2.toArray⟩) := HP.out.cell 1; have HPR := Lib.hid (eA_pr (ECS.out ▸ hV)); have kn := eA_n (ECS.out ▸ hV); have kb := eA_b (ECS.out ▸ hV); clear hV hb)
          | (refine Wh.load_g (by rfl) 31 (.tmp 21) (by rfl) _ 0 (by rfl) _ _ HPR.out Tryz.underlying31 (by rfl) pr_info ?_)
          | fail)
        go_roundw
        case rel => exact ⟨i + 1, by omega, by go_num, HB.out, HP.out, HR.out, fun j y hj hy => by
          by_cases g : j = i
          · subst g
            rw [its_at HX.out] at hy
            injection hy with hy
            subst hy
            exact fun hh => HQ.out hh.1
          · exact HNO.out j y (by omega) hy⟩
        case measure => simp [intOf]; omega
    · have e1 : ¬ (i : Int) < (n : Int) := by omega
      obtain rfl : n = i := by omega
      clear hr hb hp hi hno
      go_wp2
      go_ret2
      exact ⟨_, _, rfl, .inr ⟨first_none fun j y hy => HNO.out j y (by rw [EN.out, ← its_length]; exact (List.getElem?_eq_some_iff.1 hy).1) hy, rfl, rfl⟩, by rw [← EN2.out]; exact HB.out⟩
theorem box_hit {B r : Nat} {v : Value} {es : List Ent} {p : Pr} {z : Int} {w : World} {i : Nat} {x : Ent} (h : Ring w B r v es) (hl : es.length ≤ 1000) (hf : firstI (its es) p z = some i) (hx : es[i]? = some x) :
    Calls Tryz.prog 9 #[.pointer (some ⟨r, 0, none⟩), prV p, .int .i64 z] w fun e w' => e = .returned (.tuple #[.pointer (some ⟨x.b, 0, none⟩), .int .i64 0]) ∧ Below w.heap.size w w' := by
  refine (box_any B r v es p z w h hl).mono ?_
  rintro e w' ⟨q, k, rfl, hq, hb⟩
  rcases hq with ⟨j, y, h1, h2, rfl, rfl⟩ | ⟨h1, _⟩
  · rw [hf] at h1; injection h1 with h1; subst h1
    rw [hx] at h2; injection h2 with h2; subst h2
    exact ⟨rfl, hb⟩
  · rw [hf] at h1; cases h1
end Go.Proofs.YtcjibpjdfhhhkaaGreat.Rg
end
