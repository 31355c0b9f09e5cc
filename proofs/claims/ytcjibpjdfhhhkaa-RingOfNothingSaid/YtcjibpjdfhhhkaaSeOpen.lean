/-
  Seal that is refused; whether bytes are sealed; Open, the code's; Counts.
-/
import Derived.Test.YtcjibpjdfhhhkaaSeSeal
import Derived.Test.YtcjibpjdfhhhkaaOpenB
import Derived.Deep.QuietTactic
import Derived.BigQuiet
set_option linter.unusedVariables false
namespace Go.Proofs.Ytcjibpjdfhhhkaa.Se
open Go.RowKit Go.Proofs.Ytcjibpjdfhhhkaa.Mem

set_option maxRecDepth 100000 in
set_option maxHeartbeats 1600000 in
theorem seal_bad (b : Nat) (u N : Int) (A : Option Addr) (m c : Nat) (w : World) (wN : (Lit.int .i64 N).wf = true) (hm : m ≤ maxLen) (hx : ¬ (0 ≤ u ∧ u ≤ 255 ∧ 0 ≤ N ∧ N ≤ 1099511627776 ∧ m ≤ 784)) :
    Calls Try.prog 11 #[.pointer (some ⟨b, 0, none⟩), .int .i64 u, .int .i64 N, .slice A m c] w fun e w' => e = .returned (.tuple #[.slice none 0 0, .int .i64 1]) ∧ w' = w := by
  by_cases h1 : 0 ≤ u ∧ u ≤ 255
  · have f1 := fit_usage u true (by simp; omega)
    by_cases h2 : N < 0
    · have t2 : decide (N < 0) = true := by simpa using h2
      clear hx h1 wN hm
      go_enter Try.func11, Try.ntmps11
      go_wp2_with (go_at_call 23; refine Calls.mono (f1 _) ?_; rintro e wq ⟨rfl, hw⟩; have hw := hw.symm; subst hw; clear f1)
      go_ret2
      exact ⟨rfl, rfl⟩
    · obtain ⟨n, rfl⟩ : ∃ n : Nat, N = (n : Int) := ⟨N.toNat, by omega⟩
      have hn63 : n < 9223372036854775808 := by
        have := Open.i64_of_wf wN
        omega
      have t2 : decide ((n : Int) < 0) = false := by simp
      have q4 : IntKind.u64.wrap (n : Int) = (n : Int) := by rw [IntKind.wrap_u64]; omega
      by_cases h3 : n ≤ 1099511627776
      · have f2 := fit_nonce n true (by simp; omega)
        have t3 : decide (784 < (m : Int)) = true := by simp; omega
        have q1 : (n : Int) ≤ 1099511627776 := by omega
        clear hx h1 h2 wN
        go_enter Try.func11, Try.ntmps11
        go_wp2_with (first
          | (go_at_call 23; refine Calls.mono (f1 _) ?_; rintro e wq ⟨rfl, hw⟩; have hw := hw.symm; subst hw; clear f1)
          | (go_at_call 24; refine Calls.mono (f2 _) ?_; rintro e wq ⟨rfl, hw⟩; have hw := hw.symm; subst hw; clear f2))
        go_ret2
        exact ⟨rfl, rfl⟩
      · have f2 := fit_nonce n false (by simp; omega)
        clear hx h1 h2 wN
        go_enter Try.func11, Try.ntmps11
        go_wp2_with (first
          | (go_at_call 23; refine Calls.mono (f1 _) ?_; rintro e wq ⟨rfl, hw⟩; have hw := hw.symm; subst hw; clear f1)
          | (go_at_call 24; refine Calls.mono (f2 _) ?_; rintro e wq ⟨rfl, hw⟩; have hw := hw.symm; subst hw; clear f2))
        go_ret2
        exact ⟨rfl, rfl⟩
  · have f1 := fit_usage u false (by
      rw [eq_comm, Bool.and_eq_false_iff]
      rcases Int.lt_or_le u 0 with h | h
      · exact .inl (by simp; omega)
      · exact .inr (by simp; omega))
    clear hx h1 wN
    go_enter Try.func11, Try.ntmps11
    go_wp2_with (go_at_call 23; refine Calls.mono (f1 _) ?_; rintro e wq ⟨rfl, hw⟩; have hw := hw.symm; subst hw; clear f1)
    go_ret2
    exact ⟨rfl, rfl⟩
theorem seal_nil (u N : Int) (p : Value) (w : World) :
    Calls Try.prog 11 #[.pointer none, .int .i64 u, .int .i64 N, p] w fun e w' => e = .returned (.tuple #[.slice none 0 0, .int .i64 1]) ∧ w' = w := by
  go_enter Try.func11, Try.ntmps11
  go_wp2
  go_ret2
  exact ⟨rfl, rfl⟩
theorem open_nil (u : Int) (p : Value) (w : World) :
    Calls Try.prog 13 #[.pointer none, .int .i64 u, p] w fun e w' => e = .returned (.tuple #[.slice none 0 0, .int .i64 1]) ∧ w' = w := by
  go_enter Try.func13, Try.ntmps13
  go_wp2
  go_ret2
  exact ⟨rfl, rfl⟩
theorem open_bad (b : Nat) (u : Int) (p : Value) (w : World) (hx : ¬ (0 ≤ u ∧ u ≤ 255)) :
    Calls Try.prog 13 #[.pointer (some ⟨b, 0, none⟩), .int .i64 u, p] w fun e w' => e = .returned (.tuple #[.slice none 0 0, .int .i64 1]) ∧ w' = w := by
  have f1 := fit_usage u false (by
    rw [eq_comm, Bool.and_eq_false_iff]
    rcases Int.lt_or_le u 0 with h | h
    · exact .inl (by simp; omega)
    · exact .inr (by simp; omega))
  clear hx
  go_enter Try.func13, Try.ntmps13
  go_wp2_with (go_at_call 23; refine Calls.mono (f1 _) ?_; rintro e wq ⟨rfl, hw⟩; have hw := hw.symm; subst hw; clear f1)
  go_ret2
  exact ⟨rfl, rfl⟩
theorem counts_nil (w : World) :
    Calls Try.prog 14 #[.pointer none] w fun e w' => e = .returned (.tuple #[.int .i64 0, .int .i64 0, .int .i64 0]) ∧ w' = w := by
  go_enter Try.func14, Try.ntmps14
  go_wp2
  go_ret3
  exact ⟨rfl, rfl⟩
theorem counts_any (b : Nat) (ks : Nat → UInt8) (h : Option Nat) (a o r : Nat) (w : World) (ha : a < 1000000) (ho : o < 1000000) (hr : r < 1000000) (hK : Box w b ks h a o r) :
    Calls Try.prog 14 #[.pointer (some ⟨b, 0, none⟩)] w fun e w' => e = .returned (.tuple #[.int .i64 (a : Int), .int .i64 (o : Int), .int .i64 (r : Int)]) ∧ w' = w := by
  have hc : w.cell? ⟨b, 52, none⟩ = some (.int .i64 (a : Int)) ∧ w.cell? ⟨b, 53, none⟩ = some (.int .i64 (o : Int)) ∧ w.cell? ⟨b, 54, none⟩ = some (.int .i64 (r : Int)) := by
    cases h with
    | none => exact ⟨XB.ca hK, XB.co hK, XB.cr hK⟩
    | some g => exact ⟨hK.1.ca, hK.1.co, hK.1.cr⟩
  have ca := load_count ⟨b, 52, none⟩ a w hc.1
  have co := load_count ⟨b, 53, none⟩ o w hc.2.1
  have cr := load_count ⟨b, 54, none⟩ r w hc.2.2
  have wa : IntKind.i64.wrap (a : Int) = (a : Int) := by rw [IntKind.wrap_i64]; omega
  have wo : IntKind.i64.wrap (o : Int) = (o : Int) := by rw [IntKind.wrap_i64]; omega
  have wr : IntKind.i64.wrap (r : Int) = (r : Int) := by rw [IntKind.wrap_i64]; omega
  clear hK hc ha ho hr
  go_enter Try.func14, Try.ntmps14
  go_wp2_with (first
    | (go_at_call 31; refine Calls.mono cr ?_; rintro e wq ⟨rfl, hw⟩; have hw := hw.symm; subst hw; clear cr)
    | (go_at_call 31; refine Calls.mono co ?_; rintro e wq ⟨rfl, hw⟩; have hw := hw.symm; subst hw; clear co)
    | (go_at_call 31; refine Calls.mono ca ?_; rintro e wq ⟨rfl, hw⟩; have hw := hw.symm; subst hw; clear ca))
  go_ret3
  exact ⟨rfl, rfl⟩
/-- what a use of a Box turns, where its halves may be left unmade -/
def StepO (w w' : World) (b : Nat) (h h' : Option Nat) : Prop := Chg (Ow b h) w w' ∧ (h' = h ∨ (h = none ∧ ∃ g, h' = some g ∧ w.heap.size ≤ g))
theorem StepO.refl (w : World) (b : Nat) (h : Option Nat) : StepO w w b h h := ⟨Chg.refl _ _, .inl rfl⟩
theorem Step.o {w w' : World} {b g : Nat} {h : Option Nat} (hs : Step w w' b h g) : StepO w w' b h (some g) :=
  ⟨hs.1, hs.2.imp (fun e => e.symm) (fun e => ⟨e.1, g, rfl, e.2⟩)⟩
theorem StepO.own {w w' : World} {b : Nat} {h h' : Option Nat} (hs : StepO w w' b h h') : ∀ i, i < w.heap.size → Ow b h' i → Ow b h i := by
  intro i hi hx
  rcases hs.2 with rfl | ⟨_, g, rfl, hg⟩
  · exact hx
  · rcases hx with hx | hx
    · exact .inl hx
    · injection hx with hx; omega
theorem StepO.trans {a w c : World} {b : Nat} {h h1 h2 : Option Nat} (s1 : StepO a w b h h1) (s2 : StepO w c b h1 h2) : StepO a c b h h2 := by
  refine ⟨s1.1.trans s2.1 s1.own, ?_⟩
  rcases s1.2 with rfl | ⟨e, g, rfl, hg⟩
  · rcases s2.2 with rfl | ⟨e, g, rfl, hg⟩
    · exact .inl rfl
    · exact .inr ⟨e, g, rfl, Nat.le_trans s1.1.size hg⟩
  · rcases s2.2 with rfl | ⟨e2, _⟩
    · exact .inr ⟨e, g, rfl, hg⟩
    · cases e2
theorem StepO.drewN {w w' : World} {b : Nat} {h h' : Option Nat} (hs : StepO w w' b h h') (k : Nat) : StepO w (w'.drewN k) b h h' := ⟨⟨hs.1.os, hs.1.tape, hs.1.output, hs.1.size, hs.1.block⟩, hs.2⟩
theorem chg_drewN (S : Nat → Prop) (w : World) (k : Nat) : Chg S w (w.drewN k) := ⟨rfl, rfl, rfl, Nat.le_refl _, fun _ _ _ => rfl⟩

theorem rd_nil_16 {l : List UInt8} {n : Nat} {P : Prop} (hn : n = l.length) (h : 8 ≤ n) (hx : bvs l = []) : P := by
  have := bvs_length l; rw [hx] at this; simp at this; omega
theorem RdA.take {S : Nat → Prop} {w : World} {A : Option Addr} {l : List UInt8} (h : RdA S w A (bvs l)) (k : Nat) : RdA S w A (bvs (l.take k)) := by
  rcases h with h | ⟨b, o, h1, h2, h3, h4⟩
  · left
    have : l = [] := List.map_eq_nil_iff.1 h
    rw [this, List.take_nil]; rfl
  · refine .inr ⟨b, o, h1, h2, h3, fun i u hu => h4 i u ?_⟩
    unfold bvs at hu ⊢
    rw [List.map_take, List.getElem?_take] at hu
    split at hu
    · exact hu
    · cases hu
theorem RdA.drop {S : Nat → Prop} {w : World} {b o : Nat} {l : List UInt8} (h : RdA S w (some ⟨b, o, none⟩) (bvs l)) (k : Nat) : RdA S w (some ⟨b, o + k, none⟩) (bvs (l.drop k)) := by
  rcases h with h | ⟨b', o', h1, h2, h3, h4⟩
  · left
    have : l = [] := List.map_eq_nil_iff.1 h
    rw [this, List.drop_nil]; rfl
  · injection h1 with h1
    injection h1 with e1 e2
    subst e1 e2
    refine .inr ⟨b, o + k, rfl, h2, h3, fun i u hu => ?_⟩
    unfold bvs at hu
    rw [List.map_drop, List.getElem?_drop] at hu
    have := h4 (k + i) u hu
    rwa [← Nat.add_assoc] at this
theorem isL_short {ks : Nat → UInt8} {u : Nat} {l : List UInt8} (h : l.length < 16 ∨ 800 < l.length ∨ 1099511627776 < n8 l) : isL ks u l = false := by
  unfold isL
  rcases h with h | h | h
  · rw [show decide (16 ≤ l.length) = false by simp; omega]; simp
  · rw [show decide (l.length ≤ 800) = false by simp; omega]; simp
  · rw [show decide (n8 l ≤ 1099511627776) = false by simp; omega]; simp
theorem isL_long {ks : Nat → UInt8} {u : Nat} {l : List UInt8} (h1 : 16 ≤ l.length) (h2 : l.length ≤ 800) (h3 : n8 l ≤ 1099511627776) : isL ks u l = decide (tagL ks u (headL l) = n8 (lastL l)) := by
  unfold isL
  rw [show decide (16 ≤ l.length) = true by simpa using h1, show decide (l.length ≤ 800) = true by simpa using h2, show decide (n8 l ≤ 1099511627776) = true by simpa using h3]; simp

set_option maxRecDepth 100000 in
set_option maxHeartbeats 1600000 in
theorem is_short (b u : Nat) (ks : Nat → UInt8) (A : Option Addr) (n c : Nat) (l : List UInt8) (w : World) (hn : n = l.length) (hc : n ≤ c) (hm : c ≤ maxLen) (hr : Rd w w.heap.size A (bvs l)) (hx : l.length < 16 ∨ 800 < l.length ∨ 1099511627776 < n8 l) :
    Calls Try.prog 29 #[.pointer (some ⟨b, 0, none⟩), .int .i64 (u : Int), .slice A n c] w fun e w' => e = .returned (.bool false) ∧ w' = w := by
  by_cases h1 : n < 16
  · have t1 : decide ((n : Int) < 16) = true := by simp; omega
    clear hx hr hn hc hm h1
    go_enter Try.func29, Try.ntmps29
    go_wp2
    go_ret
    exact ⟨rfl, rfl⟩
  · have t1 : decide ((n : Int) < 16) = false := by simp; omega
    by_cases h2 : 800 < n
    · have t2 : decide (800 < (n : Int)) = true := by simp; omega
      clear hx hr hn hc hm h1 h2
      go_enter Try.func29, Try.ntmps29
      go_wp2
      go_ret
      exact ⟨rfl, rfl⟩
    · have t2 : decide (800 < (n : Int)) = false := by simp; omega
      have h3 : 1099511627776 < n8 l := by omega
      have cw := word_any w.heap.size A n c l w hn (by omega) hc hr
      have f2 := fit_nonce (n8 l) false (by simp; omega)
      obtain ⟨N, eN⟩ : ∃ N, N = n8 l := ⟨_, rfl⟩
      rw [← eN] at cw f2
      clear hx hr hn hc hm h1 h2 h3 eN
      go_enter Try.func29, Try.ntmps29
      go_wp2_with (first
        | (go_at_call 30; refine Calls.mono cw ?_; rintro e wq ⟨rfl, hw⟩; have hw := hw.symm; subst hw; clear cw)
        | (go_at_call 24; refine Calls.mono (f2 _) ?_; rintro e wq ⟨rfl, hw⟩; have hw := hw.symm; subst hw; clear f2))
      go_ret
      exact ⟨rfl, rfl⟩
set_option maxRecDepth 100000 in
set_option maxHeartbeats 1600000 in
theorem is_long (b : Nat) (ks : Nat → UInt8) (h : Option Nat) (a o r u : Nat) (A : Option Addr) (n c : Nat) (l : List UInt8) (w : World) (hu : u ≤ 255) (hn : n = l.length) (hc : n ≤ c) (hm : c ≤ maxLen) (hr : RdA (Ow b h) w A (bvs l)) (hK : Box w b ks h a o r) (h1 : 16 ≤ l.length) (h2 : l.length ≤ 800) (h3 : n8 l ≤ 1099511627776) :
    Calls Try.prog 29 #[.pointer (some ⟨b, 0, none⟩), .int .i64 (u : Int), .slice A n c] w fun e w' => e = .returned (.bool (decide (tagL ks u (headL l) = n8 (lastL l)))) ∧ ∃ g, Box w' b ks (some g) a o r ∧ Step w w' b h g := by
  have cw := word_any w.heap.size A n c l w hn (by omega) hc hr.rd
  have f2 := fit_nonce (n8 l) true (by simp; omega)
  obtain ⟨b2, o2, rfl⟩ : ∃ b2 o2, A = some ⟨b2, o2, none⟩ := by
    rcases hr with hx | ⟨b2, o2, h4, _⟩
    · exact rd_nil_16 hn (by omega) hx
    · exact ⟨b2, o2, h4⟩
  obtain ⟨k, hk⟩ : ∃ k, n = k + 8 := ⟨n - 8, by omega⟩
  have hk8 : n - 8 = k := by omega
  have hhd : headL l = l.take k := by unfold headL; rw [← hn, hk8]
  have hla : lastL l = l.drop k := by unfold lastL; rw [← hn, hk8]
  have ct := fun (q : Nat) => tag_any b ks h a o r u (some ⟨b2, o2, none⟩) k c (headL l) (w.drewN q) hu (by rw [hhd, List.length_take]; omega) (by omega) ((hhd ▸ hr.take k).keep (chg_drewN (fun _ => False) w q) (fun _ _ x => x.elim) (fun _ _ x => x)) (hK.chg (chg_drewN (fun _ => False) w q) (fun _ _ x => x))
  have cl := fun (w2 : World) (hw : RdA (Aw b h w.heap.size) w2 (some ⟨b2, o2 + k, none⟩) (bvs (lastL l))) (c2 : Nat) (hc2 : 8 ≤ c2) => word_any w2.heap.size (some ⟨b2, o2 + k, none⟩) 8 c2 (lastL l) w2 (by rw [hla, List.length_drop]; omega) (Nat.le_refl _) hc2 hw.rd
  have hrl : RdA (Aw b h w.heap.size) w (some ⟨b2, o2 + k, none⟩) (bvs (lastL l)) := hla ▸ (hr.drop k).aw (Nat.le_refl _)
  obtain ⟨N, eN⟩ : ∃ N, N = n8 l := ⟨_, rfl⟩
  obtain ⟨M, eM⟩ : ∃ M, M = n8 (lastL l) := ⟨_, rfl⟩
  obtain ⟨T, eT⟩ : ∃ T, T = tagL ks u (headL l) := ⟨_, rfl⟩
  rw [← eN] at cw f2
  rw [← eM] at cl ⊢
  rw [← eT] at ct ⊢
  have HRL := Lib.hid hrl; clear hrl
  have t1 : decide ((n : Int) < 16) = false := by simp; omega
  have t2 : decide (800 < (n : Int)) = false := by simp; omega
  have s1 : (k : Int) ≤ 792 := by omega
  have s2 : (0 : Int) ≤ (k : Int) := by omega
  have s3 : (k : Int) ≤ (c : Int) := by omega
  have s4 : (k : Int) ≤ (n : Int) := by omega
  have s5 : (n : Int) ≤ (c : Int) := by omega
  have s6 : (n : Int) - 8 = (k : Int) := by omega
  have s7 : IntKind.i64.wrap (k : Int) = (k : Int) := by rw [IntKind.wrap_i64]; omega
  have s9 : n - k = 8 := by omega
  have s10 : k ≤ c := by omega
  have s11 : k ≤ n := by omega
  have HKN := Lib.hid hk; clear hk
  have HC := Lib.hid hc; clear hc
  have CL := Lib.hid cl; clear cl
  clear hK hr hn hm h1 h2 h3 eN eM eT hhd hla hu hk8
  go_enter Try.func29, Try.ntmps29
  go_wp2_with (first
    | (go_at_call 30; refine Calls.mono cw ?_; rintro e wq ⟨rfl, hw⟩; have hw := hw.symm; subst hw; clear cw)
    | (go_at_call 24; refine Calls.mono (f2 _) ?_; rintro e wq ⟨rfl, hw⟩; have hw := hw.symm; subst hw; clear f2))
  go_quiet (fail)
  have ct2 := ct nq
  clear ct
  go_wp2_with (first
    | (go_at_call 27; refine Calls.mono ct2 ?_; rintro e w3 ⟨g, rfl, hb3, hs3⟩; clear ct2; have hr3 := HRL.out.go ((chg_drewN (Aw b h w.heap.size) w nq).then hs3.aw); have cl2 := CL.out w3 hr3 (c - k) (by have := HKN.out; have := HC.out; omega); have B3 := Lib.hid hb3; have S3 := Lib.hid hs3; clear hb3 hs3 hr3 CL)
    | (go_at_call 30; refine Calls.mono cl2 ?_; rintro e wq ⟨rfl, hw⟩; have hw := hw.symm; subst hw; clear cl2))
  go_ret
  refine ⟨?_, g, B3.out, ⟨⟨S3.out.1.os, S3.out.1.tape, S3.out.1.output, S3.out.1.size, S3.out.1.block⟩, S3.out.2⟩⟩
  show Ending.returned (.bool (decide ((T : Int) = (M : Int)))) = _
  congr 3
  exact propext ⟨by omega, by omega⟩
end Go.Proofs.Ytcjibpjdfhhhkaa.Se
