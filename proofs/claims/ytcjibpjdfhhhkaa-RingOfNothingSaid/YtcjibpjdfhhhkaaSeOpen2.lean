/-
  Open, the code's.
-/
import Derived.Test.YtcjibpjdfhhhkaaSeOpen
import Derived.StillTailTactics
set_option linter.unusedVariables false
namespace Go.Proofs.Ytcjibpjdfhhhkaa.Se
open Go.RowKit Go.Proofs.Ytcjibpjdfhhhkaa.Mem

theorem is_any (b : Nat) (ks : Nat → UInt8) (h : Option Nat) (a o r u : Nat) (A : Option Addr) (n c : Nat) (l : List UInt8) (w : World) (hu : u ≤ 255) (hn : n = l.length) (hc : n ≤ c) (hm : c ≤ maxLen) (hr : RdA (Ow b h) w A (bvs l)) (hK : Box w b ks h a o r) :
    Calls Try.prog 29 #[.pointer (some ⟨b, 0, none⟩), .int .i64 (u : Int), .slice A n c] w fun e w' => e = .returned (.bool (isL ks u l)) ∧ ∃ h', Box w' b ks h' a o r ∧ StepO w w' b h h' := by
  by_cases hx : l.length < 16 ∨ 800 < l.length ∨ 1099511627776 < n8 l
  · refine (is_short b u ks A n c l w hn hc hm hr.rd hx).mono ?_
    rintro e w' ⟨rfl, hw⟩
    subst hw
    exact ⟨by rw [isL_short hx], h, hK, StepO.refl _ _ _⟩
  · refine (is_long b ks h a o r u A n c l w hu hn hc hm hr hK (by omega) (by omega) (by omega)).mono ?_
    rintro e w' ⟨rfl, g, h1, h2⟩
    exact ⟨by rw [isL_long (by omega) (by omega) (by omega)], some g, h1, h2.o⟩
theorem StepO.aw {w w' : World} {b n : Nat} {h h' : Option Nat} (hs : StepO w w' b h h') : Chg (Aw b h n) w w' := hs.1.mono fun i _ hx => .inl hx
theorem StepO.rda {w w' : World} {b : Nat} {h h' : Option Nat} {A : Option Addr} {xs : List Value} (hs : StepO w w' b h h') (hr : RdA (Ow b h) w A xs) : RdA (Ow b h') w' A xs :=
  hr.keep hs.1 (fun _ _ x => x) hs.own
set_option maxRecDepth 100000 in
set_option maxHeartbeats 1600000 in
theorem open_ref (b : Nat) (ks : Nat → UInt8) (h : Option Nat) (a o r u : Nat) (A : Option Addr) (n c : Nat) (l : List UInt8) (w : World) (hr1 : r < 1000000) (hu : u ≤ 255) (hn : n = l.length) (hc : n ≤ c) (hm : c ≤ maxLen) (hr : RdA (Ow b h) w A (bvs l)) (hK : Box w b ks h a o r) (hx : isL ks u l = false) :
    Calls Try.prog 13 #[.pointer (some ⟨b, 0, none⟩), .int .i64 (u : Int), .slice A n c] w fun e w' => e = .returned (.tuple #[.slice none 0 0, .int .i64 3]) ∧ ∃ h', Box w' b ks h' a o (r + 1) ∧ StepO w w' b h h' := by
  have f1 := fit_usage (u : Int) true (by simp; omega)
  have ci := is_any b ks h a o r u A n c l w hu hn hc hm hr hK
  rw [hx] at ci
  have HR1 := Lib.hid hr1; clear hr1
  clear hu hn hc hm hr hK hx
  go_enter Try.func13, Try.ntmps13
  go_wp2_with (first
    | (go_at_call 23; refine Calls.mono (f1 _) ?_; rintro e wq ⟨rfl, hw⟩; have hw := hw.symm; subst hw; clear f1)
    | (go_at_call 29; refine Calls.mono ci ?_; rintro e w2 ⟨rfl, h2, hb2, hs2⟩; clear ci; have hcr : w2.cell? ⟨b, 54, none⟩ = some (.int .i64 (r : Int)) ∧ w2.frozen? ⟨b, 54, none⟩ = false := by { cases h2 with | none => exact ⟨XB.cr hb2, XB.fz hb2 54⟩ | some g => exact ⟨hb2.1.cr, hb2.1.fz 54⟩ }; have cadd := add_one ⟨b, 54, none⟩ r w2 HR1.out hcr.1 hcr.2; have B2 := Lib.hid hb2; have S2 := Lib.hid hs2; clear hb2 hs2 hcr)
    | (go_at_call 28; refine Calls.mono cadd ?_; rintro e w7 ⟨rfl, hw7⟩; clear cadd; have HW7 := Lib.hid hw7; clear hw7))
  go_ret2
  refine ⟨rfl, h2, by rw [HW7.out]; exact B2.out.refuses (r + 1), ?_⟩
  rw [HW7.out]
  refine ⟨S2.out.1.trans ((Chg.refl (fun i => i = b) w2).set (.inl rfl) _) (fun i _ hx => .inl hx), S2.out.2⟩
set_option maxRecDepth 100000 in
set_option maxHeartbeats 1600000 in
theorem open_ok (b : Nat) (ks : Nat → UInt8) (h : Option Nat) (a o r u : Nat) (A : Option Addr) (n c : Nat) (l : List UInt8) (w : World) (ho1 : o < 1000000) (hu : u ≤ 255) (hn : n = l.length) (hc : n ≤ c) (hm : c ≤ maxLen) (hr : RdA (Ow b h) w A (bvs l)) (hK : Box w b ks h a o r) (hx : isL ks u l = true) :
    Calls Try.prog 13 #[.pointer (some ⟨b, 0, none⟩), .int .i64 (u : Int), .slice A n c] w fun e w' => ∃ g Aq cq, e = .returned (.tuple #[.slice Aq (n - 16) cq, .int .i64 0]) ∧ n - 16 ≤ cq ∧ cq ≤ 1000 ∧ RdA (Nw w.heap.size g) w' Aq (bvs (mixL ks u (n8 l) (midL l))) ∧ Box w' b ks (some g) a (o + 1) r ∧ Step w w' b h g := by
  have f1 := fit_usage (u : Int) true (by simp; omega)
  have ci := is_any b ks h a o r u A n c l w hu hn hc hm hr hK
  rw [hx] at ci
  have hlen : 16 ≤ n ∧ n ≤ 800 ∧ n8 l ≤ 1099511627776 := by
    have := hx
    simp only [isL, Bool.and_eq_true, decide_eq_true_eq] at this
    omega
  obtain ⟨b2, o2, rfl⟩ : ∃ b2 o2, A = some ⟨b2, o2, none⟩ := by
    rcases hr with hx | ⟨b2, o2, h4, _⟩
    · exact rd_nil_16 hn (by omega) hx
    · exact ⟨b2, o2, h4⟩
  obtain ⟨k, hk⟩ : ∃ k, n = k + 8 := ⟨n - 8, by omega⟩
  obtain ⟨m, hm8⟩ : ∃ m, k = m + 8 := ⟨k - 8, by omega⟩
  have hmid : midL l = (l.take k).drop 8 := by unfold midL headL; rw [← hn, show n - 8 = k by omega]
  have cw := fun w2 (h2 : RdA (Aw b h w.heap.size) w2 (some ⟨b2, o2, none⟩) (bvs l)) => word_any w2.heap.size (some ⟨b2, o2, none⟩) n c l w2 hn (by omega) hc h2.rd
  have ct := fun (w2 : World) (h2 : Option Nat) (hr2 : RdA (Ow b h2) w2 (some ⟨b2, o2, none⟩) (bvs l)) (hb2 : Box w2 b ks h2 a o r) => turn_any b ks h2 a o r u (n8 l) (some ⟨b2, o2 + 8, none⟩) m (c - 8) (midL l) w2 hu (by omega) (by rw [hmid, List.length_drop, List.length_take]; omega) (by omega) (hmid ▸ (hr2.take k).drop 8) hb2
  obtain ⟨N, eN⟩ : ∃ N, N = n8 l := ⟨_, rfl⟩
  rw [← eN] at cw ct ⊢
  obtain ⟨Q, eQ⟩ : ∃ Q, Q = mixL ks u N (midL l) := ⟨_, rfl⟩
  rw [← eQ] at ct ⊢
  have hm16 : n - 16 = m := by omega
  rw [hm16]
  have HR := Lib.hid hr; clear hr
  have CW := Lib.hid cw; clear cw
  have CT := Lib.hid ct; clear ct
  have HO1 := Lib.hid ho1; clear ho1
  have s1 : (n : Int) - 8 = (k : Int) := by omega
  have s2 : IntKind.i64.wrap (k : Int) = (k : Int) := by rw [IntKind.wrap_i64]; omega
  have s3 : (8 : Int) ≤ (k : Int) := by omega
  have s4 : (k : Int) ≤ (c : Int) := by omega
  have s5 : k - 8 = m := by omega
  have s6 : 8 ≤ k := by omega
  have s8 : ¬ c = 8 := by omega
  have s7 : k ≤ c := by omega
  have HKN := Lib.hid hk; clear hk
  clear hu hn hc hm hK hx hlen eN hm8 hmid eQ hm16
  go_enter Try.func13, Try.ntmps13
  go_wp2_with (first
    | (go_at_call 23; refine Calls.mono (f1 _) ?_; rintro e wq ⟨rfl, hw⟩; have hw := hw.symm; subst hw; clear f1)
    | (go_at_call 29; refine Calls.mono ci ?_; rintro e w2 ⟨rfl, h2, hb2, hs2⟩; clear ci; have hr2 := hs2.rda HR.out; have B2 := Lib.hid hb2; have S2 := Lib.hid hs2; have R2 := Lib.hid hr2; clear hb2 hs2 hr2))
  have B3 : Hid (Box w2.drew b ks h2 a o r) := B2.out.chg (chg_drewN (fun _ => False) w2 1) (fun _ _ x => x)
  have S3 : Hid (StepO w w2.drew b h h2) := S2.out.drewN 1
  have R3 : Hid (RdA (Ow b h2) w2.drew (some ⟨b2, o2, none⟩) (bvs l)) := R2.out.keep (chg_drewN (fun _ => False) w2 1) (fun _ _ x => x.elim) (fun _ _ x => x)
  have cw3 := CW.out w2.drew ((HR.out.aw (Nat.le_refl _)).go S3.out.aw)
  have ct3 := CT.out w2.drew h2 R3.out B3.out
  refine wp_region_still_tail 9 (by kernel_rfl) (by kernel_rfl) ?_
  simp only [List.take_succ_cons, List.take_zero, List.drop_succ_cons, List.drop_zero]
  change wpStill _ _ w2.drew _ _ _
  repeat still_step
  still_call cw3
  repeat still_step
  refine wpStill_nil ?_
  change wpList _ _ _ _ _ w2.drew
  clear cw3 B2 S2 R2
  generalize w2.drew = w3 at B3 S3 R3 ct3 ⊢
  go_wp2_with (first
    | (go_at_call 26; refine Calls.mono ct3 ?_; rintro e w4 ⟨g, Aq, cq, rfl, hq1, hq2, hrq, hb4, hs4⟩; clear ct3; have cadd := add_one ⟨b, 53, none⟩ o w4 HO1.out hb4.1.co (hb4.1.fz 53); have B4 := Lib.hid hb4; have S4 := Lib.hid hs4; have Q4 := Lib.hid hrq; have C1 := Lib.hid hq1; have C2 := Lib.hid hq2; clear hb4 hs4 hrq hq1 hq2)
    | (go_at_call 28; refine Calls.mono cadd ?_; rintro e w7 ⟨rfl, hw7⟩; clear cadd; have HW7 := Lib.hid hw7; clear hw7))
  go_ret2
  have hbx := B4.out.lt
  have hch : Chg (fun i => i = b) w4 w7 := by rw [HW7.out]; exact (Chg.refl (fun i => i = b) w4).set (.inl rfl) _
  have hst : StepO w w4 b h (some g) := S3.out.trans S4.out.o
  refine ⟨g, Aq, cq, rfl, C1.out, C2.out, ?_, by rw [HW7.out]; exact B4.out.opens (o + 1), hst.1.trans hch (fun i _ hx => .inl hx), hst.2.imp (fun e => e.symm) (fun e => ⟨e.1, by obtain ⟨_, g2, hg2, hg3⟩ := e; injection hg2 with hg2; omega⟩)⟩
  have hb3 := B3.out.lt
  refine Q4.out.keep (hch.mono (T := Nw w3.heap.size g) fun i _ hx => .inl (by omega)) (fun _ _ x => x) (fun i _ hx => ?_)
  rcases hx with hx | hx
  · exact .inl (by have := S3.out.1.size; omega)
  · exact .inr hx
end Go.Proofs.Ytcjibpjdfhhhkaa.Se
