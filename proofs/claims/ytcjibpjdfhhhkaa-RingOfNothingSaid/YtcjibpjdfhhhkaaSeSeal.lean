/-
  Seal, the code's.
-/
import Derived.Test.YtcjibpjdfhhhkaaSeTag
set_option linter.unusedVariables false
namespace Go.Proofs.Ytcjibpjdfhhhkaa.Se
open Go.RowKit Go.Proofs.Ytcjibpjdfhhhkaa.Mem

theorem own_rda {S : Nat → Prop} {w : World} {base n : Nat} {v : Value} {xs : List Value} {t : TypeId} (h : w.ownsRow base t 1 v n xs) (hs : ∀ k, v.ownBlock = some k → ¬ S k) : ∃ A c, v = .slice A n c ∧ n ≤ c ∧ c ≤ maxLen ∧ RdA S w A xs := by
  have h0 := h
  obtain ⟨hl, ⟨rfl, hn⟩ | ⟨g, cap, cur, rfl, _, hh, hcap, hml, _⟩⟩ := h
  · subst hn
    exact ⟨none, 0, rfl, Nat.le_refl _, Nat.zero_le _, .inl (List.eq_nil_of_length_eq_zero (by simpa using hl))⟩
  · refine ⟨_, cap, rfl, hcap, hml, .inr ⟨g, 0, rfl, (Array.getElem?_eq_some_iff.1 hh).1, hs g rfl, fun i u hu => ?_⟩⟩
    have := h0.cells (g := g) rfl i u hu
    rwa [addr_add] at this
theorem Box.seals {w : World} {b : Nat} {ks : Nat → UInt8} {g a o r : Nat} (h : Box w b ks (some g) a o r) (a' : Nat) : Box (w.setCell ⟨b, 52, none⟩ (.int .i64 (a' : Int))) b ks (some g) a' o r := by
  obtain ⟨h1, h2, m, h3⟩ := h
  exact ⟨h1.set_a a', h2, m, Key.far h3 _ _ (fun e => h2 e.symm)⟩
theorem Box.opens {w : World} {b : Nat} {ks : Nat → UInt8} {g a o r : Nat} (h : Box w b ks (some g) a o r) (a' : Nat) : Box (w.setCell ⟨b, 53, none⟩ (.int .i64 (a' : Int))) b ks (some g) a a' r := by
  obtain ⟨h1, h2, m, h3⟩ := h
  exact ⟨h1.set_o a', h2, m, Key.far h3 _ _ (fun e => h2 e.symm)⟩
theorem Box.refuses {w : World} {b : Nat} {ks : Nat → UInt8} {h : Option Nat} {a o r : Nat} (hx : Box w b ks h a o r) (a' : Nat) : Box (w.setCell ⟨b, 54, none⟩ (.int .i64 (a' : Int))) b ks h a o a' := by
  cases h with
  | none => exact XB.set_r hx a'
  | some g =>
    obtain ⟨h1, h2, m, h3⟩ := hx
    exact ⟨h1.set_r a', h2, m, Key.far h3 _ _ (fun e => h2 e.symm)⟩
theorem chg_own {w w' : World} {v : Value} (h : w.grownBy w' v.ownBlock) : Chg (fun i => v.ownBlock = some i) w w' :=
  ⟨h.os, h.tape, h.output, h.size, fun k hk hne => h.block k hk (fun e => hne e.symm)⟩

theorem Step.same {w w' : World} {b g g2 : Nat} (h : Step w w' b (some g) g2) : g = g2 := by
  rcases h.2 with h1 | ⟨h1, _⟩
  · injection h1
  · cases h1
/-- the row is new: what is a Box's own is none of it -/
def NewRow (B : Nat) (v : Value) : Prop := ∀ k, v.ownBlock = some k → B ≤ k
theorem own_new {w : World} {B n : Nat} {v : Value} {xs : List Value} {t : TypeId} (h : w.ownsRow B t 1 v n xs) : NewRow B v := fun k hk => (h.lt k hk).1
theorem seal_a {B b : Nat} {ks : Nat → UInt8} {h : Option Nat} {a o r : Nat} {A : Option Addr} {xs : List Value} {w W w2 : World} {v0 : Value} (eB : B = w.heap.size) (hK : Box w b ks h a o r) (hR : RdA (Ow b h) w A xs) (hal : Below B w W) (hv : NewRow B v0) (hc : Chg (fun i => v0.ownBlock = some i) W w2) :
    Box w2 b ks h a o r ∧ RdA (Ow b h) w2 A xs ∧ Chg (Aw b h B) w w2 := by
  subst eB
  have h1 : Chg (fun i => w.heap.size ≤ i) w w2 := (Chg.of_below hal).trans hc fun i _ hx => hv i hx
  exact ⟨hK.chg h1 (fun i hi hx => by have := hK.own_lt i hi; omega), hR.keep h1 (fun i hi hx => by omega) (fun i _ hx => hx), h1.mono fun i _ hx => .inr hx⟩
theorem seal_b {B b g n : Nat} {h : Option Nat} {w2 w3 : World} {v1 : Value} {xs : List Value} {t : TypeId} (hOL : ∀ i, Ow b h i → i < B) (hB : B ≤ w2.heap.size) (ho : w2.ownsRow B t 1 v1 n xs) (hs : Step w2 w3 b h g) :
    w3.ownsRow B t 1 v1 n xs ∧ (∀ i, Ow b (some g) i → ¬ v1.ownBlock = some i) ∧ Aw b h B g := by
  refine ⟨hs.1.own ho (fun k hk hx => by have := hOL k hx; have := (ho.lt k hk).1; omega), fun i hi hk => ?_, hs.aw_g hB⟩
  have h1 := ho.lt i hk
  rcases hi with hi | hi
  · have := hOL i (.inl hi); omega
  · injection hi with hi
    rcases hs.2 with h2 | ⟨_, h2⟩
    · have := hOL i (.inr (hi ▸ h2)); omega
    · omega
theorem seal_c {b g : Nat} {ks : Nat → UInt8} {a o r : Nat} {w3 w4 : World} {v1 v4 : Value} (hK : Box w3 b ks (some g) a o r) (hn : ∀ i, Ow b (some g) i → ¬ v1.ownBlock = some i) (hg : w3.grownBy w4 v1.ownBlock) (hat : v4.ownBlock = v1.ownBlock ∨ v4.ownBlock = some w3.heap.size) :
    Box w4 b ks (some g) a o r ∧ (∀ i, v4.ownBlock = some i → ¬ Ow b (some g) i) := by
  refine ⟨hK.chg (chg_own hg) hn, fun i hk hi => ?_⟩
  rcases hat with h | h
  · exact hn i hi (h ▸ hk)
  · rw [h] at hk
    injection hk with hk
    have := hK.own_lt i hi
    omega

set_option maxRecDepth 100000 in
set_option maxHeartbeats 3200000 in
theorem seal_ok (b : Nat) (ks : Nat → UInt8) (h : Option Nat) (a o r u n : Nat) (A : Option Addr) (m c : Nat) (p : List UInt8) (w : World) (ha : a < 1000000) (hu : u ≤ 255) (hn : n ≤ 1099511627776) (hm : m = p.length) (hm2 : m ≤ 784) (hr : RdA (Ow b h) w A (bvs p)) (hK : Box w b ks h a o r) :
    Calls Try.prog 11 #[.pointer (some ⟨b, 0, none⟩), .int .i64 (u : Int), .int .i64 (n : Int), .slice A m c] w fun e w' => ∃ g Aq cq, e = .returned (.tuple #[.slice Aq (m + 16) cq, .int .i64 0]) ∧ m + 16 ≤ cq ∧ cq ≤ maxLen ∧ RdA (Nw w.heap.size g) w' Aq (bvs (sealL ks u n p)) ∧ Box w' b ks (some g) (a + 1) o r ∧ Step w w' b h g := by
  obtain ⟨ib, hi0, hz0, hs0, hb0⟩ := info_parts Si.u8_info
  have hmk := fun W => run_make_room (P := Try.prog) (t := 34) (e := 5) Try.underlying34 hi0 hz0 hs0 hb0 ((m : Int) + 16) (m + 16) (by omega) (by omega) W
  have f1 := fit_usage (u : Int) true (by simp; omega)
  have f2 := fit_nonce n true (by simp; omega)
  obtain ⟨B, eB⟩ : ∃ B, B = w.heap.size := ⟨_, rfl⟩
  have hown := World.ownsRow_made (e := 5) (base := B) (size := 1) w (zeros (m + 16)) (m + 16) (by omega) (by unfold maxLen; omega) (by rw [zeros_size, Nat.mul_one])
  have c1 := add_word B _ 0 n [] _ (by omega) (by decide) (by simp; omega) hown
  rw [Nat.zero_add, List.nil_append] at c1
  have hal : Below B w (w.alloc (.cells (zeros (m + 16)) 5)) := eB ▸ (Below.refl _ _).alloc (Nat.le_refl _) _
  have hol : ∀ i, Ow b h i → i < B := fun i hi => eB ▸ hK.own_lt i hi
  have hnr := own_new hown
  have HNR := Lib.hid hnr; clear hnr
  have HK := Lib.hid hK; clear hK
  have HR := Lib.hid hr; clear hr
  have AL := Lib.hid hal; clear hal
  have OL := Lib.hid hol; clear hol
  have EB := Lib.hid eB
  have q1 : (n : Int) ≤ 1099511627776 := by omega
  have q2 : (0 : Int) ≤ (n : Int) := by omega
  have q3 : (m : Int) ≤ 784 := by omega
  have q4 : IntKind.u64.wrap (n : Int) = (n : Int) := by rw [IntKind.wrap_u64]; omega
  have q5 : IntKind.i64.wrap ((m : Int) + 16) = (m : Int) + 16 := by rw [IntKind.wrap_i64]; omega
  have q6 : decide ((n : Int) < 0) = false := by simp
  have q7 : decide (784 < (m : Int)) = false := by simp; omega
  obtain ⟨L, eL⟩ : ∃ L, L = aheadL ks u n p := ⟨_, rfl⟩
  have hEL : bvs (w8 n) ++ bvs (mixL ks u n p) = bvs L := by rw [eL, aheadL, bvs_append]
  have hLL : 8 + m = L.length := by rw [eL, aheadL_length, ← hm]
  obtain ⟨T, eT⟩ : ∃ T, T = tagL ks u L := ⟨_, rfl⟩
  have hTL : T < 18446744073709551616 := by rw [eT]; exact tagL_lt _ _ _
  have hFin : bvs (L ++ w8 T) = bvs (sealL ks u n p) := by rw [eT, eL]; rfl
  have EL := Lib.hid hEL; clear hEL
  have LL := Lib.hid hLL; clear hLL
  have TL := Lib.hid hTL; clear hTL
  have FIN := Lib.hid hFin; clear hFin
  have ET := Lib.hid eT; clear eT
  clear eL
  have HA := Lib.hid ha; clear ha
  have HU := Lib.hid hu; clear hu
  have HN := Lib.hid hn; clear hn
  have HM := Lib.hid hm; clear hm
  have HM2 := Lib.hid hm2; clear hm2
  have C1 := Lib.hid c1; clear c1
  clear hown eB
  go_enter Try.func11, Try.ntmps11
  go_wp2_with (first
    | (go_at_call 23; refine Calls.mono (f1 _) ?_; rintro e wq ⟨rfl, hw⟩; have hw := hw.symm; subst hw; clear f1)
    | (go_at_call 24; refine Calls.mono (f2 _) ?_; rintro e wq ⟨rfl, hw⟩; have hw := hw.symm; subst hw; clear f2)
    | (go_at_call 25; refine Calls.mono C1.out ?_; rintro e w2 ⟨v1, rfl, hown1, hch1, hnew1⟩; clear C1 hmk; obtain ⟨hb2, hr2, hc2⟩ := seal_a EB.out HK.out HR.out AL.out HNR.out hch1; have ct := turn_any b ks h a o r u n A m c p w2 HU.out (by have := HN.out; omega) HM.out (by have := HM2.out; omega) hr2 hb2; have O1 := Lib.hid hown1; have C2 := Lib.hid hc2; have W2 := Lib.hid hc2.size; clear hown1 hch1 hnew1 hb2 hr2 hc2)
    | (go_at_call 26; refine Calls.mono ct ?_; rintro e w3 ⟨g, Aq, cq, rfl, hcq1, hcq2, hrq, hb3, hs3⟩; clear ct; obtain ⟨ho3, hn3, hg3⟩ := seal_b OL.out (by have := W2.out; have := EB.out; omega) O1.out hs3; have O3 := Lib.hid ho3; have N3 := Lib.hid hn3; have G3 := Lib.hid hg3; have Q3 := Lib.hid hrq; have B3 := Lib.hid hb3; have S3 := Lib.hid hs3; have W3 := Lib.hid hs3.1.size; clear hcq1 hcq2 hrq hb3 hs3 ho3 hn3 hg3)
    | (at_builtin; refine wpList_append_rd _ (by rfl) (.tmp 41) (.tmp 47) 34 (by rfl) B 5 ib _ 1 Try.underlying34 hi0 hz0 hs0 hb0 (by rfl) v1 8 (bvs (w8 n)) (by rfl) O3.out w3.heap.size Aq m cq (bvs (mixL ks u n p)) (by rfl) (by rw [bvs_length, mixL_length]; exact HM.out) Q3.out.rd (bvs_one _) (by have := HM2.out; unfold maxLen; omega) (by have := HM2.out; omega) (by have := W2.out; have := W3.out; have := EB.out; omega) ?_; intro v4 w4 hown4 hgrow4 hat4; obtain ⟨hb4, hn4⟩ := seal_c B3.out N3.out hgrow4 hat4; rw [EL.out] at hown4; obtain ⟨A4, c4, hv4, hc4, _, hr4⟩ := own_rda hown4 hn4; subst hv4; have ctg := tag_any b ks (some g) a o r u A4 (8 + m) c4 L w4 HU.out LL.out (by have := HM2.out; omega) hr4 hb4; rw [← ET.out] at ctg; have O4 := Lib.hid hown4; have N4 := Lib.hid hn4; have G4 := Lib.hid hgrow4; have NR4 := Lib.hid (own_new hown4); have W4 := Lib.hid hgrow4.size; clear hown4 hgrow4 hat4 hb4 hn4 hr4 hc4)
    | (go_at_call 27; refine Calls.mono ctg ?_; rintro e w5 ⟨g2, rfl, hb5, hs5⟩; clear ctg; have hgg := hs5.same; subst hgg; have ho5 := hs5.1.own O4.out N4.out; have c6 := add_word B _ (8 + m) T L w5 TL.out (by have := HM2.out; omega) (by have := W2.out; have := W3.out; have := W4.out; have := hs5.1.size; have := EB.out; omega) ho5; have B5 := Lib.hid hb5; have S5 := Lib.hid hs5; clear ho5 hb5 hs5)
    | (go_at_call 25; refine Calls.mono c6 ?_; rintro e w6 ⟨v6, rfl, hown6, hch6, hnew6⟩; clear c6; have hb6 := B5.out.chg hch6 (fun i hi hk => N4.out i hk hi); have cadd := add_one ⟨b, 52, none⟩ a w6 HA.out hb6.1.ca (hb6.1.fz 52); have O6 := Lib.hid hown6; have C6 := Lib.hid hch6; have N6 := Lib.hid hnew6; have B6 := Lib.hid hb6; clear hown6 hch6 hnew6 hb6)
    | (go_at_call 28; refine Calls.mono cadd ?_; rintro e w7 ⟨rfl, hw7⟩; clear cadd; have HW7 := Lib.hid hw7; clear hw7)
    | fail)
  have hnb : ∀ k, v6.ownBlock = some k → B ≤ k ∧ k ≠ g ∧ k ≠ b := fun k hk => by
    have h1 := own_new O6.out k hk
    have h2 := OL.out b (.inl rfl)
    refine ⟨h1, fun e => ?_, by omega⟩
    rcases N6.out k hk with h3 | h3
    · exact N4.out k h3 (.inr (by rw [e]))
    · have := B5.out.lt_g; omega
  have hsz : w.heap.size ≤ w7.heap.size := by
    have e : w7.heap.size = w6.heap.size := by rw [HW7.out]; simp [World.setCell]
    have := W2.out; have := W3.out; have := W4.out; have := S5.out.1.size; have := C6.out.size
    omega
  have ho7 : w7.ownsRow B 5 1 v6 (8 + m + 8) (bvs (L ++ w8 T)) := by
    rw [HW7.out]
    exact ((Chg.refl (fun i => i = b) w6).set (.inl rfl) _).own O6.out (fun k hk => (hnb k hk).2.2)
  rw [FIN.out] at ho7
  obtain ⟨A7, c7, hv7, hc7, hm7, hr7⟩ := own_rda (S := Nw w.heap.size g) ho7 (fun k hk hx => by
    have h1 := hnb k hk
    have := EB.out
    rcases hx with hx | hx
    · omega
    · exact h1.2.1 hx)
  have hch : Chg (Aw b h w.heap.size) w w7 := by
    rw [← EB.out]
    have hawn : ∀ i, Ow b (some g) i → Aw b h B i := fun i hi => by
      rcases hi with hi | hi
      · exact .inl (.inl hi)
      · injection hi with hi; exact hi ▸ G3.out
    have h4 : Chg (Aw b h B) w3 w4 := (chg_own G4.out).mono fun i _ hx => .inr ((own_new O3.out) i hx)
    have h5 : Chg (Aw b h B) w4 w5 := S5.out.1.mono fun i _ hx => hawn i hx
    have h6 : Chg (Aw b h B) w5 w6 := C6.out.mono fun i _ hx => .inr (NR4.out i hx)
    have h7 : Chg (Aw b h B) w6 w7 := by rw [HW7.out]; exact (Chg.refl _ w6).set (.inl (.inl (.inl rfl))) _
    exact ((((C2.out.then S3.out.aw).then h4).then h5).then h6).then h7
  have B7 : Box w7 b ks (some g) (a + 1) o r := by rw [HW7.out]; exact B6.out.seals (a + 1)
  clear HW7
  subst hv7
  go_wp2_with fail
  go_ret2
  rw [show 8 + m + 8 = m + 16 by omega] at hc7
  exact ⟨g, A7, c7, by show Ending.returned (.tuple #[.slice A7 (8 + m + 8) c7, .int .i64 0]) = _; rw [show 8 + m + 8 = m + 16 by omega], hc7, hm7, hr7, B7, hch.step (S3.out.2.imp id (fun hx => ⟨hx.1, by have := W2.out; omega⟩))⟩
end Go.Proofs.Ytcjibpjdfhhhkaa.Se
