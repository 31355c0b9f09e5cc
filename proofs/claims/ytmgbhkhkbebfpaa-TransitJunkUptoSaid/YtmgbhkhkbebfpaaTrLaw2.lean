/-
  TransitEnds, TransitDots and TransitSlashes walked.
-/
import Derived.Test.YtmgbhkhkbebfpaaTrLaw1
import Derived.Test.YtmgbhkhkbebfpaaTrPlain3
set_option linter.unusedVariables false
namespace Go.Proofs.Ytmgbhkhkbebfpaa.TrW
open Go.RowKit Go.Proofs.Ytmgbhkhkbebfpaa.Mem Go.Proofs.Ytmgbhkhkbebfpaa.Nm Go.Proofs.Ytmgbhkhkbebfpaa.Tr

theorem lits_rd' (w : World) (ls : List L) : Rd (w.alloc (.cells (strs ls).toArray 9)) (w.alloc (.cells (strs ls).toArray 9)).heap.size (some ⟨w.heap.size, 0, none⟩) (strs ls) := (lits_rd w ls).more (by simp)
theorem lits_below (w : World) (ls : List L) : Below w.heap.size w (w.alloc (.cells (strs ls).toArray 9)) := (Below.refl _ _).alloc (Nat.le_refl _) _

/-- two rows, the second one laid down for the call -/
theorem texts_lit (ls : List L) (A : Option Addr) (n c : Nat) (w1 : World) (hn : n = ls.length) (hl : ls.length ≤ 1000) (hr : Rd w1 w1.heap.size A (strs ls)) :
    Calls Try.prog 20 #[.slice A n c, .slice (some ⟨w1.heap.size, 0, none⟩) n n] (w1.alloc (.cells (strs ls).toArray 9)) fun e w' => e = .returned (.bool true) ∧ Below w1.heap.size w1 w' := by
  have hb := lits_below w1 ls
  refine (texts_same ls A (some ⟨w1.heap.size, 0, none⟩) n n c n _ _ hn hn (by omega) ((hr.below hb).more hb.size) (lits_rd' w1 ls)).mono fun e w' h => ⟨h.1, bt hb h.2.below⟩
/-- Compress of a row laid down for the call -/
theorem comp_lit (ls : List L) (n : Nat) (w1 : World) (hn : n = ls.length) (hl : ls.length ≤ 1000) (hs : ∀ x ∈ ls, x.length ≤ 1000000000) :
    Calls Try.prog 14 #[.slice (some ⟨w1.heap.size, 0, none⟩) n n] (w1.alloc (.cells (strs ls).toArray 9)) fun e w' => e = .returned (.tuple #[.string ⟨(compL ls).1.toArray⟩, .int .i64 ((compL ls).2 : Int)]) ∧ Below w1.heap.size w1 w' := by
  subst hn
  exact (comp_any ls _ ls.length _ (by omega) (lits_rd' w1 ls) fun i hi => hs _ (pl_mem hi)).mono fun e w' h => ⟨h.1, bt (lits_below w1 ls) h.2⟩

/-! ### TransitEnds -/
theorem ends_large (s a b : L) (w : World) (h2 : 600 < sumL [s, a, b]) (hm : sumL [s, a, b] ≤ 4000000000000000000) :
    Calls Try.prog 7 #[.string ⟨s.toArray⟩, .string ⟨a.toArray⟩, .string ⟨b.toArray⟩] w fun e w' => e = .returned (.bool true) ∧ Below w.heap.size w w' := by
  have HB := Lib.hid (lits_below w [s, a, b])
  have c2 := large_any [s, a, b] _ 3 3 _ _ rfl hm (lits_rd w [s, a, b])
  rw [decide_eq_true h2] at c2
  clear hm h2
  go_enter Try.func7, Try.ntmps7
  go_wp2_with (go_at_call 13; refine Calls.mono c2 ?_; rintro e w2 ⟨rfl, rfl⟩; clear c2)
  go_ret
  exact ⟨rfl, HB.out⟩
theorem ends_both (s a b : L) (w : World) (h2 : sumL [s, a, b] ≤ 600) (ha : isL a = true) (hb : isL b = true) :
    Calls Try.prog 7 #[.string ⟨s.toArray⟩, .string ⟨a.toArray⟩, .string ⟨b.toArray⟩] w fun e w' => e = .returned (.bool true) ∧ Below w.heap.size w w' := by
  have H := Lib.hid (lits_below w [s, a, b])
  have c2 := large_any [s, a, b] _ 3 3 _ _ rfl (by omega) (lits_rd w [s, a, b])
  rw [decide_eq_false (by omega)] at c2
  have h3 := sum_three s a b
  have i1 := fun w1 => ris_any a w1 (by omega)
  have i2 := fun w1 => ris_any b w1 (by omega)
  rw [ha] at i1
  rw [hb] at i2
  have I1 := Lib.hid i1
  have I2 := Lib.hid i2
  clear h2 h3 i1 i2 ha hb
  go_enter Try.func7, Try.ntmps7
  go_wp2_with (first
    | (go_at_call 13; refine Calls.mono c2 ?_; rintro e w2 ⟨rfl, rfl⟩; clear c2)
    | (go_at_call 23; with_reducible refine Calls.mono (I1.out _) ?_; rintro e w3 ⟨rfl, hb⟩; replace H := Lib.hid (H.out.trans (hb.mono H.out.size)); clear hb)
    | (go_at_call 23; with_reducible refine Calls.mono (I2.out _) ?_; rintro e w4 ⟨rfl, hb⟩; replace H := Lib.hid (H.out.trans (hb.mono H.out.size)); clear hb))
  go_ret
  exact ⟨rfl, H.out⟩
theorem ends_comp : compL [[69, 68, 85], [101, 100, 117]] = ([], 1) := by decide +kernel
set_option maxHeartbeats 1600000 in
theorem ends_not (s a b : L) (w : World) (h2 : sumL [s, a, b] ≤ 600) (h : isL a = false ∨ (isL a = true ∧ isL b = false)) :
    Calls Try.prog 7 #[.string ⟨s.toArray⟩, .string ⟨a.toArray⟩, .string ⟨b.toArray⟩] w fun e w' => e = .returned (.bool true) ∧ Below w.heap.size w w' := by
  have H := Lib.hid (lits_below w [s, a, b])
  have c2 := large_any [s, a, b] _ 3 3 _ _ rfl (by omega) (lits_rd w [s, a, b])
  rw [decide_eq_false (by omega)] at c2
  have h3 := sum_three s a b
  have i1 := fun w1 => ris_any a w1 (by omega)
  have i2 := fun w1 => ris_any b w1 (by omega)
  have p3 := fun w1 => exp_any s a b w1 (by omega) (by omega) (by omega)
  have p5 := fun w1 => ins_any s a b [69, 68, 85] w1 (by omega) (by omega) (by omega) (by decide)
  have hno : isL a = false ∨ isL b = false := h.elim .inl fun g => .inr g.2
  have hx := exp_no (s := s) hno
  rw [ins_err (by rw [hx]; simp), hx] at p5
  rw [hx] at p3
  have P3 := Lib.hid p3
  have P5 := Lib.hid p5
  have p6 := fun w1 => comp_lit [[69, 68, 85], [101, 100, 117]] 2 w1 rfl (by decide) (by decide)
  rw [ends_comp] at p6
  have P6 := Lib.hid p6
  have CK := Lib.hid (fun w1 => known_any w1)
  rcases h with h | ⟨h, h'⟩
  · rw [h] at i1
    have I1 := Lib.hid i1
    clear h2 h3 i1 i2 h hno hx p3 p5 p6
    go_enter Try.func7, Try.ntmps7
    go_wp2_with (first
      | (go_at_call 13; refine Calls.mono c2 ?_; rintro e w2 ⟨rfl, rfl⟩; clear c2)
      | (go_at_call 23; with_reducible refine Calls.mono (I1.out _) ?_; rintro e w3 ⟨rfl, hb⟩; replace H := Lib.hid (H.out.trans (hb.mono H.out.size)); clear hb)
      | (go_at_call 16; refine Calls.mono (P3.out _) ?_; rintro e w5 ⟨⟨v5, rfl, ho⟩, hb⟩; obtain ⟨A5, q5, rfl, _⟩ := ho.slice; replace H := Lib.hid (H.out.trans (hb.mono H.out.size)); clear ho hb)
      | (go_at_call 18; refine Calls.mono (P5.out _) ?_; rintro e w7 ⟨rfl, hb⟩; replace H := Lib.hid (H.out.trans (hb.mono H.out.size)); clear hb)
      | (go_at_call 14; refine Calls.mono (P6.out _) ?_; rintro e w8 ⟨rfl, hb⟩; replace H := Lib.hid (H.out.trans (hb.mono H.out.size)); clear hb)
      | (go_at_call 21; refine Calls.mono (CK.out _) ?_; rintro e w10 ⟨rfl, hb⟩; replace H := Lib.hid (H.out.trans (hb.mono H.out.size)); clear hb))
    go_ret
    exact ⟨rfl, H.out⟩
  · rw [h] at i1
    rw [h'] at i2
    have I1 := Lib.hid i1
    have I2 := Lib.hid i2
    clear h2 h3 i1 i2 h hno hx p3 p5 p6
    go_enter Try.func7, Try.ntmps7
    go_wp2_with (first
      | (go_at_call 13; refine Calls.mono c2 ?_; rintro e w2 ⟨rfl, rfl⟩; clear c2)
      | (go_at_call 23; with_reducible refine Calls.mono (I1.out _) ?_; rintro e w3 ⟨rfl, hb⟩; replace H := Lib.hid (H.out.trans (hb.mono H.out.size)); clear hb)
      | (go_at_call 23; with_reducible refine Calls.mono (I2.out _) ?_; rintro e w4 ⟨rfl, hb⟩; replace H := Lib.hid (H.out.trans (hb.mono H.out.size)); clear hb)
      | (go_at_call 16; refine Calls.mono (P3.out _) ?_; rintro e w5 ⟨⟨v5, rfl, ho⟩, hb⟩; obtain ⟨A5, q5, rfl, _⟩ := ho.slice; replace H := Lib.hid (H.out.trans (hb.mono H.out.size)); clear ho hb)
      | (go_at_call 18; refine Calls.mono (P5.out _) ?_; rintro e w7 ⟨rfl, hb⟩; replace H := Lib.hid (H.out.trans (hb.mono H.out.size)); clear hb)
      | (go_at_call 14; refine Calls.mono (P6.out _) ?_; rintro e w8 ⟨rfl, hb⟩; replace H := Lib.hid (H.out.trans (hb.mono H.out.size)); clear hb)
      | (go_at_call 21; refine Calls.mono (CK.out _) ?_; rintro e w10 ⟨rfl, hb⟩; replace H := Lib.hid (H.out.trans (hb.mono H.out.size)); clear hb))
    go_ret
    exact ⟨rfl, H.out⟩
theorem ends_ (s1 s2 s3 : ByteArray) (w : World) (h1 : s1.data.toList.length ≤ reachBytes) (h2 : s2.data.toList.length ≤ reachBytes) (h3 : s3.data.toList.length ≤ reachBytes) :
    Calls Try.prog 7 #[.string s1, .string s2, .string s3] w fun e w' => e = .returned (.bool true) ∧ Below w.heap.size w w' := by
  rw [reach_val] at h1 h2 h3
  obtain ⟨s, rfl⟩ : ∃ a : L, s1 = ⟨a.toArray⟩ := ⟨_, bytes_eta s1⟩
  obtain ⟨a, rfl⟩ : ∃ a : L, s2 = ⟨a.toArray⟩ := ⟨_, bytes_eta s2⟩
  obtain ⟨b, rfl⟩ : ∃ a : L, s3 = ⟨a.toArray⟩ := ⟨_, bytes_eta s3⟩
  simp only at h1 h2 h3
  have h5 := sum_three s a b
  by_cases hy : 600 < sumL [s, a, b]
  · exact ends_large s a b w hy (by omega)
  · cases ha : isL a with
    | false => exact ends_not s a b w (by omega) (.inl ha)
    | true =>
      cases hb : isL b with
      | false => exact ends_not s a b w (by omega) (.inr ⟨ha, hb⟩)
      | true => exact ends_both s a b w (by omega) ha hb

/-! ### TransitDots -/
theorem isA : isL [65] = true := by decide +kernel
theorem isB : isL [66] = true := by decide +kernel
theorem dots_long (p q : L) (w : World) (hs : 100 < p.length + q.length) (h1 : p.length ≤ 140737488351232) (h2 : q.length ≤ 140737488351232) :
    Calls Try.prog 9 #[.string ⟨p.toArray⟩, .string ⟨q.toArray⟩] w fun e w' => e = .returned (.bool true) ∧ Below w.heap.size w w' := by
  have e100 : (100 : Int) < (p.length : Int) + (q.length : Int) := by omega
  have HB := Lib.hid (Below.refl w.heap.size w)
  go_enter Try.func9, Try.ntmps9
  go_wp2
  go_ret
  exact ⟨rfl, HB.out⟩
theorem dots_kind (p q : L) (w : World) (hs : p.length + q.length ≤ 100) (h : kindL p ≠ 1 ∨ (kindL p = 1 ∧ kindL q ≠ 1)) :
    Calls Try.prog 9 #[.string ⟨p.toArray⟩, .string ⟨q.toArray⟩] w fun e w' => e = .returned (.bool true) ∧ Below w.heap.size w w' := by
  have e100 : ¬ (100 : Int) < (p.length : Int) + (q.length : Int) := by omega
  have k1 := fun w1 => rkind_any p w1 (by omega)
  have k2 := fun w1 => rkind_any q w1 (by omega)
  have H := Lib.hid (Below.refl w.heap.size w)
  rcases h with h | ⟨h, h'⟩
  · have t1 : ((kindL p : Int) != 1) = true := by simp; omega
    have K1 := Lib.hid k1
    clear k1 k2 h
    go_enter Try.func9, Try.ntmps9
    go_wp2_with (go_at_call 25; with_reducible refine Calls.mono (K1.out _) ?_; rintro e w1 ⟨rfl, hb⟩; replace H := Lib.hid (H.out.trans (hb.mono H.out.size)); clear hb)
    go_ret
    exact ⟨rfl, H.out⟩
  · rw [h] at k1
    have t1 : ((kindL q : Int) != 1) = true := by simp; omega
    have K1 := Lib.hid k1
    have K2 := Lib.hid k2
    clear k1 k2 h h'
    go_enter Try.func9, Try.ntmps9
    go_wp2_with (first
      | (go_at_call 25; with_reducible refine Calls.mono (K1.out _) ?_; rintro e w1 ⟨rfl, hb⟩; replace H := Lib.hid (H.out.trans (hb.mono H.out.size)); clear hb)
      | (go_at_call 25; with_reducible refine Calls.mono (K2.out _) ?_; rintro e w2 ⟨rfl, hb⟩; replace H := Lib.hid (H.out.trans (hb.mono H.out.size)); clear hb))
    go_ret
    exact ⟨rfl, H.out⟩
set_option maxHeartbeats 1600000 in
set_option maxRecDepth 100000 in
theorem dots_main (p q : L) (w : World) (hs : p.length + q.length ≤ 100) (hp : kindL p = 1) (hq : kindL q = 1) :
    Calls Try.prog 9 #[.string ⟨p.toArray⟩, .string ⟨q.toArray⟩] w fun e w' => e = .returned (.bool true) ∧ Below w.heap.size w w' := by
  have e100 : ¬ (100 : Int) < (p.length : Int) + (q.length : Int) := by omega
  have k1 := fun w1 => rkind_any p w1 (by omega)
  have k2 := fun w1 => rkind_any q w1 (by omega)
  rw [hp] at k1
  rw [hq] at k2
  have K1 := Lib.hid k1
  have K2 := Lib.hid k2
  have H := Lib.hid (Below.refl w.heap.size w)
  have m1 : ByteArray.mk q.toArray ++ ByteArray.mk #[46] ++ ByteArray.mk p.toArray = ByteArray.mk (q ++ [46] ++ p).toArray := by rw [show ByteArray.mk #[46] = ByteArray.mk ([46] : L).toArray from rfl, mk_append, mk_append]
  have m2 : ByteArray.mk p.toArray ++ ByteArray.mk #[44] ++ ByteArray.mk q.toArray ++ ByteArray.mk #[46] = ByteArray.mk (p ++ [44] ++ q ++ [46]).toArray := by
    rw [show ByteArray.mk #[46] = ByteArray.mk ([46] : L).toArray from rfl, show ByteArray.mk #[44] = ByteArray.mk ([44] : L).toArray from rfl, mk_append, mk_append, mk_append]
  have p3 := fun w1 => exp_any (p ++ [44] ++ q ++ [46]) [65] [66] w1 (by simp; omega) (by decide) (by decide)
  rw [dots_exp isA isB hp hq] at p3
  have hrl : (q ++ [46] ++ p).length ≤ 1000000000 := by simp; omega
  have hc := fun hr => dots_comp (label := q) hp hr
  obtain ⟨R, eR⟩ : ∃ R, R = q ++ [46] ++ p := ⟨_, rfl⟩
  obtain ⟨S, eS⟩ : ∃ S, S = p ++ [44] ++ q ++ [46] := ⟨_, rfl⟩
  rw [← eR] at m1 p3 hrl hc
  rw [← eS] at m2 p3 hc
  have i1 := fun w1 => ris_any R w1 hrl
  have CK := Lib.hid (fun w1 => known_any w1)
  clear eR eS
  cases hr : isL R with
  | false =>
    rw [hr] at i1
    rw [hr] at p3
    have I1 := Lib.hid i1
    have P3 := Lib.hid (show ∀ w1, Calls Try.prog 16 #[.string ⟨S.toArray⟩, .string ⟨#[65]⟩, .string ⟨#[66]⟩] w1 fun e w' => ExpV w' w1.heap.size e ([], 2) ∧ Below w1.heap.size w1 w' from p3)
    clear k1 k2 hp hq p3 i1 hr hrl hc
    go_enter Try.func9, Try.ntmps9
    go_wp2_with (first
      | (go_at_call 25; with_reducible refine Calls.mono (K1.out _) ?_; rintro e w1 ⟨rfl, hb⟩; replace H := Lib.hid (H.out.trans (hb.mono H.out.size)); clear hb)
      | (go_at_call 25; with_reducible refine Calls.mono (K2.out _) ?_; rintro e w2 ⟨rfl, hb⟩; replace H := Lib.hid (H.out.trans (hb.mono H.out.size)); clear hb)
      | (go_at_call 16; refine Calls.mono (P3.out _) ?_; rintro e w5 ⟨⟨v5, rfl, ho⟩, hb⟩; obtain ⟨A5, q5, rfl, _⟩ := ho.slice; replace H := Lib.hid (H.out.trans (hb.mono H.out.size)); clear ho hb)
      | (go_at_call 23; refine Calls.mono (I1.out _) ?_; rintro e w6 ⟨rfl, hb⟩; replace H := Lib.hid (H.out.trans (hb.mono H.out.size)); clear hb)
      | (go_at_call 21; refine Calls.mono (CK.out _) ?_; rintro e w10 ⟨rfl, hb⟩; replace H := Lib.hid (H.out.trans (hb.mono H.out.size)); clear hb))
    go_ret
    exact ⟨rfl, H.out⟩
  | true =>
    rw [hr] at i1
    rw [hr] at p3
    have I1 := Lib.hid i1
    have P3 := Lib.hid (show ∀ w1, Calls Try.prog 16 #[.string ⟨S.toArray⟩, .string ⟨#[65]⟩, .string ⟨#[66]⟩] w1 fun e w' => ExpV w' w1.heap.size e ([p, R], 0) ∧ Below w1.heap.size w1 w' from p3)
    have p6 := fun w1 => comp_lit [p, R] 2 w1 rfl (by simp) (fun x hx => by
      rcases List.mem_cons.1 hx with g | g
      · rw [g]; omega
      · simp only [List.mem_singleton] at g; rw [g]; exact hrl)
    rw [hc hr] at p6
    have P6 := Lib.hid p6
    have X9 := Lib.hid (fun w1 A c h1 => texts_lit [p, R] A 2 c w1 rfl (by simp) h1)
    clear k1 k2 hp hq p3 i1 hr hc p6
    go_enter Try.func9, Try.ntmps9
    go_wp2_with (first
      | (go_at_call 25; with_reducible refine Calls.mono (K1.out _) ?_; rintro e w1 ⟨rfl, hb⟩; replace H := Lib.hid (H.out.trans (hb.mono H.out.size)); clear hb)
      | (go_at_call 25; with_reducible refine Calls.mono (K2.out _) ?_; rintro e w2 ⟨rfl, hb⟩; replace H := Lib.hid (H.out.trans (hb.mono H.out.size)); clear hb)
      | (go_at_call 16; refine Calls.mono (P3.out _) ?_; rintro e w5 ⟨⟨v5, rfl, ho⟩, hb⟩; obtain ⟨A5, q5, rfl, r5⟩ := ho.slice; have R5 := Lib.hid r5; replace H := Lib.hid (H.out.trans (hb.mono H.out.size)); clear ho hb r5)
      | (go_at_call 23; refine Calls.mono (I1.out _) ?_; rintro e w6 ⟨rfl, hb⟩; replace H := Lib.hid (H.out.trans (hb.mono H.out.size)); replace R5 := Lib.hid ((R5.out.below hb).more hb.size); clear hb)
      | (go_at_call 14; refine Calls.mono (P6.out _) ?_; rintro e w7 ⟨rfl, hb⟩; replace H := Lib.hid (H.out.trans (hb.mono H.out.size)); replace R5 := Lib.hid ((R5.out.below hb).more hb.size); clear hb)
      | (go_at_call 20; refine Calls.mono (X9.out _ _ _ R5.out) ?_; rintro e w9 ⟨rfl, hb⟩; replace H := Lib.hid (H.out.trans (hb.mono H.out.size)); clear hb)
      | (go_at_call 21; refine Calls.mono (CK.out _) ?_; rintro e w10 ⟨rfl, hb⟩; replace H := Lib.hid (H.out.trans (hb.mono H.out.size)); clear hb))
    go_ret
    exact ⟨rfl, H.out⟩
theorem dots_ (s1 s2 : ByteArray) (w : World) (h1 : s1.data.toList.length ≤ reachBytes) (h2 : s2.data.toList.length ≤ reachBytes) :
    Calls Try.prog 9 #[.string s1, .string s2] w fun e w' => e = .returned (.bool true) ∧ Below w.heap.size w w' := by
  rw [reach_val] at h1 h2
  obtain ⟨p, rfl⟩ : ∃ a : L, s1 = ⟨a.toArray⟩ := ⟨_, bytes_eta s1⟩
  obtain ⟨q, rfl⟩ : ∃ a : L, s2 = ⟨a.toArray⟩ := ⟨_, bytes_eta s2⟩
  simp only at h1 h2
  by_cases h : p.length + q.length ≤ 100
  · by_cases hp : kindL p = 1
    · by_cases hq : kindL q = 1
      · exact dots_main p q w h hp hq
      · exact dots_kind p q w h (.inr ⟨hp, hq⟩)
    · exact dots_kind p q w h (.inl hp)
  · exact dots_long p q w (by omega) h1 h2
end Go.Proofs.Ytmgbhkhkbebfpaa.TrW
