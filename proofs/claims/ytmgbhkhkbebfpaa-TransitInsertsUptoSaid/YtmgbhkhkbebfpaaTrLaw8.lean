/-
  TransitInserts walked, of texts and rows of at most 1048576.
-/
import Derived.Test.YtmgbhkhkbebfpaaTrLaw6
import Derived.Test.YtmgbhkhkbebfpaaTrRefI
set_option linter.unusedVariables false
namespace Go.Proofs.Ytmgbhkhkbebfpaa.TrW
open Go.RowKit Go.Proofs.Ytmgbhkhkbebfpaa.Mem Go.Proofs.Ytmgbhkhkbebfpaa.Nm Go.Proofs.Ytmgbhkhkbebfpaa.Tr

section
variable {w : World} {ops : Array Oper} {rest : List Oper} {o : Oper} {a : Act} {Q : Exit → Act → World → Prop}
theorem wpList_want {P : Program} (hw : Region.wanted o (yielded ops a.tmps) = true)
    (h : ∀ K : Act → World → Prop, (∀ a w, wpList P ops Q rest a w → K a w) → o.wp P a w K Q) : wpList P ops Q (o :: rest) a w :=
  wpList_step fun K hK => by rw [if_pos hw]; exact h K hK
/-- append of a row that reads, in a guarded place -/
theorem app_rd_g (hw : Region.wanted o (yielded ops a.tmps) = true) (s x : Operand) (ho : o.op = .call { callee := .builtin .append, args := #[s, x], argTypes := #[22, 22] })
    (base : Nat) (v : Value) (ls : List L) (hs : a.eval s = v) (hown : Own w base v ls) (B : Nat) (A : Option Addr) (c : Nat) (ms : List L) (hx : a.eval x = .slice A ms.length c) (hr : Rd w B A (strs ms))
    (hl : ls.length + ms.length ≤ 8000000000000) (hb : base ≤ w.heap.size)
    (h : ∀ v' w', Own w' base v' (ls ++ ms) → Below base w w' → wpList Try.prog ops Q rest (a.put o.dst v') w') : wpList Try.prog ops Q (o :: rest) a w := by
  obtain ⟨i0, hi0, hz0, hs0, hb0⟩ := info_parts str_info
  refine wpList_want hw fun K hK => wp_append_rd w s x 22 ho base 9 i0 _ 16 Try.underlying22 hi0 hz0 hs0 hb0 rfl v ls.length (strs ls) hs hown B A ms.length c (strs ms) hx (strs_length _).symm hr (strs_one _) (by unfold maxLen; omega) (by omega) hb ?_
  intro v' w' h1 h2 _
  refine hK _ _ (h v' w' (by rw [Own, List.length_append, strs_append]; exact h1) ?_)
  exact (Below.refl _ _).grown h2 hb (fun k hk => (hown.lt k hk).1)
/-- append of one text, in a guarded place -/
theorem app_one_g (hw : Region.wanted o (yielded ops a.tmps) = true) (s x : Operand) (ho : o.op = .call { callee := .builtin .append, args := #[s, x], argTypes := #[22, 22] })
    (base : Nat) (v : Value) (ls : List L) (hs : a.eval s = v) (hown : Own w base v ls) (r : L) (hx : a.eval x = .slice (some ⟨w.heap.size, 0, none⟩) 1 1)
    (hl : ls.length + 1 ≤ 8000000000000) (hb : base ≤ w.heap.size)
    (h : ∀ v' w', Own w' base v' (ls ++ [r]) → Below base w w' → wpList Try.prog ops Q rest (a.put o.dst v') w') : wpList Try.prog ops Q (o :: rest) a (w.alloc (.cells #[.string ⟨r.toArray⟩] 9)) := by
  have hr := lits_rd w [r]
  refine app_rd_g hw s x ho base v ls hs (hown.below (lits_below w [r])) (w.heap.size + 1) _ 1 [r] hx hr hl (by simp; omega) ?_
  intro v' w' h1 h2
  exact h v' w' h1 (((Below.refl _ _).alloc hb _).trans h2)
end

set_option maxHeartbeats 1600000 in
theorem inserts_bad (l : List L) (A : Option Addr) (c : Nat) (a b r : L) (w : World) (hr : Rd w w.heap.size A (strs l)) (hl : l.length ≤ 1048576) (hx : ∀ x ∈ l, x.length ≤ 1048576) (h : (onceR l).2 = false) :
    Calls Try.prog 5 #[.slice A l.length c, .string ⟨a.toArray⟩, .string ⟨b.toArray⟩, .string ⟨r.toArray⟩] w fun e w' => e = .returned (.bool true) ∧ Below w.heap.size w w' := by
  have c1 := once_any l A c w hl hr (fun i hi => by have := hx _ (pl_mem hi); omega)
  rw [h] at c1
  clear hr hl hx h
  go_enter Try.func5, Try.ntmps5
  go_wp2_with (go_at_call 22; refine Calls.mono c1 ?_; rintro e w1 ⟨v1, rfl, ho, hb⟩; have H := Lib.hid hb; clear c1 ho hb)
  go_ret
  exact ⟨rfl, H.out⟩
set_option maxHeartbeats 1600000 in
theorem inserts_large (l : List L) (A : Option Addr) (c : Nat) (a b r : L) (w : World) (hr : Rd w w.heap.size A (strs l)) (hl : l.length ≤ 1048576) (hx : ∀ x ∈ l, x.length ≤ 1048576) (hall : l.all isL = true) (h8 : (onceL l).length ≤ 8) (h : onceR l = (onceL l, true)) (h6 : 600 < sumL l) :
    Calls Try.prog 5 #[.slice A l.length c, .string ⟨a.toArray⟩, .string ⟨b.toArray⟩, .string ⟨r.toArray⟩] w fun e w' => e = .returned (.bool true) ∧ Below w.heap.size w w' := by
  have c1 := once_any l A c w hl hr (fun i hi => by have := hx _ (pl_mem hi); omega)
  rw [h] at c1
  have g1 := fun w1 B hr1 => large_any l A l.length c B w1 rfl (sum_real hall hl) hr1
  have HR := Lib.hid hr
  rw [decide_eq_true h6] at g1
  have G1 := Lib.hid g1
  clear hr hl hx h hall h8 h6 g1
  go_enter Try.func5, Try.ntmps5
  go_wp2_with (first
    | (go_at_call 22; refine Calls.mono c1 ?_; rintro e w1 ⟨v1, rfl, ho, hb⟩; have H := Lib.hid hb; have R0 := Lib.hid (HR.out.below hb); obtain ⟨A1, q1, rfl, r1⟩ := ho.slice; have R1 := Lib.hid r1; clear c1 ho hb r1)
    | (go_at_call 13; refine Calls.mono (G1.out _ _ R0.out) ?_; rintro e w2 ⟨rfl, rfl⟩; clear G1))
  go_ret
  exact ⟨rfl, H.out⟩
set_option maxHeartbeats 1600000 in
theorem inserts_large2 (l : List L) (A : Option Addr) (c : Nat) (a b r : L) (w : World) (hr : Rd w w.heap.size A (strs l)) (hl : l.length ≤ 1048576) (hx : ∀ x ∈ l, x.length ≤ 1048576) (hall : l.all isL = true) (h8 : (onceL l).length ≤ 8) (h : onceR l = (onceL l, true)) (h6 : sumL l ≤ 600) (h7 : 600 < sumL [a, b, r]) (h9 : sumL [a, b, r] ≤ 4000000000000000000) :
    Calls Try.prog 5 #[.slice A l.length c, .string ⟨a.toArray⟩, .string ⟨b.toArray⟩, .string ⟨r.toArray⟩] w fun e w' => e = .returned (.bool true) ∧ Below w.heap.size w w' := by
  have c1 := once_any l A c w hl hr (fun i hi => by have := hx _ (pl_mem hi); omega)
  rw [h] at c1
  have g1 := fun w1 B hr1 => large_any l A l.length c B w1 rfl (sum_real hall hl) hr1
  have HR := Lib.hid hr
  rw [decide_eq_false (by omega)] at g1
  have G1 := Lib.hid g1
  have g2 := fun w1 => large_any [a, b, r] _ 3 3 _ _ rfl h9 (lits_rd w1 [a, b, r])
  rw [decide_eq_true h7] at g2
  have G2 := Lib.hid g2
  clear hr hl hx h hall h8 h6 g1 g2 h7 h9
  go_enter Try.func5, Try.ntmps5
  go_wp2_with (first
    | (go_at_call 22; refine Calls.mono c1 ?_; rintro e w1 ⟨v1, rfl, ho, hb⟩; have H := Lib.hid hb; have R0 := Lib.hid (HR.out.below hb); obtain ⟨A1, q1, rfl, r1⟩ := ho.slice; have R1 := Lib.hid r1; clear c1 ho hb r1)
    | (go_at_call 13; refine Calls.mono (G1.out _ _ R0.out) ?_; rintro e w2 ⟨rfl, rfl⟩; clear G1)
    | (go_at_call 13; refine Calls.mono (G2.out _) ?_; rintro e w3 ⟨rfl, rfl⟩; clear G2; replace H := Lib.hid (H.out.trans ((lits_below w1 [a, b, r]).mono H.out.size)); replace R1 := Lib.hid ((R1.out.below (lits_below w1 [a, b, r])).more (lits_below w1 [a, b, r]).size)))
  go_ret
  exact ⟨rfl, H.out⟩
set_option maxHeartbeats 1600000 in
theorem inserts_is1 (l : List L) (A : Option Addr) (c : Nat) (a b r : L) (w : World) (hr : Rd w w.heap.size A (strs l)) (hl : l.length ≤ 1048576) (hx : ∀ x ∈ l, x.length ≤ 1048576) (hall : l.all isL = true) (h8 : (onceL l).length ≤ 8) (h : onceR l = (onceL l, true)) (h6 : sumL l ≤ 600) (h7 : sumL [a, b, r] ≤ 600) (h1 : isL a = false) :
    Calls Try.prog 5 #[.slice A l.length c, .string ⟨a.toArray⟩, .string ⟨b.toArray⟩, .string ⟨r.toArray⟩] w fun e w' => e = .returned (.bool true) ∧ Below w.heap.size w w' := by
  have c1 := once_any l A c w hl hr (fun i hi => by have := hx _ (pl_mem hi); omega)
  rw [h] at c1
  have g1 := fun w1 B hr1 => large_any l A l.length c B w1 rfl (sum_real hall hl) hr1
  have HR := Lib.hid hr
  rw [decide_eq_false (by omega)] at g1
  have G1 := Lib.hid g1
  have g2 := fun w1 => large_any [a, b, r] _ 3 3 _ _ rfl (by omega) (lits_rd w1 [a, b, r])
  rw [decide_eq_false (by omega)] at g2
  have G2 := Lib.hid g2
  have h3 := sum_three a b r
  have i1 := fun w1 => ris_any a w1 (by omega)
  have i2 := fun w1 => ris_any b w1 (by omega)
  have i3 := fun w1 => ris_any r w1 (by omega)
  rw [h1] at i1
  have I1 := Lib.hid i1
  clear hr hl hx h hall h8 h6 g1 g2 h7 h3 i1 i2 i3 h1
  go_enter Try.func5, Try.ntmps5
  go_wp2_with (first
    | (go_at_call 22; refine Calls.mono c1 ?_; rintro e w1 ⟨v1, rfl, ho, hb⟩; have H := Lib.hid hb; have R0 := Lib.hid (HR.out.below hb); obtain ⟨A1, q1, rfl, r1⟩ := ho.slice; have R1 := Lib.hid r1; clear c1 ho hb r1)
    | (go_at_call 13; refine Calls.mono (G1.out _ _ R0.out) ?_; rintro e w2 ⟨rfl, rfl⟩; clear G1)
    | (go_at_call 13; refine Calls.mono (G2.out _) ?_; rintro e w3 ⟨rfl, rfl⟩; clear G2; replace H := Lib.hid (H.out.trans ((lits_below w1 [a, b, r]).mono H.out.size)); replace R1 := Lib.hid ((R1.out.below (lits_below w1 [a, b, r])).more (lits_below w1 [a, b, r]).size))
    | (go_at_call 23; with_reducible refine Calls.mono (I1.out _) ?_; rintro e w4 ⟨rfl, hb⟩; clear I1; replace H := Lib.hid (H.out.trans (hb.mono H.out.size)); replace R1 := Lib.hid ((R1.out.below hb).more hb.size); clear hb))
  go_ret
  exact ⟨rfl, H.out⟩
set_option maxHeartbeats 1600000 in
theorem inserts_is2 (l : List L) (A : Option Addr) (c : Nat) (a b r : L) (w : World) (hr : Rd w w.heap.size A (strs l)) (hl : l.length ≤ 1048576) (hx : ∀ x ∈ l, x.length ≤ 1048576) (hall : l.all isL = true) (h8 : (onceL l).length ≤ 8) (h : onceR l = (onceL l, true)) (h6 : sumL l ≤ 600) (h7 : sumL [a, b, r] ≤ 600) (h1 : isL a = true) (h2 : isL b = false) :
    Calls Try.prog 5 #[.slice A l.length c, .string ⟨a.toArray⟩, .string ⟨b.toArray⟩, .string ⟨r.toArray⟩] w fun e w' => e = .returned (.bool true) ∧ Below w.heap.size w w' := by
  have c1 := once_any l A c w hl hr (fun i hi => by have := hx _ (pl_mem hi); omega)
  rw [h] at c1
  have g1 := fun w1 B hr1 => large_any l A l.length c B w1 rfl (sum_real hall hl) hr1
  have HR := Lib.hid hr
  rw [decide_eq_false (by omega)] at g1
  have G1 := Lib.hid g1
  have g2 := fun w1 => large_any [a, b, r] _ 3 3 _ _ rfl (by omega) (lits_rd w1 [a, b, r])
  rw [decide_eq_false (by omega)] at g2
  have G2 := Lib.hid g2
  have h3 := sum_three a b r
  have i1 := fun w1 => ris_any a w1 (by omega)
  have i2 := fun w1 => ris_any b w1 (by omega)
  have i3 := fun w1 => ris_any r w1 (by omega)
  rw [h1] at i1
  rw [h2] at i2
  have I1 := Lib.hid i1
  have I2 := Lib.hid i2
  clear hr hl hx h hall h8 h6 g1 g2 h7 h3 i1 i2 i3 h1 h2
  go_enter Try.func5, Try.ntmps5
  go_wp2_with (first
    | (go_at_call 22; refine Calls.mono c1 ?_; rintro e w1 ⟨v1, rfl, ho, hb⟩; have H := Lib.hid hb; have R0 := Lib.hid (HR.out.below hb); obtain ⟨A1, q1, rfl, r1⟩ := ho.slice; have R1 := Lib.hid r1; clear c1 ho hb r1)
    | (go_at_call 13; refine Calls.mono (G1.out _ _ R0.out) ?_; rintro e w2 ⟨rfl, rfl⟩; clear G1)
    | (go_at_call 13; refine Calls.mono (G2.out _) ?_; rintro e w3 ⟨rfl, rfl⟩; clear G2; replace H := Lib.hid (H.out.trans ((lits_below w1 [a, b, r]).mono H.out.size)); replace R1 := Lib.hid ((R1.out.below (lits_below w1 [a, b, r])).more (lits_below w1 [a, b, r]).size))
    | (go_at_call 23; with_reducible refine Calls.mono (I1.out _) ?_; rintro e w4 ⟨rfl, hb⟩; clear I1; replace H := Lib.hid (H.out.trans (hb.mono H.out.size)); replace R1 := Lib.hid ((R1.out.below hb).more hb.size); clear hb)
    | (go_at_call 23; with_reducible refine Calls.mono (I2.out _) ?_; rintro e w5 ⟨rfl, hb⟩; clear I2; replace H := Lib.hid (H.out.trans (hb.mono H.out.size)); replace R1 := Lib.hid ((R1.out.below hb).more hb.size); clear hb))
  go_ret
  exact ⟨rfl, H.out⟩
set_option maxHeartbeats 1600000 in
theorem inserts_is3 (l : List L) (A : Option Addr) (c : Nat) (a b r : L) (w : World) (hr : Rd w w.heap.size A (strs l)) (hl : l.length ≤ 1048576) (hx : ∀ x ∈ l, x.length ≤ 1048576) (hall : l.all isL = true) (h8 : (onceL l).length ≤ 8) (h : onceR l = (onceL l, true)) (h6 : sumL l ≤ 600) (h7 : sumL [a, b, r] ≤ 600) (h1 : isL a = true) (h2 : isL b = true) (h4 : isL r = false) :
    Calls Try.prog 5 #[.slice A l.length c, .string ⟨a.toArray⟩, .string ⟨b.toArray⟩, .string ⟨r.toArray⟩] w fun e w' => e = .returned (.bool true) ∧ Below w.heap.size w w' := by
  have c1 := once_any l A c w hl hr (fun i hi => by have := hx _ (pl_mem hi); omega)
  rw [h] at c1
  have g1 := fun w1 B hr1 => large_any l A l.length c B w1 rfl (sum_real hall hl) hr1
  have HR := Lib.hid hr
  rw [decide_eq_false (by omega)] at g1
  have G1 := Lib.hid g1
  have g2 := fun w1 => large_any [a, b, r] _ 3 3 _ _ rfl (by omega) (lits_rd w1 [a, b, r])
  rw [decide_eq_false (by omega)] at g2
  have G2 := Lib.hid g2
  have h3 := sum_three a b r
  have i1 := fun w1 => ris_any a w1 (by omega)
  have i2 := fun w1 => ris_any b w1 (by omega)
  have i3 := fun w1 => ris_any r w1 (by omega)
  rw [h1] at i1
  rw [h2] at i2
  rw [h4] at i3
  have I1 := Lib.hid i1
  have I2 := Lib.hid i2
  have I3 := Lib.hid i3
  clear hr hl hx h hall h8 h6 g1 g2 h7 h3 i1 i2 i3 h1 h2 h4
  go_enter Try.func5, Try.ntmps5
  go_wp2_with (first
    | (go_at_call 22; refine Calls.mono c1 ?_; rintro e w1 ⟨v1, rfl, ho, hb⟩; have H := Lib.hid hb; have R0 := Lib.hid (HR.out.below hb); obtain ⟨A1, q1, rfl, r1⟩ := ho.slice; have R1 := Lib.hid r1; clear c1 ho hb r1)
    | (go_at_call 13; refine Calls.mono (G1.out _ _ R0.out) ?_; rintro e w2 ⟨rfl, rfl⟩; clear G1)
    | (go_at_call 13; refine Calls.mono (G2.out _) ?_; rintro e w3 ⟨rfl, rfl⟩; clear G2; replace H := Lib.hid (H.out.trans ((lits_below w1 [a, b, r]).mono H.out.size)); replace R1 := Lib.hid ((R1.out.below (lits_below w1 [a, b, r])).more (lits_below w1 [a, b, r]).size))
    | (go_at_call 23; with_reducible refine Calls.mono (I1.out _) ?_; rintro e w4 ⟨rfl, hb⟩; clear I1; replace H := Lib.hid (H.out.trans (hb.mono H.out.size)); replace R1 := Lib.hid ((R1.out.below hb).more hb.size); clear hb)
    | (go_at_call 23; with_reducible refine Calls.mono (I2.out _) ?_; rintro e w5 ⟨rfl, hb⟩; clear I2; replace H := Lib.hid (H.out.trans (hb.mono H.out.size)); replace R1 := Lib.hid ((R1.out.below hb).more hb.size); clear hb)
    | (go_at_call 23; with_reducible refine Calls.mono (I3.out _) ?_; rintro e w6 ⟨rfl, hb⟩; clear I3; replace H := Lib.hid (H.out.trans (hb.mono H.out.size)); replace R1 := Lib.hid ((R1.out.below hb).more hb.size); clear hb))
  go_ret
  exact ⟨rfl, H.out⟩
set_option maxHeartbeats 3200000 in
set_option maxRecDepth 100000 in
theorem inserts_a (l : List L) (A : Option Addr) (c : Nat) (a b r : L) (w : World) (hr : Rd w w.heap.size A (strs l)) (hl : l.length ≤ 1048576) (hx : ∀ x ∈ l, x.length ≤ 1048576) (hall : l.all isL = true) (h8 : (onceL l).length ≤ 8) (h : onceR l = (onceL l, true)) (h6 : sumL l ≤ 600) (h7 : sumL [a, b, r] ≤ 600) (h1 : isL a = true) (h2 : isL b = true) (h4 : isL r = true) (hcase : r = a) :
    Calls Try.prog 5 #[.slice A l.length c, .string ⟨a.toArray⟩, .string ⟨b.toArray⟩, .string ⟨r.toArray⟩] w fun e w' => e = .returned (.bool true) ∧ Below w.heap.size w w' := by
  have c1 := once_any l A c w hl hr (fun i hi => by have := hx _ (pl_mem hi); omega)
  rw [h] at c1
  have g1 := fun w1 B hr1 => large_any l A l.length c B w1 rfl (sum_real hall hl) hr1
  have HR := Lib.hid hr
  rw [decide_eq_false (by omega)] at g1
  have G1 := Lib.hid g1
  have g2 := fun w1 => large_any [a, b, r] _ 3 3 _ _ rfl (by omega) (lits_rd w1 [a, b, r])
  rw [decide_eq_false (by omega)] at g2
  have G2 := Lib.hid g2
  have h3 := sum_three a b r
  have i1 := fun w1 => ris_any a w1 (by omega)
  have i2 := fun w1 => ris_any b w1 (by omega)
  have i3 := fun w1 => ris_any r w1 (by omega)
  rw [h1] at i1
  rw [h2] at i2
  rw [h4] at i3
  have I1 := Lib.hid i1
  have I2 := Lib.hid i2
  have I3 := Lib.hid i3
  have hma := once_all hall
  have hmn := once_nodup l
  obtain ⟨m, em⟩ : ∃ m, m = onceL l := ⟨_, rfl⟩
  rw [← em] at c1 h8 hma hmn
  have hco := comp_ok hma h8
  have hcl := comp_len hma
  have hib := ins_back hma hmn h8 h1 h2 h4
  have hka : (m ++ [r]).all isL = true := by rw [List.all_append, hma]; simp [h4]
  have hok := once_ok hka
  have hoa : onceL (m ++ [r]) = addL m r := by rw [onceL, adds_append]; show addL (addsL [] m) r = _; rw [show addsL [] m = m from once_of_nodup hmn]
  have hkc := fun (hg : 8 < (m ++ [r]).length) => comp_full hka hg
  have hkd := fun (hg : (m ++ [r]).length ≤ 8) => comp_ok hka hg
  have hkl : (m ++ [r]).length = m.length + 1 := by simp
  have hkb := fun (hrm : r ∉ m) (hg : (m ++ [r]).length ≤ 8) => back_all hka (by
    rw [List.nodup_append]
    exact ⟨hmn, by simp, fun x hx y hy => by simp at hy; subst hy; rintro rfl; exact hrm hx⟩) hg h1 h2
  have hkn := comp_len hka
  have hkx : ∀ i, i < (m ++ [r]).length → (pl (m ++ [r]) i).length ≤ 1000000000 := fun i hi => by have := real_len (all_isL hka (pl_mem hi)); omega
  have p1 := fun A c w1 hr1 => rcomp_any m A c w1 (by omega) hr1 (fun i hi => by have := real_len (all_isL hma (pl_mem hi)); omega)
  rw [hco] at p1
  have P1 := Lib.hid p1
  obtain ⟨S, eS⟩ : ∃ S, S = compT m := ⟨_, rfl⟩
  rw [← eS] at P1 hib hcl
  have p2 := fun w1 => ins_any S a b r w1 (by omega) (by omega) (by omega) (by omega)
  obtain ⟨K, eK⟩ : ∃ K, K = m ++ [r] := ⟨_, rfl⟩
  rw [← eK] at hib hka hok hoa hkc hkd hkl hkb hkn hkx
  have o2 := fun A c w1 hr1 => once_any K A c w1 (by omega) hr1 hkx
  rw [hok] at o2
  have CK := Lib.hid (fun w1 => known_any w1)
  have EK := Lib.hid eK
  have HM8 := Lib.hid h8
  have HN := Lib.hid (show w.heap.size ≤ w.heap.size from Nat.le_refl _)
  clear em eS eK hok
  rw [hib, if_pos (.inl hcase)] at p2
  have t1 : (r == a) = true := by simpa using hcase
  clear hcase
  have P2 := Lib.hid p2
  have O2 := Lib.hid o2
  clear hr hl hx h hall h8 h6 g1 g2 h7 h3 i1 i2 i3 h1 h2 h4 hma hmn hco hcl hib hka hoa hkc hkd hkl hkb hkn hkx p1 p2 o2
  go_enter Try.func5, Try.ntmps5
  go_wp2_with (first
    | (go_at_call 22; refine Calls.mono c1 ?_; rintro e w1 ⟨v1, rfl, ho, hb⟩; have H := Lib.hid hb; have R0 := Lib.hid (HR.out.below hb); obtain ⟨A1, q1, rfl, r1⟩ := ho.slice; have R1 := Lib.hid r1; clear c1 ho hb r1)
    | (go_at_call 13; refine Calls.mono (G1.out _ _ R0.out) ?_; rintro e w2 ⟨rfl, rfl⟩; clear G1)
    | (go_at_call 13; refine Calls.mono (G2.out _) ?_; rintro e w3 ⟨rfl, rfl⟩; clear G2; replace H := Lib.hid (H.out.trans ((lits_below w1 [a, b, r]).mono H.out.size)); replace R1 := Lib.hid ((R1.out.below (lits_below w1 [a, b, r])).more (lits_below w1 [a, b, r]).size))
    | (go_at_call 23; with_reducible refine Calls.mono (I1.out _) ?_; rintro e w4 ⟨rfl, hb⟩; clear I1; replace H := Lib.hid (H.out.trans (hb.mono H.out.size)); replace R1 := Lib.hid ((R1.out.below hb).more hb.size); clear hb)
    | (go_at_call 23; with_reducible refine Calls.mono (I2.out _) ?_; rintro e w5 ⟨rfl, hb⟩; clear I2; replace H := Lib.hid (H.out.trans (hb.mono H.out.size)); replace R1 := Lib.hid ((R1.out.below hb).more hb.size); clear hb)
    | (go_at_call 23; with_reducible refine Calls.mono (I3.out _) ?_; rintro e w6 ⟨rfl, hb⟩; clear I3; replace H := Lib.hid (H.out.trans (hb.mono H.out.size)); replace R1 := Lib.hid ((R1.out.below hb).more hb.size); clear hb)
    | (go_at_call 15; refine Calls.mono (P1.out _ _ _ R1.out) ?_; rintro e w7 ⟨rfl, hb⟩; replace H := Lib.hid (H.out.trans (hb.mono H.out.size)); replace R1 := Lib.hid ((R1.out.below hb).more hb.size); clear hb)
    | (go_at_call 18; refine Calls.mono (P2.out _) ?_; rintro e w8 ⟨rfl, hb⟩; replace H := Lib.hid (H.out.trans (hb.mono H.out.size)); replace R1 := Lib.hid ((R1.out.below hb).more hb.size); have HL := Lib.hid (own_lits w8 w8.heap.size [] (Nat.le_refl _) (by simp)); have Q := Lib.hid (lits_below w8 []); clear hb)
    | (at_builtin; refine app_rd rfl (.tmp 66) (.tmp 67) rfl w8.heap.size _ [] rfl HL.out _ A1 q1 m rfl (R1.out.below Q.out) (by have := HM8.out; simp; omega) Q.out.size ?_; intro v9 w9 ho hb; have HO := Lib.hid ho; replace Q := Lib.hid (Q.out.trans hb); clear ho hb HL)
    | (at_builtin; refine app_one rfl (.tmp 68) (.tmp 70) rfl w8.heap.size _ _ rfl HO.out r rfl (by have := HM8.out; simp; omega) Q.out.size ?_; intro v10 w10 ho hb; rw [List.nil_append, ← EK.out] at ho; obtain ⟨A10, q10, rfl, r0⟩ := ho.slice; have R10 := Lib.hid r0; replace Q := Lib.hid (Q.out.trans hb); replace R1 := Lib.hid ((R1.out.below Q.out).more Q.out.size); replace H := Lib.hid (H.out.trans (Q.out.mono H.out.size)); clear ho hb r0 HO Q)
    | (go_at_call 22; refine Calls.mono (O2.out _ _ _ R10.out) ?_; rintro e w11 ⟨v11, rfl, ho, hb⟩; obtain ⟨A11, q11, rfl, _⟩ := ho.slice; replace H := Lib.hid (H.out.trans (hb.mono H.out.size)); replace R1 := Lib.hid ((R1.out.below hb).more hb.size); clear ho hb R10)
    | (go_at_call 21; refine Calls.mono (CK.out _) ?_; rintro e w16 ⟨rfl, hb⟩; replace H := Lib.hid (H.out.trans (hb.mono H.out.size)); clear hb))
  go_ret
  exact ⟨rfl, H.out⟩
set_option maxHeartbeats 3200000 in
set_option maxRecDepth 100000 in
theorem inserts_b (l : List L) (A : Option Addr) (c : Nat) (a b r : L) (w : World) (hr : Rd w w.heap.size A (strs l)) (hl : l.length ≤ 1048576) (hx : ∀ x ∈ l, x.length ≤ 1048576) (hall : l.all isL = true) (h8 : (onceL l).length ≤ 8) (h : onceR l = (onceL l, true)) (h6 : sumL l ≤ 600) (h7 : sumL [a, b, r] ≤ 600) (h1 : isL a = true) (h2 : isL b = true) (h4 : isL r = true) (hne : r ≠ a) (hcase : r = b) :
    Calls Try.prog 5 #[.slice A l.length c, .string ⟨a.toArray⟩, .string ⟨b.toArray⟩, .string ⟨r.toArray⟩] w fun e w' => e = .returned (.bool true) ∧ Below w.heap.size w w' := by
  have c1 := once_any l A c w hl hr (fun i hi => by have := hx _ (pl_mem hi); omega)
  rw [h] at c1
  have g1 := fun w1 B hr1 => large_any l A l.length c B w1 rfl (sum_real hall hl) hr1
  have HR := Lib.hid hr
  rw [decide_eq_false (by omega)] at g1
  have G1 := Lib.hid g1
  have g2 := fun w1 => large_any [a, b, r] _ 3 3 _ _ rfl (by omega) (lits_rd w1 [a, b, r])
  rw [decide_eq_false (by omega)] at g2
  have G2 := Lib.hid g2
  have h3 := sum_three a b r
  have i1 := fun w1 => ris_any a w1 (by omega)
  have i2 := fun w1 => ris_any b w1 (by omega)
  have i3 := fun w1 => ris_any r w1 (by omega)
  rw [h1] at i1
  rw [h2] at i2
  rw [h4] at i3
  have I1 := Lib.hid i1
  have I2 := Lib.hid i2
  have I3 := Lib.hid i3
  have hma := once_all hall
  have hmn := once_nodup l
  obtain ⟨m, em⟩ : ∃ m, m = onceL l := ⟨_, rfl⟩
  rw [← em] at c1 h8 hma hmn
  have hco := comp_ok hma h8
  have hcl := comp_len hma
  have hib := ins_back hma hmn h8 h1 h2 h4
  have hka : (m ++ [r]).all isL = true := by rw [List.all_append, hma]; simp [h4]
  have hok := once_ok hka
  have hoa : onceL (m ++ [r]) = addL m r := by rw [onceL, adds_append]; show addL (addsL [] m) r = _; rw [show addsL [] m = m from once_of_nodup hmn]
  have hkc := fun (hg : 8 < (m ++ [r]).length) => comp_full hka hg
  have hkd := fun (hg : (m ++ [r]).length ≤ 8) => comp_ok hka hg
  have hkl : (m ++ [r]).length = m.length + 1 := by simp
  have hkb := fun (hrm : r ∉ m) (hg : (m ++ [r]).length ≤ 8) => back_all hka (by
    rw [List.nodup_append]
    exact ⟨hmn, by simp, fun x hx y hy => by simp at hy; subst hy; rintro rfl; exact hrm hx⟩) hg h1 h2
  have hkn := comp_len hka
  have hkx : ∀ i, i < (m ++ [r]).length → (pl (m ++ [r]) i).length ≤ 1000000000 := fun i hi => by have := real_len (all_isL hka (pl_mem hi)); omega
  have p1 := fun A c w1 hr1 => rcomp_any m A c w1 (by omega) hr1 (fun i hi => by have := real_len (all_isL hma (pl_mem hi)); omega)
  rw [hco] at p1
  have P1 := Lib.hid p1
  obtain ⟨S, eS⟩ : ∃ S, S = compT m := ⟨_, rfl⟩
  rw [← eS] at P1 hib hcl
  have p2 := fun w1 => ins_any S a b r w1 (by omega) (by omega) (by omega) (by omega)
  obtain ⟨K, eK⟩ : ∃ K, K = m ++ [r] := ⟨_, rfl⟩
  rw [← eK] at hib hka hok hoa hkc hkd hkl hkb hkn hkx
  have o2 := fun A c w1 hr1 => once_any K A c w1 (by omega) hr1 hkx
  rw [hok] at o2
  have CK := Lib.hid (fun w1 => known_any w1)
  have EK := Lib.hid eK
  have HM8 := Lib.hid h8
  have HN := Lib.hid (show w.heap.size ≤ w.heap.size from Nat.le_refl _)
  clear em eS eK hok
  rw [hib, if_pos (.inr (.inl hcase))] at p2
  have t1 : (r == a) = false := by simpa using hne
  have t2 : (r == b) = true := by simpa using hcase
  clear hcase hne
  have P2 := Lib.hid p2
  have O2 := Lib.hid o2
  clear hr hl hx h hall h8 h6 g1 g2 h7 h3 i1 i2 i3 h1 h2 h4 hma hmn hco hcl hib hka hoa hkc hkd hkl hkb hkn hkx p1 p2 o2
  go_enter Try.func5, Try.ntmps5
  go_wp2_with (first
    | (go_at_call 22; refine Calls.mono c1 ?_; rintro e w1 ⟨v1, rfl, ho, hb⟩; have H := Lib.hid hb; have R0 := Lib.hid (HR.out.below hb); obtain ⟨A1, q1, rfl, r1⟩ := ho.slice; have R1 := Lib.hid r1; clear c1 ho hb r1)
    | (go_at_call 13; refine Calls.mono (G1.out _ _ R0.out) ?_; rintro e w2 ⟨rfl, rfl⟩; clear G1)
    | (go_at_call 13; refine Calls.mono (G2.out _) ?_; rintro e w3 ⟨rfl, rfl⟩; clear G2; replace H := Lib.hid (H.out.trans ((lits_below w1 [a, b, r]).mono H.out.size)); replace R1 := Lib.hid ((R1.out.below (lits_below w1 [a, b, r])).more (lits_below w1 [a, b, r]).size))
    | (go_at_call 23; with_reducible refine Calls.mono (I1.out _) ?_; rintro e w4 ⟨rfl, hb⟩; clear I1; replace H := Lib.hid (H.out.trans (hb.mono H.out.size)); replace R1 := Lib.hid ((R1.out.below hb).more hb.size); clear hb)
    | (go_at_call 23; with_reducible refine Calls.mono (I2.out _) ?_; rintro e w5 ⟨rfl, hb⟩; clear I2; replace H := Lib.hid (H.out.trans (hb.mono H.out.size)); replace R1 := Lib.hid ((R1.out.below hb).more hb.size); clear hb)
    | (go_at_call 23; with_reducible refine Calls.mono (I3.out _) ?_; rintro e w6 ⟨rfl, hb⟩; clear I3; replace H := Lib.hid (H.out.trans (hb.mono H.out.size)); replace R1 := Lib.hid ((R1.out.below hb).more hb.size); clear hb)
    | (go_at_call 15; refine Calls.mono (P1.out _ _ _ R1.out) ?_; rintro e w7 ⟨rfl, hb⟩; replace H := Lib.hid (H.out.trans (hb.mono H.out.size)); replace R1 := Lib.hid ((R1.out.below hb).more hb.size); clear hb)
    | (go_at_call 18; refine Calls.mono (P2.out _) ?_; rintro e w8 ⟨rfl, hb⟩; replace H := Lib.hid (H.out.trans (hb.mono H.out.size)); replace R1 := Lib.hid ((R1.out.below hb).more hb.size); have HL := Lib.hid (own_lits w8 w8.heap.size [] (Nat.le_refl _) (by simp)); have Q := Lib.hid (lits_below w8 []); clear hb)
    | (at_builtin; refine app_rd rfl (.tmp 66) (.tmp 67) rfl w8.heap.size _ [] rfl HL.out _ A1 q1 m rfl (R1.out.below Q.out) (by have := HM8.out; simp; omega) Q.out.size ?_; intro v9 w9 ho hb; have HO := Lib.hid ho; replace Q := Lib.hid (Q.out.trans hb); clear ho hb HL)
    | (at_builtin; refine app_one rfl (.tmp 68) (.tmp 70) rfl w8.heap.size _ _ rfl HO.out r rfl (by have := HM8.out; simp; omega) Q.out.size ?_; intro v10 w10 ho hb; rw [List.nil_append, ← EK.out] at ho; obtain ⟨A10, q10, rfl, r0⟩ := ho.slice; have R10 := Lib.hid r0; replace Q := Lib.hid (Q.out.trans hb); replace R1 := Lib.hid ((R1.out.below Q.out).more Q.out.size); replace H := Lib.hid (H.out.trans (Q.out.mono H.out.size)); clear ho hb r0 HO Q)
    | (go_at_call 22; refine Calls.mono (O2.out _ _ _ R10.out) ?_; rintro e w11 ⟨v11, rfl, ho, hb⟩; obtain ⟨A11, q11, rfl, _⟩ := ho.slice; replace H := Lib.hid (H.out.trans (hb.mono H.out.size)); replace R1 := Lib.hid ((R1.out.below hb).more hb.size); clear ho hb R10)
    | (go_at_call 21; refine Calls.mono (CK.out _) ?_; rintro e w16 ⟨rfl, hb⟩; replace H := Lib.hid (H.out.trans (hb.mono H.out.size)); clear hb))
  go_ret
  exact ⟨rfl, H.out⟩
set_option maxHeartbeats 3200000 in
set_option maxRecDepth 100000 in
theorem inserts_in (l : List L) (A : Option Addr) (c : Nat) (a b r : L) (w : World) (hr : Rd w w.heap.size A (strs l)) (hl : l.length ≤ 1048576) (hx : ∀ x ∈ l, x.length ≤ 1048576) (hall : l.all isL = true) (h8 : (onceL l).length ≤ 8) (h : onceR l = (onceL l, true)) (h6 : sumL l ≤ 600) (h7 : sumL [a, b, r] ≤ 600) (h1 : isL a = true) (h2 : isL b = true) (h4 : isL r = true) (hne : r ≠ a) (hne2 : r ≠ b) (hcase : r ∈ onceL l) :
    Calls Try.prog 5 #[.slice A l.length c, .string ⟨a.toArray⟩, .string ⟨b.toArray⟩, .string ⟨r.toArray⟩] w fun e w' => e = .returned (.bool true) ∧ Below w.heap.size w w' := by
  have c1 := once_any l A c w hl hr (fun i hi => by have := hx _ (pl_mem hi); omega)
  rw [h] at c1
  have g1 := fun w1 B hr1 => large_any l A l.length c B w1 rfl (sum_real hall hl) hr1
  have HR := Lib.hid hr
  rw [decide_eq_false (by omega)] at g1
  have G1 := Lib.hid g1
  have g2 := fun w1 => large_any [a, b, r] _ 3 3 _ _ rfl (by omega) (lits_rd w1 [a, b, r])
  rw [decide_eq_false (by omega)] at g2
  have G2 := Lib.hid g2
  have h3 := sum_three a b r
  have i1 := fun w1 => ris_any a w1 (by omega)
  have i2 := fun w1 => ris_any b w1 (by omega)
  have i3 := fun w1 => ris_any r w1 (by omega)
  rw [h1] at i1
  rw [h2] at i2
  rw [h4] at i3
  have I1 := Lib.hid i1
  have I2 := Lib.hid i2
  have I3 := Lib.hid i3
  have hma := once_all hall
  have hmn := once_nodup l
  obtain ⟨m, em⟩ : ∃ m, m = onceL l := ⟨_, rfl⟩
  rw [← em] at c1 h8 hma hmn hcase
  have hco := comp_ok hma h8
  have hcl := comp_len hma
  have hib := ins_back hma hmn h8 h1 h2 h4
  have hka : (m ++ [r]).all isL = true := by rw [List.all_append, hma]; simp [h4]
  have hok := once_ok hka
  have hoa : onceL (m ++ [r]) = addL m r := by rw [onceL, adds_append]; show addL (addsL [] m) r = _; rw [show addsL [] m = m from once_of_nodup hmn]
  have hkc := fun (hg : 8 < (m ++ [r]).length) => comp_full hka hg
  have hkd := fun (hg : (m ++ [r]).length ≤ 8) => comp_ok hka hg
  have hkl : (m ++ [r]).length = m.length + 1 := by simp
  have hkb := fun (hrm : r ∉ m) (hg : (m ++ [r]).length ≤ 8) => back_all hka (by
    rw [List.nodup_append]
    exact ⟨hmn, by simp, fun x hx y hy => by simp at hy; subst hy; rintro rfl; exact hrm hx⟩) hg h1 h2
  have hkn := comp_len hka
  have hkx : ∀ i, i < (m ++ [r]).length → (pl (m ++ [r]) i).length ≤ 1000000000 := fun i hi => by have := real_len (all_isL hka (pl_mem hi)); omega
  have p1 := fun A c w1 hr1 => rcomp_any m A c w1 (by omega) hr1 (fun i hi => by have := real_len (all_isL hma (pl_mem hi)); omega)
  rw [hco] at p1
  have P1 := Lib.hid p1
  obtain ⟨S, eS⟩ : ∃ S, S = compT m := ⟨_, rfl⟩
  rw [← eS] at P1 hib hcl
  have p2 := fun w1 => ins_any S a b r w1 (by omega) (by omega) (by omega) (by omega)
  obtain ⟨K, eK⟩ : ∃ K, K = m ++ [r] := ⟨_, rfl⟩
  rw [← eK] at hib hka hok hoa hkc hkd hkl hkb hkn hkx
  have o2 := fun A c w1 hr1 => once_any K A c w1 (by omega) hr1 hkx
  rw [hok] at o2
  have CK := Lib.hid (fun w1 => known_any w1)
  have EK := Lib.hid eK
  have HM8 := Lib.hid h8
  have HN := Lib.hid (show w.heap.size ≤ w.heap.size from Nat.le_refl _)
  clear em eS eK hok
  rw [hib, if_pos (.inr (.inr hcase))] at p2
  rw [hoa, add_in hcase] at o2
  have t1 : (r == a) = false := by simpa using hne
  have t2 : (r == b) = false := by simpa using hne2
  clear hcase hne hne2
  have P2 := Lib.hid p2
  have O2 := Lib.hid o2
  clear hr hl hx h hall h8 h6 g1 g2 h7 h3 i1 i2 i3 h1 h2 h4 hma hmn hco hcl hib hka hoa hkc hkd hkl hkb hkn hkx p1 p2 o2
  go_enter Try.func5, Try.ntmps5
  go_wp2_with (first
    | (go_at_call 22; refine Calls.mono c1 ?_; rintro e w1 ⟨v1, rfl, ho, hb⟩; have H := Lib.hid hb; have R0 := Lib.hid (HR.out.below hb); obtain ⟨A1, q1, rfl, r1⟩ := ho.slice; have R1 := Lib.hid r1; clear c1 ho hb r1)
    | (go_at_call 13; refine Calls.mono (G1.out _ _ R0.out) ?_; rintro e w2 ⟨rfl, rfl⟩; clear G1)
    | (go_at_call 13; refine Calls.mono (G2.out _) ?_; rintro e w3 ⟨rfl, rfl⟩; clear G2; replace H := Lib.hid (H.out.trans ((lits_below w1 [a, b, r]).mono H.out.size)); replace R1 := Lib.hid ((R1.out.below (lits_below w1 [a, b, r])).more (lits_below w1 [a, b, r]).size))
    | (go_at_call 23; with_reducible refine Calls.mono (I1.out _) ?_; rintro e w4 ⟨rfl, hb⟩; clear I1; replace H := Lib.hid (H.out.trans (hb.mono H.out.size)); replace R1 := Lib.hid ((R1.out.below hb).more hb.size); clear hb)
    | (go_at_call 23; with_reducible refine Calls.mono (I2.out _) ?_; rintro e w5 ⟨rfl, hb⟩; clear I2; replace H := Lib.hid (H.out.trans (hb.mono H.out.size)); replace R1 := Lib.hid ((R1.out.below hb).more hb.size); clear hb)
    | (go_at_call 23; with_reducible refine Calls.mono (I3.out _) ?_; rintro e w6 ⟨rfl, hb⟩; clear I3; replace H := Lib.hid (H.out.trans (hb.mono H.out.size)); replace R1 := Lib.hid ((R1.out.below hb).more hb.size); clear hb)
    | (go_at_call 15; refine Calls.mono (P1.out _ _ _ R1.out) ?_; rintro e w7 ⟨rfl, hb⟩; replace H := Lib.hid (H.out.trans (hb.mono H.out.size)); replace R1 := Lib.hid ((R1.out.below hb).more hb.size); clear hb)
    | (go_at_call 18; refine Calls.mono (P2.out _) ?_; rintro e w8 ⟨rfl, hb⟩; replace H := Lib.hid (H.out.trans (hb.mono H.out.size)); replace R1 := Lib.hid ((R1.out.below hb).more hb.size); have HL := Lib.hid (own_lits w8 w8.heap.size [] (Nat.le_refl _) (by simp)); have Q := Lib.hid (lits_below w8 []); clear hb)
    | (at_builtin; refine app_rd rfl (.tmp 66) (.tmp 67) rfl w8.heap.size _ [] rfl HL.out _ A1 q1 m rfl (R1.out.below Q.out) (by have := HM8.out; simp; omega) Q.out.size ?_; intro v9 w9 ho hb; have HO := Lib.hid ho; replace Q := Lib.hid (Q.out.trans hb); clear ho hb HL)
    | (at_builtin; refine app_one rfl (.tmp 68) (.tmp 70) rfl w8.heap.size _ _ rfl HO.out r rfl (by have := HM8.out; simp; omega) Q.out.size ?_; intro v10 w10 ho hb; rw [List.nil_append, ← EK.out] at ho; obtain ⟨A10, q10, rfl, r0⟩ := ho.slice; have R10 := Lib.hid r0; replace Q := Lib.hid (Q.out.trans hb); replace R1 := Lib.hid ((R1.out.below Q.out).more Q.out.size); replace H := Lib.hid (H.out.trans (Q.out.mono H.out.size)); clear ho hb r0 HO Q)
    | (go_at_call 22; refine Calls.mono (O2.out _ _ _ R10.out) ?_; rintro e w11 ⟨v11, rfl, ho, hb⟩; obtain ⟨A11, q11, rfl, _⟩ := ho.slice; replace H := Lib.hid (H.out.trans (hb.mono H.out.size)); replace R1 := Lib.hid ((R1.out.below hb).more hb.size); clear ho hb R10)
    | (go_at_call 21; refine Calls.mono (CK.out _) ?_; rintro e w16 ⟨rfl, hb⟩; replace H := Lib.hid (H.out.trans (hb.mono H.out.size)); clear hb))
  go_ret
  exact ⟨rfl, H.out⟩
set_option maxHeartbeats 3200000 in
set_option maxRecDepth 100000 in
theorem inserts_full (l : List L) (A : Option Addr) (c : Nat) (a b r : L) (w : World) (hr : Rd w w.heap.size A (strs l)) (hl : l.length ≤ 1048576) (hx : ∀ x ∈ l, x.length ≤ 1048576) (hall : l.all isL = true) (h8 : (onceL l).length ≤ 8) (h : onceR l = (onceL l, true)) (h6 : sumL l ≤ 600) (h7 : sumL [a, b, r] ≤ 600) (h1 : isL a = true) (h2 : isL b = true) (h4 : isL r = true) (hne : r ≠ a) (hne2 : r ≠ b) (hcase : r ∉ onceL l ∧ (onceL l).length = 8) :
    Calls Try.prog 5 #[.slice A l.length c, .string ⟨a.toArray⟩, .string ⟨b.toArray⟩, .string ⟨r.toArray⟩] w fun e w' => e = .returned (.bool true) ∧ Below w.heap.size w w' := by
  have c1 := once_any l A c w hl hr (fun i hi => by have := hx _ (pl_mem hi); omega)
  rw [h] at c1
  have g1 := fun w1 B hr1 => large_any l A l.length c B w1 rfl (sum_real hall hl) hr1
  have HR := Lib.hid hr
  rw [decide_eq_false (by omega)] at g1
  have G1 := Lib.hid g1
  have g2 := fun w1 => large_any [a, b, r] _ 3 3 _ _ rfl (by omega) (lits_rd w1 [a, b, r])
  rw [decide_eq_false (by omega)] at g2
  have G2 := Lib.hid g2
  have h3 := sum_three a b r
  have i1 := fun w1 => ris_any a w1 (by omega)
  have i2 := fun w1 => ris_any b w1 (by omega)
  have i3 := fun w1 => ris_any r w1 (by omega)
  rw [h1] at i1
  rw [h2] at i2
  rw [h4] at i3
  have I1 := Lib.hid i1
  have I2 := Lib.hid i2
  have I3 := Lib.hid i3
  have hma := once_all hall
  have hmn := once_nodup l
  obtain ⟨m, em⟩ : ∃ m, m = onceL l := ⟨_, rfl⟩
  rw [← em] at c1 h8 hma hmn hcase
  have hco := comp_ok hma h8
  have hcl := comp_len hma
  have hib := ins_back hma hmn h8 h1 h2 h4
  have hka : (m ++ [r]).all isL = true := by rw [List.all_append, hma]; simp [h4]
  have hok := once_ok hka
  have hoa : onceL (m ++ [r]) = addL m r := by rw [onceL, adds_append]; show addL (addsL [] m) r = _; rw [show addsL [] m = m from once_of_nodup hmn]
  have hkc := fun (hg : 8 < (m ++ [r]).length) => comp_full hka hg
  have hkd := fun (hg : (m ++ [r]).length ≤ 8) => comp_ok hka hg
  have hkl : (m ++ [r]).length = m.length + 1 := by simp
  have hkb := fun (hrm : r ∉ m) (hg : (m ++ [r]).length ≤ 8) => back_all hka (by
    rw [List.nodup_append]
    exact ⟨hmn, by simp, fun x hx y hy => by simp at hy; subst hy; rintro rfl; exact hrm hx⟩) hg h1 h2
  have hkn := comp_len hka
  have hkx : ∀ i, i < (m ++ [r]).length → (pl (m ++ [r]) i).length ≤ 1000000000 := fun i hi => by have := real_len (all_isL hka (pl_mem hi)); omega
  have p1 := fun A c w1 hr1 => rcomp_any m A c w1 (by omega) hr1 (fun i hi => by have := real_len (all_isL hma (pl_mem hi)); omega)
  rw [hco] at p1
  have P1 := Lib.hid p1
  obtain ⟨S, eS⟩ : ∃ S, S = compT m := ⟨_, rfl⟩
  rw [← eS] at P1 hib hcl
  have p2 := fun w1 => ins_any S a b r w1 (by omega) (by omega) (by omega) (by omega)
  obtain ⟨K, eK⟩ : ∃ K, K = m ++ [r] := ⟨_, rfl⟩
  rw [← eK] at hib hka hok hoa hkc hkd hkl hkb hkn hkx
  have o2 := fun A c w1 hr1 => once_any K A c w1 (by omega) hr1 hkx
  rw [hok] at o2
  have CK := Lib.hid (fun w1 => known_any w1)
  have EK := Lib.hid eK
  have HM8 := Lib.hid h8
  have HN := Lib.hid (show w.heap.size ≤ w.heap.size from Nat.le_refl _)
  clear em eS eK hok
  have hno : ¬ (r = a ∨ r = b ∨ r ∈ m) := fun g => g.elim hne fun g => g.elim hne2 hcase.1
  rw [hib, if_neg hno, hkc (by omega)] at p2
  have t1 : (r == a) = false := by simpa using hne
  have t2 : (r == b) = false := by simpa using hne2
  have hkk : addL m r = K := by rw [add_new hcase.1, EK.out]
  rw [hoa, hkk] at o2
  have t6 : ((K.length : Int) == (m.length : Int)) = false := by simp; omega
  have t8 : ((m.length : Int) == 8) = true := by simp; omega
  have HKL := Lib.hid hkl
  clear hcase hne hne2 hno hkk
  have P2 := Lib.hid p2
  have O2 := Lib.hid o2
  clear hr hl hx h hall h8 h6 g1 g2 h7 h3 i1 i2 i3 h1 h2 h4 hma hmn hco hcl hib hka hoa hkc hkd hkl hkb hkn hkx p1 p2 o2
  go_enter Try.func5, Try.ntmps5
  go_wp2_with (first
    | (go_at_call 22; refine Calls.mono c1 ?_; rintro e w1 ⟨v1, rfl, ho, hb⟩; have H := Lib.hid hb; have R0 := Lib.hid (HR.out.below hb); obtain ⟨A1, q1, rfl, r1⟩ := ho.slice; have R1 := Lib.hid r1; clear c1 ho hb r1)
    | (go_at_call 13; refine Calls.mono (G1.out _ _ R0.out) ?_; rintro e w2 ⟨rfl, rfl⟩; clear G1)
    | (go_at_call 13; refine Calls.mono (G2.out _) ?_; rintro e w3 ⟨rfl, rfl⟩; clear G2; replace H := Lib.hid (H.out.trans ((lits_below w1 [a, b, r]).mono H.out.size)); replace R1 := Lib.hid ((R1.out.below (lits_below w1 [a, b, r])).more (lits_below w1 [a, b, r]).size))
    | (go_at_call 23; with_reducible refine Calls.mono (I1.out _) ?_; rintro e w4 ⟨rfl, hb⟩; clear I1; replace H := Lib.hid (H.out.trans (hb.mono H.out.size)); replace R1 := Lib.hid ((R1.out.below hb).more hb.size); clear hb)
    | (go_at_call 23; with_reducible refine Calls.mono (I2.out _) ?_; rintro e w5 ⟨rfl, hb⟩; clear I2; replace H := Lib.hid (H.out.trans (hb.mono H.out.size)); replace R1 := Lib.hid ((R1.out.below hb).more hb.size); clear hb)
    | (go_at_call 23; with_reducible refine Calls.mono (I3.out _) ?_; rintro e w6 ⟨rfl, hb⟩; clear I3; replace H := Lib.hid (H.out.trans (hb.mono H.out.size)); replace R1 := Lib.hid ((R1.out.below hb).more hb.size); clear hb)
    | (go_at_call 15; refine Calls.mono (P1.out _ _ _ R1.out) ?_; rintro e w7 ⟨rfl, hb⟩; replace H := Lib.hid (H.out.trans (hb.mono H.out.size)); replace R1 := Lib.hid ((R1.out.below hb).more hb.size); clear hb)
    | (go_at_call 18; refine Calls.mono (P2.out _) ?_; rintro e w8 ⟨rfl, hb⟩; replace H := Lib.hid (H.out.trans (hb.mono H.out.size)); replace R1 := Lib.hid ((R1.out.below hb).more hb.size); have HL := Lib.hid (own_lits w8 w8.heap.size [] (Nat.le_refl _) (by simp)); have Q := Lib.hid (lits_below w8 []); clear hb)
    | (at_builtin; refine app_rd rfl (.tmp 66) (.tmp 67) rfl w8.heap.size _ [] rfl HL.out _ A1 q1 m rfl (R1.out.below Q.out) (by have := HM8.out; simp; omega) Q.out.size ?_; intro v9 w9 ho hb; have HO := Lib.hid ho; replace Q := Lib.hid (Q.out.trans hb); clear ho hb HL)
    | (at_builtin; refine app_one rfl (.tmp 68) (.tmp 70) rfl w8.heap.size _ _ rfl HO.out r rfl (by have := HM8.out; simp; omega) Q.out.size ?_; intro v10 w10 ho hb; rw [List.nil_append, ← EK.out] at ho; obtain ⟨A10, q10, rfl, r0⟩ := ho.slice; have R10 := Lib.hid r0; replace Q := Lib.hid (Q.out.trans hb); replace R1 := Lib.hid ((R1.out.below Q.out).more Q.out.size); replace H := Lib.hid (H.out.trans (Q.out.mono H.out.size)); clear ho hb r0 HO Q)
    | (go_at_call 22; refine Calls.mono (O2.out _ _ _ R10.out) ?_; rintro e w11 ⟨v11, rfl, ho, hb⟩; obtain ⟨A11, q11, rfl, _⟩ := ho.slice; replace H := Lib.hid (H.out.trans (hb.mono H.out.size)); replace R1 := Lib.hid ((R1.out.below hb).more hb.size); clear ho hb R10)
    | (go_at_call 21; refine Calls.mono (CK.out _) ?_; rintro e w16 ⟨rfl, hb⟩; replace H := Lib.hid (H.out.trans (hb.mono H.out.size)); clear hb))
  go_ret
  exact ⟨rfl, H.out⟩
set_option maxHeartbeats 3200000 in
set_option maxRecDepth 100000 in
theorem inserts_new (l : List L) (A : Option Addr) (c : Nat) (a b r : L) (w : World) (hr : Rd w w.heap.size A (strs l)) (hl : l.length ≤ 1048576) (hx : ∀ x ∈ l, x.length ≤ 1048576) (hall : l.all isL = true) (h8 : (onceL l).length ≤ 8) (h : onceR l = (onceL l, true)) (h6 : sumL l ≤ 600) (h7 : sumL [a, b, r] ≤ 600) (h1 : isL a = true) (h2 : isL b = true) (h4 : isL r = true) (hne : r ≠ a) (hne2 : r ≠ b) (hcase : r ∉ onceL l ∧ (onceL l).length < 8) :
    Calls Try.prog 5 #[.slice A l.length c, .string ⟨a.toArray⟩, .string ⟨b.toArray⟩, .string ⟨r.toArray⟩] w fun e w' => e = .returned (.bool true) ∧ Below w.heap.size w w' := by
  have c1 := once_any l A c w hl hr (fun i hi => by have := hx _ (pl_mem hi); omega)
  rw [h] at c1
  have g1 := fun w1 B hr1 => large_any l A l.length c B w1 rfl (sum_real hall hl) hr1
  have HR := Lib.hid hr
  rw [decide_eq_false (by omega)] at g1
  have G1 := Lib.hid g1
  have g2 := fun w1 => large_any [a, b, r] _ 3 3 _ _ rfl (by omega) (lits_rd w1 [a, b, r])
  rw [decide_eq_false (by omega)] at g2
  have G2 := Lib.hid g2
  have h3 := sum_three a b r
  have i1 := fun w1 => ris_any a w1 (by omega)
  have i2 := fun w1 => ris_any b w1 (by omega)
  have i3 := fun w1 => ris_any r w1 (by omega)
  rw [h1] at i1
  rw [h2] at i2
  rw [h4] at i3
  have I1 := Lib.hid i1
  have I2 := Lib.hid i2
  have I3 := Lib.hid i3
  have hma := once_all hall
  have hmn := once_nodup l
  obtain ⟨m, em⟩ : ∃ m, m = onceL l := ⟨_, rfl⟩
  rw [← em] at c1 h8 hma hmn hcase
  have hco := comp_ok hma h8
  have hcl := comp_len hma
  have hib := ins_back hma hmn h8 h1 h2 h4
  have hka : (m ++ [r]).all isL = true := by rw [List.all_append, hma]; simp [h4]
  have hok := once_ok hka
  have hoa : onceL (m ++ [r]) = addL m r := by rw [onceL, adds_append]; show addL (addsL [] m) r = _; rw [show addsL [] m = m from once_of_nodup hmn]
  have hkc := fun (hg : 8 < (m ++ [r]).length) => comp_full hka hg
  have hkd := fun (hg : (m ++ [r]).length ≤ 8) => comp_ok hka hg
  have hkl : (m ++ [r]).length = m.length + 1 := by simp
  have hkb := fun (hrm : r ∉ m) (hg : (m ++ [r]).length ≤ 8) => back_all hka (by
    rw [List.nodup_append]
    exact ⟨hmn, by simp, fun x hx y hy => by simp at hy; subst hy; rintro rfl; exact hrm hx⟩) hg h1 h2
  have hkn := comp_len hka
  have hkx : ∀ i, i < (m ++ [r]).length → (pl (m ++ [r]) i).length ≤ 1000000000 := fun i hi => by have := real_len (all_isL hka (pl_mem hi)); omega
  have p1 := fun A c w1 hr1 => rcomp_any m A c w1 (by omega) hr1 (fun i hi => by have := real_len (all_isL hma (pl_mem hi)); omega)
  rw [hco] at p1
  have P1 := Lib.hid p1
  obtain ⟨S, eS⟩ : ∃ S, S = compT m := ⟨_, rfl⟩
  rw [← eS] at P1 hib hcl
  have p2 := fun w1 => ins_any S a b r w1 (by omega) (by omega) (by omega) (by omega)
  obtain ⟨K, eK⟩ : ∃ K, K = m ++ [r] := ⟨_, rfl⟩
  rw [← eK] at hib hka hok hoa hkc hkd hkl hkb hkn hkx
  have o2 := fun A c w1 hr1 => once_any K A c w1 (by omega) hr1 hkx
  rw [hok] at o2
  have CK := Lib.hid (fun w1 => known_any w1)
  have EK := Lib.hid eK
  have HM8 := Lib.hid h8
  have HN := Lib.hid (show w.heap.size ≤ w.heap.size from Nat.le_refl _)
  clear em eS eK hok
  have hno : ¬ (r = a ∨ r = b ∨ r ∈ m) := fun g => g.elim hne fun g => g.elim hne2 hcase.1
  rw [hib, if_neg hno, hkd (by omega)] at p2
  have t1 : (r == a) = false := by simpa using hne
  have t2 : (r == b) = false := by simpa using hne2
  have hkk : addL m r = K := by rw [add_new hcase.1, EK.out]
  rw [hoa, hkk] at o2
  have t6 : ((K.length : Int) == (m.length : Int)) = false := by simp; omega
  have t8 : ((m.length : Int) == 8) = false := by simp; omega
  have hbk := hkb hcase.1 (by omega)
  obtain ⟨T, eT⟩ : ∃ T, T = compT K := ⟨_, rfl⟩
  rw [← eT] at p2 hbk hkn
  have p3 := fun w1 => exp_any T a b w1 (by omega) (by omega) (by omega)
  rw [hbk] at p3
  have P3 := Lib.hid p3
  have X1 := Lib.hid (fun A A2 c c2 B w1 => texts_same K A A2 K.length K.length c c2 B w1 rfl rfl (by omega))
  have HKL := Lib.hid hkl
  clear hcase hne hne2 hno hkk hbk p3 eT
  have P2 := Lib.hid p2
  have O2 := Lib.hid o2
  clear hr hl hx h hall h8 h6 g1 g2 h7 h3 i1 i2 i3 h1 h2 h4 hma hmn hco hcl hib hka hoa hkc hkd hkl hkb hkn hkx p1 p2 o2
  go_enter Try.func5, Try.ntmps5
  go_wp2_with (first
    | (go_at_call 22; refine Calls.mono c1 ?_; rintro e w1 ⟨v1, rfl, ho, hb⟩; have H := Lib.hid hb; have R0 := Lib.hid (HR.out.below hb); obtain ⟨A1, q1, rfl, r1⟩ := ho.slice; have R1 := Lib.hid r1; clear c1 ho hb r1)
    | (go_at_call 13; refine Calls.mono (G1.out _ _ R0.out) ?_; rintro e w2 ⟨rfl, rfl⟩; clear G1)
    | (go_at_call 13; refine Calls.mono (G2.out _) ?_; rintro e w3 ⟨rfl, rfl⟩; clear G2; replace H := Lib.hid (H.out.trans ((lits_below w1 [a, b, r]).mono H.out.size)); replace R1 := Lib.hid ((R1.out.below (lits_below w1 [a, b, r])).more (lits_below w1 [a, b, r]).size))
    | (go_at_call 23; with_reducible refine Calls.mono (I1.out _) ?_; rintro e w4 ⟨rfl, hb⟩; clear I1; replace H := Lib.hid (H.out.trans (hb.mono H.out.size)); replace R1 := Lib.hid ((R1.out.below hb).more hb.size); clear hb)
    | (go_at_call 23; with_reducible refine Calls.mono (I2.out _) ?_; rintro e w5 ⟨rfl, hb⟩; clear I2; replace H := Lib.hid (H.out.trans (hb.mono H.out.size)); replace R1 := Lib.hid ((R1.out.below hb).more hb.size); clear hb)
    | (go_at_call 23; with_reducible refine Calls.mono (I3.out _) ?_; rintro e w6 ⟨rfl, hb⟩; clear I3; replace H := Lib.hid (H.out.trans (hb.mono H.out.size)); replace R1 := Lib.hid ((R1.out.below hb).more hb.size); clear hb)
    | (go_at_call 15; refine Calls.mono (P1.out _ _ _ R1.out) ?_; rintro e w7 ⟨rfl, hb⟩; replace H := Lib.hid (H.out.trans (hb.mono H.out.size)); replace R1 := Lib.hid ((R1.out.below hb).more hb.size); clear hb)
    | (go_at_call 18; refine Calls.mono (P2.out _) ?_; rintro e w8 ⟨rfl, hb⟩; replace H := Lib.hid (H.out.trans (hb.mono H.out.size)); replace R1 := Lib.hid ((R1.out.below hb).more hb.size); have HL := Lib.hid (own_lits w8 w8.heap.size [] (Nat.le_refl _) (by simp)); have Q := Lib.hid (lits_below w8 []); clear hb)
    | (at_builtin; refine app_rd rfl (.tmp 66) (.tmp 67) rfl w8.heap.size _ [] rfl HL.out _ A1 q1 m rfl (R1.out.below Q.out) (by have := HM8.out; simp; omega) Q.out.size ?_; intro v9 w9 ho hb; have HO := Lib.hid ho; replace Q := Lib.hid (Q.out.trans hb); clear ho hb HL)
    | (at_builtin; refine app_one rfl (.tmp 68) (.tmp 70) rfl w8.heap.size _ _ rfl HO.out r rfl (by have := HM8.out; simp; omega) Q.out.size ?_; intro v10 w10 ho hb; rw [List.nil_append, ← EK.out] at ho; obtain ⟨A10, q10, rfl, r0⟩ := ho.slice; have R10 := Lib.hid r0; replace Q := Lib.hid (Q.out.trans hb); replace R1 := Lib.hid ((R1.out.below Q.out).more Q.out.size); replace H := Lib.hid (H.out.trans (Q.out.mono H.out.size)); clear ho hb r0 HO Q)
    | (go_at_call 22; refine Calls.mono (O2.out _ _ _ R10.out) ?_; rintro e w11 ⟨v11, rfl, ho, hb⟩; obtain ⟨A11, q11, rfl, _⟩ := ho.slice; replace H := Lib.hid (H.out.trans (hb.mono H.out.size)); replace R1 := Lib.hid ((R1.out.below hb).more hb.size); clear ho hb R10)
    | (go_at_call 16; refine Calls.mono (P3.out _) ?_; rintro e w12 ⟨⟨v12, rfl, ho⟩, hb⟩; obtain ⟨A12, q12, rfl, r0⟩ := ho.slice; have R12 := Lib.hid r0; replace H := Lib.hid (H.out.trans (hb.mono H.out.size)); replace R1 := Lib.hid ((R1.out.below hb).more hb.size); have HL := Lib.hid (own_lits w12 w12.heap.size [] (Nat.le_refl _) (by simp)); have Q := Lib.hid (lits_below w12 []); clear ho hb r0)
    | (at_builtin; refine app_rd_g rfl (.tmp 127) (.tmp 128) rfl w12.heap.size _ [] rfl HL.out _ A1 q1 m rfl (R1.out.below Q.out) (by have := HM8.out; simp; omega) Q.out.size ?_; intro v13 w13 ho hb; have HO := Lib.hid ho; replace Q := Lib.hid (Q.out.trans hb); clear ho hb HL)
    | (at_builtin; refine app_one_g rfl (.tmp 129) (.tmp 131) rfl w12.heap.size _ _ rfl HO.out r rfl (by have := HM8.out; simp; omega) Q.out.size ?_; intro v14 w14 ho hb; rw [List.nil_append, ← EK.out] at ho; obtain ⟨A14, q14, rfl, r0⟩ := ho.slice; have R14 := Lib.hid r0; replace Q := Lib.hid (Q.out.trans hb); replace R1 := Lib.hid ((R1.out.below Q.out).more Q.out.size); replace R12 := Lib.hid ((R12.out.below Q.out).more Q.out.size); replace H := Lib.hid (H.out.trans (Q.out.mono H.out.size)); clear ho hb r0 HO Q)
    | (go_at_call 20; refine Calls.mono (X1.out _ _ _ _ _ _ R12.out R14.out) ?_; rintro e w15 ⟨rfl, hd⟩; have hb := hd.below; clear hd; replace H := Lib.hid (H.out.trans (hb.mono H.out.size)); clear hb)
    | (go_at_call 21; refine Calls.mono (CK.out _) ?_; rintro e w16 ⟨rfl, hb⟩; replace H := Lib.hid (H.out.trans (hb.mono H.out.size)); clear hb))
  go_ret
  exact ⟨rfl, H.out⟩
theorem inserts_ (A : Option Addr) (l : List L) (c : Nat) (s1 s2 s3 : ByteArray) (w : World) (hr : Rd w w.heap.size A (strs l)) (hl : l.length ≤ 1048576 ∧ ∀ x ∈ l, x.length ≤ 1048576) (h1 : s1.data.toList.length ≤ 1048576) (h2 : s2.data.toList.length ≤ 1048576) (h3 : s3.data.toList.length ≤ 1048576) :
    Calls Try.prog 5 #[.slice A l.length c, .string s1, .string s2, .string s3] w fun e w' => e = .returned (.bool true) ∧ Below w.heap.size w w' := by
  obtain ⟨a, rfl⟩ : ∃ a : L, s1 = ⟨a.toArray⟩ := ⟨_, bytes_eta s1⟩
  obtain ⟨b, rfl⟩ : ∃ a : L, s2 = ⟨a.toArray⟩ := ⟨_, bytes_eta s2⟩
  obtain ⟨r, rfl⟩ : ∃ a : L, s3 = ⟨a.toArray⟩ := ⟨_, bytes_eta s3⟩
  simp only at h1 h2 h3
  rcases once_cases l with h | ⟨_, _, h⟩ | ⟨hall, h8, h⟩
  · exact inserts_bad l A c a b r w hr hl.1 hl.2 (by rw [h])
  · exact inserts_bad l A c a b r w hr hl.1 hl.2 (by rw [h])
  · by_cases h6 : 600 < sumL l
    · exact inserts_large l A c a b r w hr hl.1 hl.2 hall h8 h h6
    · have h6 : sumL l ≤ 600 := by omega
      have h5 := sum_three a b r
      by_cases h7 : 600 < sumL [a, b, r]
      · exact inserts_large2 l A c a b r w hr hl.1 hl.2 hall h8 h h6 h7 (by omega)
      · have h7 : sumL [a, b, r] ≤ 600 := by omega
        cases ia : isL a with
        | false => exact inserts_is1 l A c a b r w hr hl.1 hl.2 hall h8 h h6 h7 ia
        | true =>
          cases ib : isL b with
          | false => exact inserts_is2 l A c a b r w hr hl.1 hl.2 hall h8 h h6 h7 ia ib
          | true =>
            cases ir : isL r with
            | false => exact inserts_is3 l A c a b r w hr hl.1 hl.2 hall h8 h h6 h7 ia ib ir
            | true =>
              by_cases ha : r = a
              · exact inserts_a l A c a b r w hr hl.1 hl.2 hall h8 h h6 h7 ia ib ir ha
              · by_cases hb : r = b
                · exact inserts_b l A c a b r w hr hl.1 hl.2 hall h8 h h6 h7 ia ib ir ha hb
                · by_cases hm : r ∈ onceL l
                  · exact inserts_in l A c a b r w hr hl.1 hl.2 hall h8 h h6 h7 ia ib ir ha hb hm
                  · by_cases he : (onceL l).length = 8
                    · exact inserts_full l A c a b r w hr hl.1 hl.2 hall h8 h h6 h7 ia ib ir ha hb ⟨hm, he⟩
                    · exact inserts_new l A c a b r w hr hl.1 hl.2 hall h8 h h6 h7 ia ib ir ha hb ⟨hm, by omega⟩
end Go.Proofs.Ytmgbhkhkbebfpaa.TrW
