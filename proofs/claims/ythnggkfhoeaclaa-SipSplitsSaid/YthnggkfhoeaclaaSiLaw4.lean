/-
  The law of splits: bytes that are parted into two or three.
-/
import Derived.Test.YthnggkfhoeaclaaSiLaw1
import Derived.Deep.RegionHeld3
set_option linter.unusedVariables false
namespace Go.Proofs.Ythnggkfhoeaclaa.SiL
open Go.RowKit Go.Proofs.Ythnggkfhoeaclaa.Mem Go.Proofs.Ythnggkfhoeaclaa.Si

/-- where a part begins -/
def shift (A : Option Addr) (cc a : Nat) : Option Addr := if cc = a then A else A.map (·.add a)
theorem run_lo (A : Option Addr) (m cc a : Nat) (ha : a ≤ cc) (w : World) :
    (Instr.slice 22 (.slice A m cc) none (some (.int .i64 (a : Int))) none).run Try.prog w = .ok (.slice A a cc) w := by
  have ht := Try.underlying22
  have e : A.map (fun x => x.add 0) = A := by cases A <;> simp [Addr.add]
  simp [Instr.slice, run_underlying ht, Instr.sliceBounds, run_sliceBound, Result.andThen, ha, e]
theorem run_mid (A : Option Addr) (m cc a b : Nat) (ha : a ≤ b) (hb : b ≤ cc) (w : World) :
    (Instr.slice 22 (.slice A m cc) (some (.int .i64 (a : Int))) (some (.int .i64 (b : Int))) none).run Try.prog w = .ok (.slice (shift A cc a) (b - a) (cc - a)) w := by
  have ht := Try.underlying22
  simp [Instr.slice, run_underlying ht, Instr.sliceBounds, run_sliceBound, Result.andThen, ha, hb, shift]
theorem run_hi (A : Option Addr) (m cc b : Nat) (hb : b ≤ m) (w : World) :
    (Instr.slice 22 (.slice A m cc) (some (.int .i64 (b : Int))) none none).run Try.prog w = .ok (.slice (shift A cc b) (m - b) (cc - b)) w := by
  have ht := Try.underlying22
  simp [Instr.slice, run_underlying ht, Instr.sliceBounds, run_sliceBound, Result.andThen, hb, shift]
theorem rd_shift {w : World} {B : Nat} {A : Option Addr} {l : List UInt8} (h : Rd w B A (bvs l)) (cc a : Nat) (hc : l.length ≤ cc) : Rd w B (shift A cc a) (bvs (l.drop a)) := by
  unfold shift
  by_cases e : cc = a
  · left
    rw [List.drop_of_length_le (by omega)]; rfl
  · rw [if_neg e]
    cases A with
    | some x => exact Rd.drop h a
    | none =>
      left
      rcases h with h | ⟨b, o, h1, _, _⟩
      · rw [List.map_eq_nil_iff.1 h]; simp [bvs]
      · cases h1
/-- a part of the bytes that came in -/
structure Part (w : World) (v : Value) (l : List UInt8) : Prop where
  is : ∃ A c, v = .slice A l.length c ∧ ∀ w', Below w.heap.size w w' → Rd w' w.heap.size A (bvs l)
/-- parts, laid down -/
theorem rows_parts {w w1 : World} (t : TypeId) (hb : Below w.heap.size w w1) : ∀ (vs : List Value) (rows : List (List UInt8)) (cs : Array Value), cs.toList = vs → vs.length = rows.length → (∀ i (h : i < rows.length), ∃ v, vs[i]? = some v ∧ Part w v rows[i]) →
    Si.Rows (w1.alloc (.cells cs t)) (w1.alloc (.cells cs t)).heap.size (some ⟨w1.heap.size, 0, none⟩) rows := fun vs rows cs hc hl h =>
  rows_alloc t vs rows cs hc hl (fun i hi => by
    obtain ⟨v, hv, ⟨A, c, rfl, hr⟩⟩ := h i hi
    exact ⟨A, c, hv, (hr w1 hb).more hb.size⟩)
theorem parts3 {w w1 : World} (hb : Below w.heap.size w w1) (v1 v2 v3 : Value) (l1 l2 l3 : List UInt8) (h1 : Part w v1 l1) (h2 : Part w v2 l2) (h3 : Part w v3 l3) :
    Si.Rows (w1.alloc (.cells #[v1, v2, v3] 22)) (w1.alloc (.cells #[v1, v2, v3] 22)).heap.size (some ⟨w1.heap.size, 0, none⟩) [l1, l2, l3] :=
  rows_parts _ hb [v1, v2, v3] [l1, l2, l3] _ rfl rfl (fun i hi => by
    have : i = 0 ∨ i = 1 ∨ i = 2 := by simp at hi; omega
    rcases this with rfl | rfl | rfl
    · exact ⟨v1, rfl, h1⟩
    · exact ⟨v2, rfl, h2⟩
    · exact ⟨v3, rfl, h3⟩)
theorem parts4 {w w1 : World} (hb : Below w.heap.size w w1) (v1 v2 v3 v4 : Value) (l1 l2 l3 l4 : List UInt8) (h1 : Part w v1 l1) (h2 : Part w v2 l2) (h3 : Part w v3 l3) (h4 : Part w v4 l4) :
    Si.Rows (w1.alloc (.cells #[v1, v2, v3, v4] 22)) (w1.alloc (.cells #[v1, v2, v3, v4] 22)).heap.size (some ⟨w1.heap.size, 0, none⟩) [l1, l2, l3, l4] :=
  rows_parts _ hb [v1, v2, v3, v4] [l1, l2, l3, l4] _ rfl rfl (fun i hi => by
    have : i = 0 ∨ i = 1 ∨ i = 2 ∨ i = 3 := by simp at hi; omega
    rcases this with rfl | rfl | rfl | rfl
    · exact ⟨v1, rfl, h1⟩
    · exact ⟨v2, rfl, h2⟩
    · exact ⟨v3, rfl, h3⟩
    · exact ⟨v4, rfl, h4⟩)
theorem part_nil (w : World) : Part w (.slice none 0 0) [] := ⟨none, 0, rfl, fun _ _ => .inl rfl⟩
theorem part_lo {w : World} {A : Option Addr} {l : List UInt8} (h : Rd w w.heap.size A (bvs l)) (cc a : Nat) (ha : a ≤ l.length) : Part w (.slice A a cc) (l.take a) :=
  ⟨A, cc, by rw [List.length_take, Nat.min_eq_left ha], fun w' hb => Rd.take (h.below hb) a⟩
theorem part_mid {w : World} {A : Option Addr} {l : List UInt8} (h : Rd w w.heap.size A (bvs l)) (cc a b c : Nat) (hc : l.length ≤ cc) (hab : a ≤ b) (hb : b ≤ l.length) : Part w (.slice (shift A cc a) (b - a) c) ((l.drop a).take (b - a)) :=
  ⟨shift A cc a, c, by rw [List.length_take, List.length_drop, Nat.min_eq_left (by omega)], fun w' hbw => Rd.take (rd_shift (h.below hbw) cc a hc) (b - a)⟩
theorem part_hi {w : World} {A : Option Addr} {l : List UInt8} (h : Rd w w.heap.size A (bvs l)) (cc b m c : Nat) (hc : l.length ≤ cc) (hm : m = l.length) : Part w (.slice (shift A cc b) (m - b) c) (l.drop b) :=
  ⟨shift A cc b, c, by rw [List.length_drop, hm], fun w' hbw => rd_shift (h.below hbw) cc b hc⟩
theorem flat3 (l : List UInt8) (a b : Nat) (h : a ≤ b) : flat [l.take a, (l.drop a).take (b - a), l.drop b] = l := by
  have e : l.drop b = (l.drop a).drop (b - a) := by rw [List.drop_drop]; congr 1; omega
  simp only [flat, List.flatten_cons, List.flatten_nil, List.append_nil]
  rw [e, List.take_append_drop, List.take_append_drop]
theorem flat4 (l : List UInt8) (b : Nat) : flat [l.take b, [], l.drop b, []] = l := by
  simp [flat]

set_option maxRecDepth 100000 in
set_option maxHeartbeats 3200000 in
theorem splits_in (A : Option Addr) (l : List UInt8) (c : Nat) (A2 : Option Addr) (l2 : List UInt8) (cc m a b : Nat) (w : World) (hr : Rd w w.heap.size A (bvs l)) (hr2 : Rd w w.heap.size A2 (bvs l2)) (hc2 : l2.length ≤ cc) (hm2 : cc ≤ maxLen) (em : m = l2.length) (h500 : m ≤ 500) (hab : a ≤ b) (hbm : b ≤ m) :
    Calls Try.prog 6 #[.slice A l.length c, .slice A2 m cc, .int .i64 (a : Int), .int .i64 (b : Int)] w fun e w' => e = .returned (.bool true) ∧ Below w.heap.size w w' := by
  obtain ⟨n, en⟩ : ∃ n, n = l.length := ⟨_, rfl⟩
  rw [← en]
  obtain ⟨ks, ek⟩ : ∃ ks, ks = ksOf l := ⟨_, rfl⟩
  obtain ⟨x, ex⟩ : ∃ x, x = sumOf ks l2 := ⟨_, rfl⟩
  have r1 := run_lo A2 m cc a (by omega)
  have r2 := run_mid A2 m cc a b hab (by omega)
  have r3 := run_hi A2 m cc b hbm
  have r4 := run_lo A2 m cc b (by omega)
  have p1 := part_lo hr2 cc a (by omega)
  have p2 := part_mid hr2 cc a b (cc - a) hc2 hab (by omega)
  have p3 := part_hi hr2 cc b m (cc - b) hc2 em
  have p4 := part_lo hr2 cc b (by omega)
  obtain ⟨A4, eA4⟩ : ∃ z, z = shift A2 cc a := ⟨_, rfl⟩
  obtain ⟨A5, eA5⟩ : ∃ z, z = shift A2 cc b := ⟨_, rfl⟩
  obtain ⟨q, eq⟩ : ∃ z, z = b - a := ⟨_, rfl⟩
  obtain ⟨r, er⟩ : ∃ z, z = m - b := ⟨_, rfl⟩
  obtain ⟨c4, ec4⟩ : ∃ z, z = cc - a := ⟨_, rfl⟩
  obtain ⟨c5, ec5⟩ : ∃ z, z = cc - b := ⟨_, rfl⟩
  rw [← eA4, ← eq, ← ec4] at r2
  rw [← eA4, ← ec4] at p2
  rw [← eA5, ← er, ← ec5] at r3 p3
  have f3 := flat3 l2 a b hab
  have f4 := flat4 l2 b
  have p2' : Part w (.slice A4 q c4) ((l2.drop a).take (b - a)) := by rw [eq]; exact p2
  have hlen : (flat [l2.take a, (l2.drop a).take (b - a), l2.drop b]).length < 100000 := by rw [f3]; omega
  have hlen4 : (flat [l2.take b, [], l2.drop b, []]).length < 100000 := by rw [f4]; omega
  have ck : ∀ w1, Below w.heap.size w w1 → Calls Try.prog 8 #[.slice A n c] w1 fun e w' => e = .returned (.agg (key16 ks)) ∧ Below w.heap.size w w' := fun w1 h => by
    rw [ek]; exact (key_any A n c l w1 en ((hr.below h).more h.size)).mono fun e w' hh => ⟨hh.1, bt h hh.2⟩
  have cd : ∀ w1, Below w.heap.size w w1 → Calls Try.prog 9 #[.agg (key16 ks), .slice A2 m cc] w1 fun e w' => e = .returned (wv x) ∧ Below w.heap.size w w' := fun w1 h => by
    rw [ex]; exact (dsum_any ks A2 m cc l2 w1 em (by omega) (by omega) hm2 ((hr2.below h).more h.size)).mono fun e w' hh => ⟨hh.1, bt h hh.2⟩
  have al : ∀ (w1 : World) (o : Obj), Below w.heap.size w w1 → Below w.heap.size w (w1.alloc o) := fun w1 o h => h.alloc h.size o
  have ck3 : ∀ w1, Below w.heap.size w w1 → Calls Try.prog 8 #[.slice A n c] (w1.alloc (.cells #[.slice A2 a cc, .slice A4 q c4, .slice A5 r c5] 22)) fun e w' => e = .returned (.agg (key16 ks)) ∧ Below w.heap.size w w' ∧ Si.Rows w' w'.heap.size (some ⟨w1.heap.size, 0, none⟩) [l2.take a, (l2.drop a).take (b - a), l2.drop b] := fun w1 h => by
    rw [ek]; exact (key_any A n c l _ en ((hr.below (al w1 _ h)).more (al w1 _ h).size)).mono fun e w' hh => ⟨hh.1, bt (al w1 _ h) hh.2, ((parts3 h _ _ _ _ _ _ p1 p2' p3).below hh.2).more hh.2.size⟩
  have ck3d : ∀ w1 : World, Below w.heap.size w w1.drew → Calls Try.prog 8 #[.slice A n c] ((w1.alloc (.cells #[.slice A2 a cc, .slice A4 q c4, .slice A5 r c5] 22)).drew) fun e w' => e = .returned (.agg (key16 ks)) ∧ Below w.heap.size w w' ∧ Si.Rows w' w'.heap.size (some ⟨w1.heap.size, 0, none⟩) [l2.take a, (l2.drop a).take (b - a), l2.drop b] := fun w1 h => ck3 w1.drew h
  have ck4 : ∀ w1, Below w.heap.size w w1 → Calls Try.prog 8 #[.slice A n c] (w1.alloc (.cells #[.slice A2 b cc, .slice none 0 0, .slice A5 r c5, .slice none 0 0] 22)) fun e w' => e = .returned (.agg (key16 ks)) ∧ Below w.heap.size w w' ∧ Si.Rows w' w'.heap.size (some ⟨w1.heap.size, 0, none⟩) [l2.take b, [], l2.drop b, []] := fun w1 h => by
    rw [ek]; exact (key_any A n c l _ en ((hr.below (al w1 _ h)).more (al w1 _ h).size)).mono fun e w' hh => ⟨hh.1, bt (al w1 _ h) hh.2, ((parts4 h _ _ _ _ _ _ _ _ p4 (part_nil w) p3 (part_nil w)).below hh.2).more hh.2.size⟩
  have cs3 : ∀ w1 A3, Below w.heap.size w w1 → Si.Rows w1 w1.heap.size A3 [l2.take a, (l2.drop a).take (b - a), l2.drop b] → Calls Try.prog 7 #[.agg (key16 ks), .slice A3 3 3] w1 fun e w' => e = .returned (wv x) ∧ Below w.heap.size w w' := fun w1 A3 h hR => by
    have := sum_any ks A3 3 3 _ w1 rfl (by decide) hlen hR
    rw [f3, ← ex] at this
    exact this.mono fun e w' hh => ⟨hh.1, bt h hh.2⟩
  have cs4 : ∀ w1 A3, Below w.heap.size w w1 → Si.Rows w1 w1.heap.size A3 [l2.take b, [], l2.drop b, []] → Calls Try.prog 7 #[.agg (key16 ks), .slice A3 4 4] w1 fun e w' => e = .returned (wv x) ∧ Below w.heap.size w w' := fun w1 A3 h hR => by
    have := sum_any ks A3 4 4 _ w1 rfl (by decide) hlen4 hR
    rw [f4, ← ex] at this
    exact this.mono fun e w' hh => ⟨hh.1, bt h hh.2⟩
  have ca3 : ∀ w1, Below w.heap.size w w1 → Calls Try.prog 7 #[.agg (key16 ks), .slice (some ⟨w1.heap.size, 0, none⟩) 3 3] (w1.alloc (.cells #[.slice A2 a cc, .slice A4 q c4, .slice A5 r c5] 22)) fun e w' => e = .returned (wv x) ∧ Below w.heap.size w w' := fun w1 h => cs3 _ _ (al w1 _ h) (parts3 h _ _ _ _ _ _ p1 p2' p3)
  have ca4 : ∀ w1, Below w.heap.size w w1 → Calls Try.prog 7 #[.agg (key16 ks), .slice (some ⟨w1.heap.size, 0, none⟩) 4 4] (w1.alloc (.cells #[.slice A2 b cc, .slice none 0 0, .slice A5 r c5, .slice none 0 0] 22)) fun e w' => e = .returned (wv x) ∧ Below w.heap.size w w' := fun w1 h => cs4 _ _ (al w1 _ h) (parts4 h _ _ _ _ _ _ _ _ p4 (part_nil w) p3 (part_nil w))
  have ckn : ∀ w1, Below w.heap.size w w1 → Calls Try.prog 10 #[] w1 fun e w' => e = .returned (.bool true) ∧ Below w.heap.size w w' := fun w1 h => (known_any w1).mono fun e w' hh => ⟨hh.1, bt h hh.2⟩
  have c1 := ck w (Below.refl _ _)
  have t1 : (m : Int) ≤ 500 := by omega
  have t2 : (0 : Int) ≤ (a : Int) := by omega
  have t3 : (a : Int) ≤ (b : Int) := by omega
  have t4 : (b : Int) ≤ (m : Int) := by omega
  clear em en ek ex eA4 eA5 eq er ec4 ec5 f3 f4 hlen hlen4 p1 p2 p2' p3 p4 hr hr2 hc2 hm2 al
  go_enter Try.func6, Try.ntmps6
  go_upto_region 4 with (first
    | (go_at_call 8; refine Calls.mono c1 ?_; rintro e w1 ⟨rfl, hb1⟩; clear c1; have c2 := cd w1 hb1; clear hb1 cd)
    | (go_at_call 9; refine Calls.mono c2 ?_; rintro e w2 ⟨rfl, hb2⟩; clear c2; have hcur : Below w.heap.size w w2.drew := below_drewN hb2 1; clear hb2))
  go_region_held3 (fun w' => True) (trivial) (first
    | (go_at_call 8; with_reducible refine Calls.mono (ck _ hcur) ?_; rintro e wq ⟨rfl, hb⟩; clear hcur; have hcur := hb; clear hb)
    | (go_at_call 8; with_reducible refine Calls.mono (ck3 _ hcur) ?_; rintro e wq ⟨rfl, hb, hR⟩; clear hcur; have hcur := hb; have HR := Lib.hid hR; clear hb hR)
    | (go_at_call 8; with_reducible refine Calls.mono (ck3d _ hcur) ?_; rintro e wq ⟨rfl, hb, hR⟩; clear hcur; have hcur := hb; have HR := Lib.hid hR; clear hb hR)
    | (go_at_call 8; with_reducible refine Calls.mono (ck4 _ hcur) ?_; rintro e wq ⟨rfl, hb, hR⟩; clear hcur; have hcur := hb; have HR := Lib.hid hR; clear hb hR)
    | (go_at_call 7; with_reducible refine Calls.mono (cs3 _ _ hcur HR.out) ?_; rintro e wq ⟨rfl, hb⟩; clear hcur HR; have hcur := hb; clear hb ck3 ck3d cs3 ca3)
    | (go_at_call 7; with_reducible refine Calls.mono (ca3 _ hcur) ?_; rintro e wq ⟨rfl, hb⟩; clear hcur; have hcur := hb; clear hb ck3 ck3d cs3 ca3)
    | (go_at_call 7; with_reducible refine Calls.mono (cs4 _ _ hcur HR.out) ?_; rintro e wq ⟨rfl, hb⟩; clear hcur HR; have hcur := hb; clear hb)
    | (go_at_call 7; with_reducible refine Calls.mono (ca4 _ hcur) ?_; rintro e wq ⟨rfl, hb⟩; clear hcur; have hcur := hb; clear hb)
    | (go_at_call 10; with_reducible refine Calls.mono (ckn _ hcur) ?_; rintro e wq ⟨rfl, hb⟩; clear hcur; have hcur := hb; clear hb))
  all_goals go_wp2_with fail
  all_goals go_ret
  all_goals exact ⟨rfl, hcur⟩
set_option maxRecDepth 100000 in
set_option maxHeartbeats 1600000 in
theorem splits (A : Option Addr) (l : List UInt8) (c : Nat) (A2 : Option Addr) (l2 : List UInt8) (cc : Nat) (a b : Int) (w : World) (hr : Rd w w.heap.size A (bvs l)) (hc : l.length ≤ c) (hm : c ≤ maxLen) (hr2 : Rd w w.heap.size A2 (bvs l2)) (hc2 : l2.length ≤ cc) (hm2 : cc ≤ maxLen) (wa : (Lit.int .i64 a).wf = true) (wb : (Lit.int .i64 b).wf = true) :
    Calls Try.prog 6 #[.slice A l.length c, .slice A2 l2.length cc, .int .i64 a, .int .i64 b] w fun e w' => e = .returned (.bool true) ∧ Below w.heap.size w w' := by
  obtain ⟨m, em⟩ : ∃ m, m = l2.length := ⟨_, rfl⟩
  rw [← em]
  by_cases hx : m ≤ 500 ∧ 0 ≤ a ∧ a ≤ b ∧ b ≤ (m : Int)
  · obtain ⟨h1, h2, h3, h4⟩ := hx
    obtain ⟨a', rfl⟩ : ∃ n : Nat, a = (n : Int) := ⟨a.toNat, by omega⟩
    obtain ⟨b', rfl⟩ : ∃ n : Nat, b = (n : Int) := ⟨b.toNat, by omega⟩
    exact splits_in A l c A2 l2 cc m a' b' w hr hr2 hc2 hm2 em h1 (by omega) (by omega)
  · have ht : decide ((500 : Int) < (m : Int)) = true ∨ (decide ((500 : Int) < (m : Int)) = false ∧ decide (a < 0) = true) ∨ (decide ((500 : Int) < (m : Int)) = false ∧ decide (a < 0) = false ∧ decide (b < a) = true) ∨ (decide ((500 : Int) < (m : Int)) = false ∧ decide (a < 0) = false ∧ decide (b < a) = false ∧ decide ((m : Int) < b) = true) := by
      by_cases h1 : (500 : Int) < (m : Int)
      · exact .inl (by simp [h1])
      · have e1 : decide ((500 : Int) < (m : Int)) = false := by simp; omega
        by_cases h2 : a < 0
        · exact .inr (.inl ⟨e1, by simp [h2]⟩)
        · have e2 : decide (a < 0) = false := by simp; omega
          by_cases h3 : b < a
          · exact .inr (.inr (.inl ⟨e1, e2, by simp [h3]⟩))
          · have e3 : decide (b < a) = false := by simp; omega
            exact .inr (.inr (.inr ⟨e1, e2, e3, by simp; omega⟩))
    have HB := Lib.hid (Below.refl w.heap.size w)
    clear hx em hr hc hm hr2 hc2 hm2 wa wb
    rcases ht with t1 | ⟨t1, t2⟩ | ⟨t1, t2, t3⟩ | ⟨t1, t2, t3, t4⟩ <;> (
      go_enter Try.func6, Try.ntmps6
      go_wp2_with fail
      go_ret
      exact ⟨rfl, HB.out⟩)
end Go.Proofs.Ythnggkfhoeaclaa.SiL
