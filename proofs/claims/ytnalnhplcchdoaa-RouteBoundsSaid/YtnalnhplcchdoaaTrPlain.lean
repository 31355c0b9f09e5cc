/-
  Plain mathematics of chapter 6: what a realm is made of, realms as a text, a text as realms, one more. No program is named.
-/
import Derived.Test.YtnalnhplcchdoaaNmPlain3
namespace Go.Proofs.Ytnalnhplcchdoaa.Tr
open Go.Proofs.Ytnalnhplcchdoaa.Nm

/-! ### what a realm is made of -/
theorem mem_split {c : UInt8} {l : L} {x : UInt8} (h : x ∈ l) : x = c ∨ ∃ p, p ∈ split c l ∧ x ∈ p := by
  induction l with
  | nil => simp at h
  | cons y r ih =>
    rw [split]
    by_cases e : y = c
    · rw [if_pos e]
      rcases List.mem_cons.1 h with h | h
      · exact .inl (h.trans e)
      · rcases ih h with g | ⟨p, g, k⟩
        · exact .inl g
        · exact .inr ⟨p, List.mem_cons_of_mem _ g, k⟩
    · rw [if_neg e]
      cases hs : split c r with
      | nil => exact absurd hs (split_ne c r)
      | cons a t =>
        rcases List.mem_cons.1 h with h | h
        · exact .inr ⟨y :: a, List.mem_cons_self, by rw [h]; exact List.mem_cons_self⟩
        · rcases ih h with g | ⟨p, g, k⟩
          · exact .inl g
          · rw [hs] at g
            rcases List.mem_cons.1 g with g | g
            · exact .inr ⟨y :: a, List.mem_cons_self, List.mem_cons_of_mem _ (g ▸ k)⟩
            · exact .inr ⟨p, List.mem_cons_of_mem _ g, k⟩
theorem labs_bytes {c : UInt8} {l : L} (h : labsL (split c l) = true) {x : UInt8} (hx : x ∈ l) : capB x = true ∨ x = c := by
  have h1 := ((labsL_iff _).1 h).2.2
  rw [List.all_eq_true] at h1
  rcases mem_split (c := c) hx with g | ⟨p, g, k⟩
  · exact .inr g
  · have h2 := ((wordL_iff _ _).1 (h1 p g)).2.2
    rw [List.all_eq_true] at h2
    exact .inl (h2 x k)
theorem word_last {l : L} (h : wordL capB l = true) : ∃ u b, l = u ++ [b] ∧ capB b = true := by
  have h1 := (wordL_iff _ _).1 h
  have hne : l ≠ [] := by rintro rfl; simp at h1
  refine ⟨l.dropLast, l.getLast hne, (List.dropLast_concat_getLast hne).symm, ?_⟩
  have h2 := h1.2.2
  rw [List.all_eq_true] at h2
  exact h2 _ (List.getLast_mem hne)
theorem labs_last {c : UInt8} {l : L} (h : labsL (split c l) = true) : ∃ u b, l = u ++ [b] ∧ capB b = true := by
  have h1 := ((labsL_iff _).1 h).2.2
  by_cases hc : c ∈ l
  · obtain ⟨u, v, e, hv⟩ := last_cut hc
    rw [e, split_at, split_none hv, List.all_append, Bool.and_eq_true] at h1
    simp only [List.all_cons, List.all_nil, Bool.and_true] at h1
    obtain ⟨v', b, e2, hb⟩ := word_last h1.2
    exact ⟨u ++ c :: v', b, by rw [e, e2]; simp, hb⟩
  · rw [split_none hc] at h1
    simp only [List.all_cons, List.all_nil, Bool.and_true] at h1
    exact word_last h1
theorem split_sum (c : UInt8) (l : L) : ((split c l).map fun p => p.length + 1).sum = l.length + 1 := by
  induction l with
  | nil => simp [split]
  | cons y r ih =>
    rw [split]
    by_cases e : y = c
    · rw [if_pos e]; simp [ih]; omega
    · rw [if_neg e]
      cases hs : split c r with
      | nil => exact absurd hs (split_ne c r)
      | cons a t =>
        rw [hs] at ih
        simp only [List.map_cons, List.sum_cons, List.length_cons] at ih ⊢
        omega
theorem sum_le {ls : List L} (h : ls.all (wordL capB) = true) : (ls.map fun p => p.length + 1).sum ≤ 9 * ls.length := by
  induction ls with
  | nil => simp
  | cons a t ih =>
    simp only [List.all_cons, Bool.and_eq_true] at h
    have h1 := ((wordL_iff _ _).1 h.1).2.1
    have := ih h.2
    simp only [List.map_cons, List.sum_cons, List.length_cons]
    omega
theorem labs_len {c : UInt8} {l : L} (h : labsL (split c l) = true) : l.length ≤ 35 := by
  have h1 := (labsL_iff _).1 h
  have h2 := sum_le h1.2.2
  have h3 := split_sum c l
  omega
theorem kind_two' {l : L} (h : kindL l = 2) : ∃ t, l = 47 :: t ∧ labsL (split 47 t) = true := by
  have h1 := kind_two h
  simp only [slL, Bool.and_eq_true, decide_eq_true_eq] at h1
  cases l with
  | nil => simp at h1
  | cons x t =>
    simp only [List.head?_cons, Option.some.injEq, List.tail_cons] at h1
    exact ⟨t, by rw [h1.1], h1.2⟩
theorem kind_cases {l : L} (h : kindL l ≠ 0) : kindL l = 1 ∨ kindL l = 2 := by have := kind_le l; omega
theorem one_bytes {l : L} (h : kindL l = 1) {x : UInt8} (hx : x ∈ l) : capB x = true ∨ x = 46 := labs_bytes (kind_one h) hx
theorem two_bytes {l : L} (h : kindL l = 2) {x : UInt8} (hx : x ∈ l) : capB x = true ∨ x = 47 := by
  obtain ⟨t, rfl, ht⟩ := kind_two' h
  rcases List.mem_cons.1 hx with g | g
  · exact .inr g
  · exact labs_bytes ht g
theorem real_bytes {l : L} (h : kindL l ≠ 0) {x : UInt8} (hx : x ∈ l) : capB x = true ∨ x = 46 ∨ x = 47 := by
  rcases kind_cases h with h | h
  · rcases one_bytes h hx with g | g
    · exact .inl g
    · exact .inr (.inl g)
  · rcases two_bytes h hx with g | g
    · exact .inl g
    · exact .inr (.inr g)
theorem real_last {l : L} (h : kindL l ≠ 0) : ∃ u b, l = u ++ [b] ∧ capB b = true := by
  rcases kind_cases h with h | h
  · exact labs_last (kind_one h)
  · obtain ⟨t, rfl, ht⟩ := kind_two' h
    obtain ⟨u, b, rfl, hb⟩ := labs_last ht
    exact ⟨47 :: u, b, rfl, hb⟩
theorem real_len {l : L} (h : kindL l ≠ 0) : l.length ≤ 36 := by
  rcases kind_cases h with h | h
  · have := labs_len (kind_one h); omega
  · obtain ⟨t, rfl, ht⟩ := kind_two' h
    have := labs_len ht
    simp only [List.length_cons]; omega
theorem isL_iff (l : L) : isL l = true ↔ kindL l ≠ 0 := by simp [isL]; omega
theorem isL_false (l : L) : isL l = false ↔ kindL l = 0 := by simp [isL]
theorem real_no {l : L} (h : kindL l ≠ 0) {c : UInt8} (hc : capB c = false) (h1 : c ≠ 46) (h2 : c ≠ 47) : c ∉ l := by
  intro hx
  rcases real_bytes h hx with g | g | g
  · rw [hc] at g; cases g
  · exact h1 g
  · exact h2 g
theorem real_comma {l : L} (h : kindL l ≠ 0) : (44 : UInt8) ∉ l := real_no h (by decide) (by decide) (by decide)
theorem one_slash {l : L} (h : kindL l = 1) : (47 : UInt8) ∉ l := by
  intro hx
  rcases one_bytes h hx with g | g
  · revert g; decide
  · revert g; decide
theorem two_dot {l : L} (h : kindL l = 2) : (46 : UInt8) ∉ l := by
  intro hx
  rcases two_bytes h hx with g | g
  · revert g; decide
  · revert g; decide

/-! ### what is below another one, as texts -/
theorem up_one_cut {r : L} (h : kindL r = 1) (hu : upL r ≠ []) : ∃ u, r = u ++ 46 :: upL r := by
  have e : upL r = aft 46 r := by rw [upL, if_pos h]
  rw [e] at hu ⊢
  by_cases hm : (46 : UInt8) ∈ r
  · exact ⟨bef 46 r, cut_eq hm⟩
  · exact absurd (aft_none hm) hu
theorem pl_up {l : L} (h : l ≠ []) (i : Nat) : pl (ch l) (i + 1) = pl (ch (upL l)) i := by
  rw [ch_cons h]; rfl
theorem at_one (i : Nat) : ∀ r : L, kindL r = 1 → i < (ch (upL r)).length → ∃ u, r = u ++ 46 :: pl (ch (upL r)) i := by
  induction i with
  | zero =>
    intro r h hi
    have hu : upL r ≠ [] := by intro e; rw [e, ch_nil] at hi; simp at hi
    rw [pl, ch_zero hu]
    exact up_one_cut h hu
  | succ i ih =>
    intro r h hi
    have hu : upL r ≠ [] := by intro e; rw [e, ch_nil] at hi; simp at hi
    obtain ⟨u, e⟩ := up_one_cut h hu
    have hk : kindL (upL r) = 1 := by
      rcases up_kind r with g | g
      · exact absurd g hu
      · rw [g.1]; exact h
    have hi2 : i < (ch (upL (upL r))).length := by rw [ch_cons hu] at hi; simpa using hi
    obtain ⟨v, e2⟩ := ih (upL r) hk hi2
    rw [pl_up hu i]
    refine ⟨u ++ 46 :: v, ?_⟩
    conv => lhs; rw [e, e2]
    simp
theorem at_two (i : Nat) : ∀ r : L, kindL r = 2 → i < (ch (upL r)).length → ∃ v, r = pl (ch (upL r)) i ++ 47 :: v := by
  induction i with
  | zero =>
    intro r h hi
    have hu : upL r ≠ [] := by intro e; rw [e, ch_nil] at hi; simp at hi
    obtain ⟨u, v, e, _, eu⟩ := up_two h
    rw [pl, ch_zero hu, eu]
    exact ⟨v, e⟩
  | succ i ih =>
    intro r h hi
    have hu : upL r ≠ [] := by intro e; rw [e, ch_nil] at hi; simp at hi
    obtain ⟨u, v, e, _, eu⟩ := up_two h
    have hk : kindL (upL r) = 2 := by
      rcases up_kind r with g | g
      · exact absurd g hu
      · rw [g.1]; exact h
    have hi2 : i < (ch (upL (upL r))).length := by rw [ch_cons hu] at hi; simpa using hi
    obtain ⟨v2, e2⟩ := ih (upL r) hk hi2
    rw [pl_up hu i]
    refine ⟨v2 ++ 47 :: v, ?_⟩
    conv => lhs; rw [e, ← eu, e2]
    simp
theorem under_one {r p : L} (h : underL r p = true) (hk : kindL r = 1) : ∃ u, r = u ++ 46 :: p := by
  obtain ⟨i, hi, e⟩ := mem_pl ((under_iff r p).1 h)
  obtain ⟨u, g⟩ := at_one i r hk hi
  exact ⟨u, by rw [← e]; exact g⟩
theorem under_two {r p : L} (h : underL r p = true) (hk : kindL r = 2) : ∃ v, r = p ++ 47 :: v := by
  obtain ⟨i, hi, e⟩ := mem_pl ((under_iff r p).1 h)
  obtain ⟨u, g⟩ := at_two i r hk hi
  exact ⟨u, by rw [← e]; exact g⟩
theorem one_under {p : L} (hp : p ≠ []) (n : Nat) : ∀ u : L, u.length ≤ n → kindL (u ++ 46 :: p) = 1 → underL (u ++ 46 :: p) p = true := by
  induction n with
  | zero =>
    intro u hu hk
    have e : u = [] := List.eq_nil_of_length_eq_zero (by omega)
    subst e
    have eu : upL ([] ++ 46 :: p) = p := by rw [upL, if_pos hk]; simp [aft]
    rw [under_iff, eu]
    exact mem_self hp
  | succ n ih =>
    intro u hu hk
    have eu : upL (u ++ 46 :: p) = aft 46 (u ++ 46 :: p) := by rw [upL, if_pos hk]
    rw [under_iff]
    by_cases hm : (46 : UInt8) ∈ u
    · have e := cut_eq hm
      have e2 : upL (u ++ 46 :: p) = aft 46 u ++ 46 :: p := by
        rw [eu]
        conv => lhs; rw [e]
        rw [List.append_assoc, List.cons_append, aft_at (bef_not _ _)]
      have hne : upL (u ++ 46 :: p) ≠ [] := by rw [e2]; simp
      have hk2 : kindL (upL (u ++ 46 :: p)) = 1 := by
        rcases up_kind (u ++ 46 :: p) with g | g
        · exact absurd g hne
        · rw [g.1]; exact hk
      have hl : (aft 46 u).length ≤ n := by have := congrArg List.length e; simp at this; omega
      rw [e2] at hk2
      have := ih (aft 46 u) hl hk2
      rw [e2]
      exact under_mem this
    · rw [eu, aft_at hm]
      exact mem_self hp

/-! ### one realm behind another one -/
def sufL (p l : L) : Bool := p.isSuffixOf l
theorem suf_iff {p l : L} : sufL p l = true ↔ ∃ u, l = u ++ p := by
  rw [sufL, List.isSuffixOf_iff_suffix]
  exact ⟨fun ⟨t, e⟩ => ⟨t, e.symm⟩, fun ⟨t, e⟩ => ⟨t, e.symm⟩⟩
def preB (p l : L) : Bool := p.isPrefixOf l
theorem preB_iff {p l : L} : preB p l = true ↔ ∃ u, l = p ++ u := by
  rw [preB, List.isPrefixOf_iff_prefix]
  exact ⟨fun ⟨t, e⟩ => ⟨t, e.symm⟩, fun ⟨t, e⟩ => ⟨t, e.symm⟩⟩
def furL (r p : L) : L := if underL r p then (if kindL r = 1 then r.take (r.length - p.length) else r.drop p.length) else if kindL r = 1 then r else 32 :: r
def toldL (f p : L) : L := if sufL [46] f then f ++ p else if preB [47] f && decide (kindL p = 2) then p ++ f else if preB [32, 47] f then f.drop 1 else f
theorem suf_cap {u : L} {b : UInt8} (h : capB b = true) : sufL [46] (u ++ [b]) = false := by
  cases e : sufL [46] (u ++ [b]) with
  | false => rfl
  | true =>
    obtain ⟨v, g⟩ := suf_iff.1 e
    have := List.append_inj_right' g rfl
    injection this with this
    rw [this] at h
    revert h; decide
theorem told_one {r : L} (h : kindL r = 1) (p : L) : toldL r p = r := by
  obtain ⟨u, b, e, hb⟩ := real_last (l := r) (by omega)
  have h1 : sufL [46] r = false := by rw [e]; exact suf_cap hb
  have h2 : preB [47] r = false := by
    cases g : preB [47] r with
    | false => rfl
    | true => obtain ⟨v, k⟩ := preB_iff.1 g; exact absurd (by rw [k]; simp) (one_slash h)
  have h3 : preB [32, 47] r = false := by
    cases g : preB [32, 47] r with
    | false => rfl
    | true => obtain ⟨v, k⟩ := preB_iff.1 g; exact absurd (by rw [k]; simp) (one_slash h)
  rw [toldL, h1, h2, h3]; simp
theorem told_two {r : L} (h : kindL r = 2) {p : L} (hp : kindL p ≠ 2) : toldL r p = r := by
  obtain ⟨u, b, e, hb⟩ := real_last (l := r) (by omega)
  have h1 : sufL [46] r = false := by rw [e]; exact suf_cap hb
  have h3 : preB [32, 47] r = false := by
    cases g : preB [32, 47] r with
    | false => rfl
    | true => obtain ⟨v, k⟩ := preB_iff.1 g; exact absurd (by rw [k]; simp) (real_no (l := r) (c := 32) (by omega) (by decide) (by decide) (by decide))
  rw [toldL, h1, h3, decide_eq_false hp]; simp
theorem told_join {r p : L} (h : kindL r = 2) (hp : kindL p = 2) : toldL r p = p ++ r := by
  obtain ⟨u, b, e, hb⟩ := real_last (l := r) (by omega)
  have h1 : sufL [46] r = false := by rw [e]; exact suf_cap hb
  obtain ⟨t, et, _⟩ := kind_two' h
  have h2 : preB [47] r = true := preB_iff.2 ⟨t, et⟩
  rw [toldL, h1, h2, decide_eq_true hp]; simp
theorem told_blank {r : L} (h : kindL r = 2) (p : L) : toldL (32 :: r) p = r := by
  obtain ⟨u, b, e, hb⟩ := real_last (l := r) (by omega)
  have h1 : sufL [46] (32 :: r) = false := by rw [e, ← List.cons_append]; exact suf_cap hb
  have h2 : preB [47] (32 :: r) = false := by simp [preB, List.isPrefixOf]
  obtain ⟨t, et, _⟩ := kind_two' h
  have h3 : preB [32, 47] (32 :: r) = true := preB_iff.2 ⟨t, by rw [et]; rfl⟩
  rw [toldL, h1, h2, h3]; simp
theorem told_nil {r : L} (h : kindL r ≠ 0) : toldL r [] = r := by
  rcases kind_cases h with h | h
  · exact told_one h []
  · exact told_two h (by rw [kind_nil]; decide)
theorem fur_dom {r p : L} (h : underL r p = true) (hk : kindL r = 1) : ∃ u, r = (u ++ [46]) ++ p ∧ furL r p = u ++ [46] := by
  obtain ⟨u, e⟩ := under_one h hk
  refine ⟨u, by rw [e]; simp, ?_⟩
  rw [furL, if_pos h, if_pos hk]
  have e2 : r = (u ++ [46]) ++ p := by rw [e]; simp
  have e3 : r.length - p.length = (u ++ [46]).length := by rw [e2]; simp; omega
  rw [e3, e2, List.take_left]
theorem fur_sl {r p : L} (h : underL r p = true) (hk : kindL r = 2) : ∃ v, r = p ++ 47 :: v ∧ furL r p = 47 :: v := by
  obtain ⟨v, e⟩ := under_two h hk
  refine ⟨v, e, ?_⟩
  rw [furL, if_pos h, if_neg (by omega)]
  conv => lhs; rw [e]
  simp
theorem fur_not {r p : L} (h : underL r p = false) (hk : kindL r = 1) : furL r p = r := by rw [furL, if_neg (by simp [h]), if_pos hk]
theorem fur_blank {r p : L} (h : underL r p = false) (hk : kindL r = 2) : furL r p = 32 :: r := by rw [furL, if_neg (by simp [h]), if_neg (by omega)]
theorem told_fur {r p : L} (hr : kindL r ≠ 0) : toldL (furL r p) p = r := by
  rcases kind_cases hr with hk | hk
  · cases h : underL r p with
    | true =>
      obtain ⟨u, e, g⟩ := fur_dom h hk
      rw [g, toldL, if_pos (suf_iff.2 ⟨u, rfl⟩), ← e]
    | false => rw [fur_not h hk]; exact told_one hk p
  · cases h : underL r p with
    | true =>
      obtain ⟨v, e, g⟩ := fur_sl h hk
      have kp : kindL p = 2 := by rw [← under_kind h]; exact hk
      obtain ⟨u, b, e2, hb⟩ := real_last hr
      have hv : ∃ u', 47 :: v = u' ++ [b] := by
        rcases List.eq_nil_or_concat v with q | ⟨v', b', q⟩
        · subst q
          rw [e] at e2
          have := List.append_inj_right' e2 rfl
          exact ⟨[], by simpa using this⟩
        · rw [List.concat_eq_append] at q
          subst q
          rw [e, show p ++ 47 :: (v' ++ [b']) = (p ++ 47 :: v') ++ [b'] by simp] at e2
          have := List.append_inj_right' e2 rfl
          exact ⟨47 :: v', by rw [List.cons_append]; rw [this]⟩
      obtain ⟨u', e3⟩ := hv
      have h1 : sufL [46] (47 :: v) = false := by rw [e3]; exact suf_cap hb
      have h2 : preB [47] (47 :: v) = true := preB_iff.2 ⟨v, rfl⟩
      rw [g, toldL, h1, h2, decide_eq_true kp]
      simp [e]
    | false => rw [fur_blank h hk]; exact told_blank hk p
theorem fur_ne {r p : L} (hr : kindL r ≠ 0) : furL r p ≠ [] := by
  rcases kind_cases hr with hk | hk
  · cases h : underL r p with
    | true => obtain ⟨u, e, g⟩ := fur_dom h hk; rw [g]; simp
    | false => rw [fur_not h hk]; exact ne_of_kind hr
  · cases h : underL r p with
    | true => obtain ⟨u, e, g⟩ := fur_sl h hk; rw [g]; simp
    | false => rw [fur_blank h hk]; simp
theorem fur_comma {r p : L} (hr : kindL r ≠ 0) : (44 : UInt8) ∉ furL r p := by
  have hc := real_comma hr
  rcases kind_cases hr with hk | hk
  · cases h : underL r p with
    | true =>
      obtain ⟨u, e, g⟩ := fur_dom h hk
      rw [g]; intro q; exact hc (by rw [e]; exact List.mem_append_left _ q)
    | false => rw [fur_not h hk]; exact hc
  · cases h : underL r p with
    | true =>
      obtain ⟨u, e, g⟩ := fur_sl h hk
      rw [g]; intro q; exact hc (by rw [e]; exact List.mem_append_right _ q)
    | false =>
      rw [fur_blank h hk]; intro q
      rcases List.mem_cons.1 q with q | q
      · revert q; decide
      · exact hc q
theorem fur_len (r p : L) : (furL r p).length ≤ r.length + 1 := by
  rw [furL]; split
  · split
    · rw [List.length_take]; omega
    · rw [List.length_drop]; omega
  · split
    · omega
    · simp
theorem told_len (f p : L) : (toldL f p).length ≤ f.length + p.length := by
  rw [toldL]; split
  · simp
  · split
    · simp; omega
    · split
      · simp; omega
      · omega
end Go.Proofs.Ytnalnhplcchdoaa.Tr
