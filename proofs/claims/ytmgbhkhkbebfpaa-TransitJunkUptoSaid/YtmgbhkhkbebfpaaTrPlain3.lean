/-
  Plain mathematics of chapter 6 for the laws: null pieces, dots, slashes, twice, junk, one more.
-/
import Derived.Test.YtmgbhkhkbebfpaaTrIns
namespace Go.Proofs.Ytmgbhkhkbebfpaa.Tr
open Go.Proofs.Ytmgbhkhkbebfpaa.Nm

/-! ### pieces told one by one behind any beginning -/
theorem split_one {u v : L} (h : (44 : UInt8) ∉ u) (h2 : (44 : UInt8) ∉ v) : split 44 (u ++ 44 :: v) = [u, v] := by rw [split_head h, split_none h2]
theorem once_len8 {l : List L} (h : l.length ≤ 8) : (onceL l).length ≤ 8 := Nat.le_trans (once_len l) h

/-! ### a null piece -/
theorem null_len (c p r : L) : (betweenL (fromL c p) r).length ≤ 9 := between_len _ _
def nullW (a b r : L) (k : Nat) : List L := if k = 0 then betweenL a b else if k = 1 then betweenL a r ++ [r] else [r] ++ betweenL r b
def nullS (r : L) (k : Nat) : L := if k = 0 then [44] else if k = 1 then [44] ++ r else r ++ [44]
theorem null_zero {a b : L} (ha : isL a = true) (hb : isL b = true) : expL [44] a b = overF (onceL (betweenL a b)) := by
  rw [exp_some ha hb (by simp)]
  show expF a b [[], []] [] [] false = _
  rw [expF_null, expF_null, expF_nil, null_t, from_nil]; rfl
theorem expF_over {c sv f : L} {t l : List L} {p : L} {n : Bool} (h : f ≠ []) (h1 : isL (toldL f p) = true) :
    expF c sv (f :: t) l p n = if 8 < (addL (nullF c l p (toldL f p) n) (toldL f p)).length then ([], 13) else expF c sv t (addL (nullF c l p (toldL f p) n) (toldL f p)) (toldL f p) false := by
  rw [expF, if_neg h, if_pos h1]
theorem null_one {a b r : L} (ha : isL a = true) (hb : isL b = true) (hr : isL r = true) : expL ([44] ++ r) a b = overF (onceL (betweenL a r ++ [r])) := by
  have hk := (isL_iff r).1 hr
  rw [exp_some ha hb (by simp), show [44] ++ r = ([] : L) ++ 44 :: r from rfl, split_one (by simp) (real_comma hk), expF_null]
  have ht := told_nil hk
  rw [expF_over (ne_of_kind hk) (by rw [ht]; exact hr), ht, null_t, from_nil, expF_nil, null_f]
  have e : addL (addsL [] (betweenL a r)) r = onceL (betweenL a r ++ [r]) := by rw [onceL, adds_append]; rfl
  rw [e, overF]
  by_cases h : 8 < (onceL (betweenL a r ++ [r])).length
  · rw [if_pos h, if_pos h]
  · rw [if_neg h, if_neg h]
theorem null_two {a b r : L} (ha : isL a = true) (hb : isL b = true) (hr : isL r = true) : expL (r ++ [44]) a b = overF (onceL ([r] ++ betweenL r b)) := by
  have hk := (isL_iff r).1 hr
  rw [exp_some ha hb (by simp), split_one (real_comma hk) (by simp)]
  have ht := told_nil hk
  have e0 : addL [] r = [r] := add_new (by simp)
  rw [expF_more (ne_of_kind hk) (by rw [ht]; exact hr) (by rw [ht, null_f, e0]; simp), ht, null_f, e0, expF_null, expF_nil, null_t, from_p (ne_of_kind hk)]
  have e : addsL [r] (betweenL r b) = onceL ([r] ++ betweenL r b) := by
    rw [onceL, adds_append]
    show _ = addsL (addL [] r) _
    rw [e0]
  rw [e]
theorem all_between (a b : L) : (betweenL a b).all isL = true := by rw [List.all_eq_true]; exact fun x hx => between_isL hx

/-! ### dots and slashes -/
theorem dots_exp {p label a b : L} (ha : isL a = true) (hb : isL b = true) (hp : kindL p = 1) (hl : kindL label = 1) :
    expL (p ++ [44] ++ label ++ [46]) a b = if isL (label ++ [46] ++ p) then ([p, label ++ [46] ++ p], 0) else ([], 2) := by
  have hpk : kindL p ≠ 0 := by omega
  have hlk : kindL label ≠ 0 := by omega
  have hlc : (44 : UInt8) ∉ label ++ [46] := by
    rw [List.mem_append, not_or]
    exact ⟨real_comma hlk, by simp⟩
  rw [exp_some ha hb (by simp), show p ++ [44] ++ label ++ [46] = p ++ 44 :: (label ++ [46]) by simp, split_one (real_comma hpk) hlc]
  have ht := told_nil hpk
  have e0 : addL [] p = [p] := add_new (by simp)
  have hpl : isL p = true := (isL_iff p).2 hpk
  rw [expF_more (ne_of_kind hpk) (by rw [ht]; exact hpl) (by rw [ht, null_f, e0]; simp), ht, null_f, e0]
  have h2 : toldL (label ++ [46]) p = label ++ [46] ++ p := by rw [toldL, if_pos (suf_iff.2 ⟨label, rfl⟩)]
  have hne : p ≠ label ++ [46] ++ p := by
    intro e
    have := congrArg List.length e
    simp at this
    omega
  cases hr : isL (label ++ [46] ++ p) with
  | false => rw [expF_bad (by simp) (by rw [h2]; exact hr)]; rfl
  | true =>
    have e1 : addL [p] (label ++ [46] ++ p) = [p, label ++ [46] ++ p] := add_new (by simpa using fun e => hne (by simpa using e.symm))
    rw [expF_more (by simp) (by rw [h2]; exact hr) (by rw [h2, null_f, e1]; simp), h2, null_f, e1, expF_nil, null_f, over_ok (by simp)]
    rfl
theorem dots_comp {p label : L} (hp : kindL p = 1) (hr : isL (label ++ [46] ++ p) = true) : compL [p, label ++ [46] ++ p] = (p ++ [44] ++ label ++ [46], 0) := by
  have hpk : kindL p ≠ 0 := by omega
  have hpl : isL p = true := (isL_iff p).2 hpk
  have hk := (isL_iff _).1 hr
  have hk1 : kindL (label ++ [46] ++ p) = 1 := by
    rcases kind_cases hk with h | h
    · exact h
    · exfalso
      exact two_dot h (by simp)
  have e : label ++ [46] ++ p = label ++ 46 :: p := by simp
  have hu : underL (label ++ [46] ++ p) p = true := by
    rw [e] at hk1 ⊢
    exact one_under (ne_of_kind hpk) label.length label (Nat.le_refl _) hk1
  have hf : furL (label ++ [46] ++ p) p = label ++ [46] := by
    rw [furL, if_pos hu, if_pos hk1]
    have e3 : (label ++ [46] ++ p).length - p.length = (label ++ [46]).length := by simp; omega
    rw [e3, List.take_left]
  rw [comp_ok (by simp only [List.all_cons, List.all_nil, hpl, hr]; rfl) (by simp)]
  show (joinC [p, furL (label ++ [46] ++ p) p], 0) = _
  rw [hf, join_cons (by simp), join_one]
  simp
theorem slash_exp {p q a b : L} (ha : isL a = true) (hb : isL b = true) (hp : kindL p = 2) (hq : kindL q = 2) :
    expL (p ++ [44] ++ q) a b = if isL (p ++ q) then ([p, p ++ q], 0) else ([], 2) := by
  have hpk : kindL p ≠ 0 := by omega
  have hqk : kindL q ≠ 0 := by omega
  rw [exp_some ha hb (by simp), show p ++ [44] ++ q = p ++ 44 :: q by simp, split_one (real_comma hpk) (real_comma hqk)]
  have ht := told_nil hpk
  have e0 : addL [] p = [p] := add_new (by simp)
  have hpl : isL p = true := (isL_iff p).2 hpk
  rw [expF_more (ne_of_kind hpk) (by rw [ht]; exact hpl) (by rw [ht, null_f, e0]; simp), ht, null_f, e0]
  have h2 := told_join hq hp
  have hne : p ≠ p ++ q := by
    intro e
    have := congrArg List.length e
    have hq0 := ne_of_kind hqk
    simp at this
    exact hq0 this
  cases hr : isL (p ++ q) with
  | false => rw [expF_bad (ne_of_kind hqk) (by rw [h2]; exact hr)]; rfl
  | true =>
    have e1 : addL [p] (p ++ q) = [p, p ++ q] := add_new (by simpa using ne_of_kind hqk)
    rw [expF_more (ne_of_kind hqk) (by rw [h2]; exact hr) (by rw [h2, null_f, e1]; simp), h2, null_f, e1, expF_nil, null_f, over_ok (by simp)]
    rfl
theorem slash_blank {p q a b : L} (ha : isL a = true) (hb : isL b = true) (hp : kindL p ≠ 0) (hq : kindL q = 2) (hpq : p ≠ q) :
    expL (p ++ [44, 32] ++ q) a b = ([p, q], 0) := by
  have hqk : kindL q ≠ 0 := by omega
  have hqc : (44 : UInt8) ∉ 32 :: q := by
    rw [List.mem_cons, not_or]
    exact ⟨by decide, real_comma hqk⟩
  rw [exp_some ha hb (by simp), show p ++ [44, 32] ++ q = p ++ 44 :: (32 :: q) by simp, split_one (real_comma hp) hqc]
  have ht := told_nil hp
  have e0 : addL [] p = [p] := add_new (by simp)
  have hpl : isL p = true := (isL_iff p).2 hp
  have hql : isL q = true := (isL_iff q).2 hqk
  have h2 := told_blank hq p
  have e1 : addL [p] q = [p, q] := add_new (by simpa using fun e : q = p => hpq e.symm)
  rw [expF_more (ne_of_kind hp) (by rw [ht]; exact hpl) (by rw [ht, null_f, e0]; simp), ht, null_f, e0]
  rw [expF_more (by simp) (by rw [h2]; exact hql) (by rw [h2, null_f, e1]; simp), h2, null_f, e1, expF_nil, null_f, over_ok (by simp)]
theorem slash_dom {q a b : L} (ha : isL a = true) (hb : isL b = true) (hq : kindL q = 2) :
    expL ([69, 68, 85, 44] ++ q) a b = ([[69, 68, 85], q], 0) := by
  have hqk : kindL q ≠ 0 := by omega
  have hp : kindL [69, 68, 85] = 1 := by decide +kernel
  have hpk : kindL [69, 68, 85] ≠ 0 := by omega
  rw [exp_some ha hb (by simp), show [69, 68, 85, 44] ++ q = [69, 68, 85] ++ 44 :: q by simp, split_one (real_comma hpk) (real_comma hqk)]
  have ht := told_nil hpk
  have e0 : addL [] [69, 68, 85] = [([69, 68, 85] : L)] := add_new (by simp)
  have hpl : isL [69, 68, 85] = true := (isL_iff _).2 hpk
  have hql : isL q = true := (isL_iff q).2 hqk
  have h2 := told_two hq (p := [69, 68, 85]) (by omega)
  have hne : q ≠ [69, 68, 85] := by rintro rfl; omega
  have e1 : addL [([69, 68, 85] : L)] q = [[69, 68, 85], q] := add_new (by simpa using hne)
  rw [expF_more (ne_of_kind hpk) (by rw [ht]; exact hpl) (by rw [ht, null_f, e0]; simp), ht, null_f, e0]
  rw [expF_more (ne_of_kind hqk) (by rw [h2]; exact hql) (by rw [h2, null_f, e1]; simp), h2, null_f, e1, expF_nil, null_f, over_ok (by simp)]

/-! ### twice -/
/-- a realm told by itself, whatever was ahead -/
def oneF (r : L) : L := if kindL r = 2 then 32 :: r else r
theorem one_told {r : L} (h : kindL r ≠ 0) (p : L) : toldL (oneF r) p = r := by
  rcases kind_cases h with k | k
  · rw [oneF, if_neg (by omega)]; exact told_one k p
  · rw [oneF, if_pos k]; exact told_blank k p
theorem one_ok {r : L} (h : kindL r ≠ 0) : oneF r ≠ [] ∧ (44 : UInt8) ∉ oneF r ∧ (oneF r).length ≤ 37 := by
  have h1 := real_len h
  have h2 := real_comma h
  rw [oneF]; split
  · refine ⟨by simp, ?_, by simp; omega⟩
    rw [List.mem_cons, not_or]; exact ⟨by decide, h2⟩
  · exact ⟨ne_of_kind h, h2, by omega⟩
theorem one_tell (l : List L) : ∀ p, l.all isL = true → Tell p (l.map oneF) l := by
  induction l with
  | nil => intro p _; trivial
  | cons r t ih =>
    intro p h
    simp only [List.all_cons, Bool.and_eq_true] at h
    have hr := (isL_iff r).1 h.1
    exact ⟨(one_ok hr).1, one_told hr p, h.1, ih r h.2⟩
theorem twice_exp {l : List L} {a b : L} (ha : isL a = true) (hb : isL b = true) (hl : l.all isL = true) (h8 : (onceL l).length ≤ 8) : expL (joinC ((l ++ l).map oneF)) a b = (onceL l, 0) := by
  have hll : (l ++ l).all isL = true := by rw [List.all_append, hl]; rfl
  have he : addsL [] (l ++ l) = onceL l := by
    rw [adds_append]
    exact adds_in l fun x hx => (mem_adds l).2 (.inr hx)
  have hok : ∀ f ∈ (l ++ l).map oneF, f ≠ [] ∧ (44 : UInt8) ∉ f := by
    intro f hf
    obtain ⟨r, hr, rfl⟩ := List.mem_map.1 hf
    have := one_ok (all_isL hll hr)
    exact ⟨this.1, this.2.1⟩
  by_cases hn : l = []
  · subst hn; exact exp_empty ha hb
  · have hne : (l ++ l).map oneF ≠ [] := by simpa using hn
    have hj : joinC ((l ++ l).map oneF) ≠ [] := by
      cases hm : (l ++ l).map oneF with
      | nil => exact absurd hm hne
      | cons f t =>
        have hf := (hok f (by rw [hm]; exact List.mem_cons_self)).1
        cases t with
        | nil => exact hf
        | cons g t => rw [join_cons (by simp)]; simp
    rw [exp_some ha hb hj, split_join hne fun f hf => (hok f hf).2, tell_exp _ (l ++ l) [] [] (one_tell _ _ hll) (by rw [he]; exact h8), he]

/-! ### one more -/
theorem ins_back {m : List L} {a b r : L} (hm : m.all isL = true) (hn : m.Nodup) (hl : m.length ≤ 8) (ha : isL a = true) (hb : isL b = true) (hr : isL r = true) :
    insL (compT m) a b r = if r = a ∨ r = b ∨ r ∈ m then (compT m, 0) else compL (m ++ [r]) := by
  have h := back_all hm hn hl ha hb
  rw [insL, h, if_neg (by simp), if_pos hr]

/-! ### junk -/
def junkB (c : UInt8) : Bool := !(capB c) && (c != 46 && (c != 47 && (c != 44 && c != 32)))
theorem junk_told {c : UInt8} {f p : L} (hj : junkB c = true) (h : c ∈ f) : isL (toldL f p) = false := by
  simp only [junkB, Bool.and_eq_true, Bool.not_eq_true', bne_iff_ne, ne_eq] at hj
  obtain ⟨h1, h2, h3, h4, h5⟩ := hj
  have hin : c ∈ toldL f p := by
    rw [toldL]
    split
    · exact List.mem_append_left _ h
    · split
      · exact List.mem_append_right _ h
      · split
        · rename_i hb
          obtain ⟨u, e⟩ := preB_iff.1 hb
          rw [e] at h ⊢
          simp only [List.cons_append, List.nil_append, List.mem_cons] at h
          simp only [List.cons_append, List.nil_append, List.drop_succ_cons, List.drop_zero, List.mem_cons]
          exact h.resolve_left h5
        · exact h
  cases q : isL (toldL f p) with
  | false => rfl
  | true => exact absurd hin (real_no ((isL_iff _).1 q) h1 h2 h3)
theorem junk_exp {c : UInt8} {cl sv : L} (hj : junkB c = true) (fs : List L) : ∀ (l : List L) (p : L), (∀ f ∈ fs, f ≠ []) → (∃ f ∈ fs, c ∈ f) → l.length + fs.length ≤ 9 → expF cl sv fs l p false = ([], 2) := by
  induction fs with
  | nil => intro l p _ h; obtain ⟨f, hf, _⟩ := h; cases hf
  | cons f t ih =>
    intro l p hne hex hlen
    have hf := hne f List.mem_cons_self
    cases hq : isL (toldL f p) with
    | false => exact expF_bad hf hq
    | true =>
      have hcf : c ∉ f := fun g => by rw [junk_told hj g] at hq; cases hq
      have hex' : ∃ g ∈ t, c ∈ g := by
        obtain ⟨g, hg, hcg⟩ := hex
        rcases List.mem_cons.1 hg with e | e
        · exact absurd (e ▸ hcg) hcf
        · exact ⟨g, e, hcg⟩
      have hal := add_len l (toldL f p)
      simp only [List.length_cons] at hlen
      have ht : 1 ≤ t.length := by
        obtain ⟨g, hg, _⟩ := hex'
        cases t with
        | nil => cases hg
        | cons a b => simp
      rw [expF_more hf hq (by rw [null_f]; omega), null_f]
      exact ih _ _ (fun g hg => hne g (List.mem_cons_of_mem _ hg)) hex' (by omega)
/-- a byte that is no comma, put in somewhere, lies in one of the pieces -/
theorem split_put {c : UInt8} (hc : c ≠ 44) (u v : L) : ∃ (A : List L) (x y : L) (B : List L), split 44 (u ++ v) = A ++ (x ++ y) :: B ∧ split 44 (u ++ c :: v) = A ++ (x ++ c :: y) :: B := by
  induction u with
  | nil =>
    cases hs : split 44 v with
    | nil => exact absurd hs (split_ne 44 v)
    | cons y B =>
      refine ⟨[], [], y, B, by simpa using hs, ?_⟩
      rw [List.nil_append, split, if_neg hc, hs]; rfl
  | cons a u ih =>
    obtain ⟨A, x, y, B, h1, h2⟩ := ih
    by_cases ha : a = 44
    · refine ⟨[] :: A, x, y, B, ?_, ?_⟩
      · rw [List.cons_append, split, if_pos ha, h1]; rfl
      · rw [List.cons_append, split, if_pos ha, h2]; rfl
    · cases A with
      | nil =>
        refine ⟨[], a :: x, y, B, ?_, ?_⟩
        · rw [List.cons_append, split, if_neg ha, h1]; rfl
        · rw [List.cons_append, split, if_neg ha, h2]; rfl
      | cons z A =>
        refine ⟨(a :: z) :: A, x, y, B, ?_, ?_⟩
        · rw [List.cons_append, split, if_neg ha, h1]; rfl
        · rw [List.cons_append, split, if_neg ha, h2]; rfl
theorem junk_all {m : List L} {c : UInt8} {k : Nat} {a b : L} (hm : m.all isL = true) (hm0 : m ≠ []) (hl : m.length ≤ 8) (ha : isL a = true) (hb : isL b = true) (hj : junkB c = true) :
    expL ((compT m).take k ++ c :: (compT m).drop k) a b = ([], 2) := by
  have hc44 : c ≠ 44 := by
    simp only [junkB, Bool.and_eq_true, Bool.not_eq_true', bne_iff_ne, ne_eq] at hj
    exact hj.2.2.2.1
  obtain ⟨A, x, y, B, h1, h2⟩ := split_put hc44 ((compT m).take k) ((compT m).drop k)
  rw [List.take_append_drop, compT, split_join (by intro e; have := fields_length m; rw [e] at this; exact hm0 (List.eq_nil_of_length_eq_zero this.symm)) (fun f hf => (fields_ok hm f hf).2.1)] at h1
  have hlen := fields_length m
  rw [h1] at hlen
  have hok := fun f hf => (fields_ok hm f hf).1
  rw [h1] at hok
  rw [exp_some ha hb (by simp), h2]
  refine junk_exp hj _ [] [] (fun f hf => ?_) ⟨x ++ c :: y, by simp, by simp⟩ (by simp at hlen ⊢; omega)
  rcases List.mem_append.1 hf with g | g
  · exact hok f (List.mem_append_left _ g)
  · rcases List.mem_cons.1 g with e | e
    · rw [e]; simp
    · exact hok f (List.mem_append_right _ (List.mem_cons_of_mem _ e))
end Go.Proofs.Ytmgbhkhkbebfpaa.Tr
