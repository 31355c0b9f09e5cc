/-
  Plain mathematics of chapter 5: the way from a to b, its ends, its steps; the tops.
-/
import Derived.Test.YtnalnhplcchdoaaNmPlain2
namespace Go.Proofs.Ytnalnhplcchdoaa.Nm

theorem path_ends {a b : L} (ha : a ≠ []) (hb : b ≠ []) (hab : a ≠ b) : ∃ M, pathL (ch a) (ch b) = a :: (M ++ [b]) := by
  rcases Nat.lt_or_ge (ix (ch a) (ch b)) (ch a).length with g | g
  · obtain ⟨h1, h2⟩ := ix_meet g
    rw [path_meet g]
    have ea : pl (ch a) 0 = a := ch_zero ha
    have eb : pl (ch b) 0 = b := ch_zero hb
    cases hi : ix (ch a) (ch b) with
    | zero =>
      rw [hi, ea] at h2
      rw [ea]
      cases hj : ix (ch b) (ch a) with
      | zero => rw [hj, eb] at h2; exact absurd h2.symm hab
      | succ j => exact ⟨((ch (upL b)).take j).reverse, by rw [ch_cons hb]; simp⟩
    | succ i =>
      cases hj : ix (ch b) (ch a) with
      | zero =>
        rw [hj, eb, hi] at h2
        exact ⟨(ch (upL a)).take i, by rw [← h2, ch_cons ha]; simp⟩
      | succ j => exact ⟨(ch (upL a)).take i ++ pl (ch a) (i + 1) :: ((ch (upL b)).take j).reverse, by
          rw [ch_cons hb]
          conv => lhs; rw [show (ch a).take (i + 1) = a :: (ch (upL a)).take i by rw [ch_cons ha]; rfl]
          simp⟩
  · have e : ix (ch a) (ch b) = (ch a).length := by have := ix_le (ch a) (ch b); omega
    exact ⟨ch (upL a) ++ (ch (upL b)).reverse, by rw [path_part e, ch_cons ha, ch_cons hb]; simp⟩
theorem path_between {a b : L} (ha : kindL a ≠ 0) (hb : kindL b ≠ 0) (hab : a ≠ b) : a :: (betweenL a b ++ [b]) = pathL (ch a) (ch b) := by
  obtain ⟨M, e⟩ := path_ends (ne_of_kind ha) (ne_of_kind hb) hab
  rw [betweenL, if_neg (by omega), e]
  simp
theorem path_mem {a b x : L} (h : x ∈ pathL (ch a) (ch b)) : x ∈ ch a ∨ x ∈ ch b := by
  rw [pathL, List.mem_append, List.mem_append, List.mem_reverse] at h
  rcases h with h | h | h
  · exact .inl (List.mem_of_mem_take h)
  · exact .inl (List.mem_of_mem_drop (List.mem_of_mem_take h))
  · exact .inr (List.mem_of_mem_take h)
theorem path_len (a b : L) : (pathL (ch a) (ch b)).length ≤ 9 := by
  have := ch_len a
  have := ch_len b
  rw [pathL]
  simp only [List.length_append, List.length_take, List.length_reverse, List.length_drop]
  omega
theorem between_len (a b : L) : (betweenL a b).length ≤ 9 := by
  rw [betweenL]
  split
  · simp
  · have := path_len a b
    simp only [List.length_dropLast, List.length_drop]; omega
theorem between_kind {a b x : L} (h : x ∈ betweenL a b) : kindL x ≠ 0 := by
  rw [betweenL] at h
  split at h
  · simp at h
  · rename_i hk
    rw [not_or] at hk
    have h2 := List.mem_of_mem_drop ((List.dropLast_sublist _).subset h)
    rcases path_mem h2 with h3 | h3
    · rw [mem_kind h3]; exact hk.1
    · rw [mem_kind h3]; exact hk.2
theorem path_kind {a b x : L} (ha : kindL a ≠ 0) (hb : kindL b ≠ 0) (h : x ∈ pathL (ch a) (ch b)) : kindL x ≠ 0 := by
  rcases path_mem h with h3 | h3
  · rw [mem_kind h3]; exact ha
  · rw [mem_kind h3]; exact hb

theorem between_under {a b : L} (h : underL a b = true) : (betweenL a b).length ≤ 4 := by
  have hm := under_mem h
  have hb : b ≠ [] := mem_ne hm
  rw [betweenL]
  split
  · simp
  · have h0 : ix (ch b) (ch a) = 0 := by
      refine ix_eq (ch_pos hb) ?_ (by omega)
      rw [show pl (ch b) 0 = b from ch_zero hb]; exact hm
    have := ch_len a
    rw [pathL, h0]
    simp only [List.take_zero, List.reverse_nil, List.append_nil, List.length_dropLast, List.length_drop, List.length_append, List.length_take]
    omega

/-! ### one step -/
def okS (x y : L) : Prop := upL x = y ∨ upL y = x ∨ (upL x = [] ∧ upL y = [])
theorem okS_symm {x y : L} (h : okS x y) : okS y x := by
  rcases h with h | h | h
  · exact .inr (.inl h)
  · exact .inl h
  · exact .inr (.inr ⟨h.2, h.1⟩)
def Steps : List L → Prop
  | [] => True
  | [_] => True
  | x :: y :: r => okS x y ∧ Steps (y :: r)
theorem steps_tail {x : L} {r : List L} (h : Steps (x :: r)) : Steps r := by
  cases r with
  | nil => trivial
  | cons y r => exact h.2
theorem steps_at : ∀ {A : List L}, Steps A → ∀ i, i + 1 < A.length → okS (pl A i) (pl A (i + 1))
  | [], _, i, h => by simp at h
  | [x], _, i, h => by simp at h
  | x :: y :: r, hs, 0, _ => hs.1
  | x :: y :: r, hs, i + 1, h => steps_at (A := y :: r) hs.2 i (by simpa using h)
theorem steps_of : ∀ {A : List L}, (∀ i, i + 1 < A.length → okS (pl A i) (pl A (i + 1))) → Steps A
  | [], _ => trivial
  | [_], _ => trivial
  | x :: y :: r, h => ⟨h 0 (by simp), steps_of fun i hi => h (i + 1) (by simpa using hi)⟩
theorem pl_append_left {A B : List L} {i : Nat} (h : i < A.length) : pl (A ++ B) i = pl A i := by
  rw [pl_lt (by simp; omega), pl_lt h, List.getElem_append_left h]
theorem pl_append_right {A B : List L} {i : Nat} (h : A.length ≤ i) : pl (A ++ B) i = pl B (i - A.length) := by
  rcases Nat.lt_or_ge i (A ++ B).length with g | g
  · rw [pl_lt g, List.getElem_append_right h, pl_lt]
  · rw [pl_ge g, pl_ge (by simp at g; omega)]
theorem pl_take {A : List L} {i k : Nat} (h : i < k) : pl (A.take k) i = pl A i := by
  rcases Nat.lt_or_ge i A.length with g | g
  · rw [pl_lt (by simp; omega), pl_lt g]; simp
  · rw [pl_ge g, pl_ge (by simp; omega)]
theorem pl_reverse {A : List L} {i j : Nat} (h : i + j + 1 = A.length) : pl A.reverse i = pl A j := by
  rw [pl_lt (by simp; omega), pl_lt (by omega), List.getElem_reverse]
  congr 1; omega
theorem path_steps {a b : L} (ha : kindL a ≠ 0) (hb : kindL b ≠ 0) : ∀ i, i + 1 < (pathL (ch a) (ch b)).length → okS (pl (pathL (ch a) (ch b)) i) (pl (pathL (ch a) (ch b)) (i + 1)) := by
  intro i hi
  have na := ne_of_kind ha
  have nb := ne_of_kind hb
  rcases Nat.lt_or_ge (ix (ch a) (ch b)) (ch a).length with g | g
  · obtain ⟨h1, h2⟩ := ix_meet g
    have e : pathL (ch a) (ch b) = (ch a).take (ix (ch a) (ch b) + 1) ++ ((ch b).take (ix (ch b) (ch a))).reverse := by
      rw [path_meet g, take_succ_pl g]; simp
    have lt : ((ch a).take (ix (ch a) (ch b) + 1)).length = ix (ch a) (ch b) + 1 := by rw [List.length_take]; omega
    have lb : ((ch b).take (ix (ch b) (ch a))).length = ix (ch b) (ch a) := by rw [List.length_take]; omega
    rw [e] at hi ⊢
    simp only [List.length_append, lt, List.length_reverse, lb] at hi
    rcases Nat.lt_trichotomy i (ix (ch a) (ch b)) with q | q | q
    · rw [pl_append_left (by omega), pl_append_left (by omega), pl_take (by omega), pl_take (by omega)]
      exact .inl (up_at a (by omega))
    · rw [pl_append_left (by omega), pl_append_right (by omega), lt, pl_take (by omega), q, pl_reverse (j := ix (ch b) (ch a) - 1) (by omega), pl_take (by omega), ← h2]
      exact .inr (.inl (by rw [up_at b (by omega)]; congr 1; omega))
    · rw [pl_append_right (by omega), pl_append_right (by omega), lt]
      obtain ⟨j, ej⟩ : ∃ j, i - (ix (ch a) (ch b) + 1) + j + 1 = ix (ch b) (ch a) := ⟨ix (ch b) (ch a) - 1 - (i - (ix (ch a) (ch b) + 1)), by omega⟩
      rw [pl_reverse (j := j) (by omega), pl_reverse (j := j - 1) (by omega), pl_take (by omega), pl_take (by omega)]
      exact .inr (.inl (by rw [up_at b (by omega)]; congr 1; omega))
  · have e : ix (ch a) (ch b) = (ch a).length := by have := ix_le (ch a) (ch b); omega
    have pa := ch_pos na
    have pb := ch_pos nb
    rw [path_part e] at hi ⊢
    simp only [List.length_append, List.length_reverse] at hi
    rcases Nat.lt_trichotomy (i + 1) (ch a).length with q | q | q
    · rw [pl_append_left (by omega), pl_append_left (by omega)]
      exact .inl (up_at a (by omega))
    · rw [pl_append_left (by omega), pl_append_right (by omega), q, pl_reverse (j := (ch b).length - 1) (by omega)]
      refine .inr (.inr ⟨?_, ?_⟩)
      · rw [up_at a (by omega), pl_ge (by omega)]
      · rw [up_at b (by omega), pl_ge (by omega)]
    · rw [pl_append_right (by omega), pl_append_right (by omega)]
      obtain ⟨j, ej⟩ : ∃ j, i - (ch a).length + j + 1 = (ch b).length := ⟨(ch b).length - 1 - (i - (ch a).length), by omega⟩
      rw [pl_reverse (j := j) (by omega), pl_reverse (j := j - 1) (by omega)]
      exact .inr (.inl (by rw [up_at b (by omega)]; congr 1; omega))
theorem path_nodup (a b : L) : (pathL (ch a) (ch b)).Nodup := by
  have na := ch_nodup a
  have nb := ch_nodup b
  have hrev : ((ch b).take (ix (ch b) (ch a))).reverse.Nodup := by
    have h1 := nb.sublist (List.take_sublist (ix (ch b) (ch a)) (ch b))
    rw [List.nodup_iff_pairwise_ne] at h1 ⊢
    rw [List.pairwise_reverse]
    exact h1.imp fun h => h.symm
  have hdis : ∀ x, x ∈ (ch b).take (ix (ch b) (ch a)) → x ∉ ch a := by
    intro x hx
    obtain ⟨j, hj, rfl⟩ := mem_pl hx
    rw [List.length_take] at hj
    rw [pl_take (by omega)]
    exact ix_not (by omega)
  rcases Nat.lt_or_ge (ix (ch a) (ch b)) (ch a).length with g | g
  · have e : pathL (ch a) (ch b) = (ch a).take (ix (ch a) (ch b) + 1) ++ ((ch b).take (ix (ch b) (ch a))).reverse := by
      rw [path_meet g, take_succ_pl g]; simp
    rw [e, List.nodup_append]
    refine ⟨na.sublist (List.take_sublist _ _), hrev, fun x hx y hy q => ?_⟩
    subst q
    exact hdis x (by simpa using hy) (List.mem_of_mem_take hx)
  · have e : ix (ch a) (ch b) = (ch a).length := by have := ix_le (ch a) (ch b); omega
    rw [path_part e, List.nodup_append]
    have e2 := ix_part e
    rw [e2, List.take_of_length_le (Nat.le_refl _)] at hrev hdis
    refine ⟨na, hrev, fun x hx y hy q => ?_⟩
    subst q
    exact hdis x (by simpa using hy) hx
theorem nodup_pl {A : List L} (h : A.Nodup) {i j : Nat} (hi : i < A.length) (hj : j < A.length) (e : pl A i = pl A j) : i = j := by
  rw [List.nodup_iff_pairwise_ne, List.pairwise_iff_getElem] at h
  rw [pl_lt hi, pl_lt hj] at e
  rcases Nat.lt_trichotomy i j with q | q | q
  · exact absurd e (h i j hi hj q)
  · exact q
  · exact absurd e.symm (h j i hj hi q)

/-! ### tops -/
def topL (a : L) : L := pl (ch a) ((ch a).length - 1)
theorem top_meet {a b : L} (h : topL a ≠ topL b) : ix (ch a) (ch b) = (ch a).length := by
  rcases Nat.lt_or_ge (ix (ch a) (ch b)) (ch a).length with g | g
  · exfalso
    obtain ⟨h1, h2⟩ := ix_meet g
    have e1 := ch_at _ a g
    have e2 := ch_at _ b h1
    rw [h2] at e2
    have e3 := e1.symm.trans e2
    have l3 := congrArg List.length e3
    simp only [List.length_drop] at l3
    apply h
    have p1 : topL a = pl ((ch a).drop (ix (ch a) (ch b))) ((ch a).length - ix (ch a) (ch b) - 1) := by
      rw [topL, pl_lt (by omega), pl_lt (by simp; omega), List.getElem_drop]; congr 1; omega
    have p2 : topL b = pl ((ch b).drop (ix (ch b) (ch a))) ((ch b).length - ix (ch b) (ch a) - 1) := by
      rw [topL, pl_lt (by omega), pl_lt (by simp; omega), List.getElem_drop]; congr 1; omega
    rw [p1, p2, e3, l3]
  · have := ix_le (ch a) (ch b); omega
end Go.Proofs.Ytnalnhplcchdoaa.Nm
